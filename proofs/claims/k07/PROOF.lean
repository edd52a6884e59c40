import PyProof.Rows.All
import Wide.All
import OpenK.AllK
import Wide.FinOn
import HandS.Base
import HandS.Call
import HandS.List
import HandS.Comp
import HandS.Ends
import HandS.Dict
import HandS.Iter
import HandS.Text
import HandS.Words
import HandS.WordsList
import HandS.WordsDict
import HandS.Conv
import HandS.Star
import HandS.IsInst
import HandS.SortKw
import HandS.Wide
import KE.DataMinMax
import KE.DataEq
import HandS.More
import HandS.Finally
import HandS.DictComp
import HandS.ExcInit
import HandS.ClsMeth
import HandS.FStr
import HandS.TryMany
import KE.IntTextLaws
import PyProof.FitsInt
import PyProof.DictUpdate
import PyProof.DictDisplay
import PyProof.DictTable
import HandS.ExcOwn
import HandS.TryOnly
import HandS.ExcIs
import HandS.ExcField
import HandS.WordsExc
import HandS.AnyAll
import HandS.RaiseMore
import HandS.EndTab
import HandS.Lambda
import KE.KNest
import KE.KExcIs
import PyProof.StrOps2
import PySem.Challenge.RW_foldercode_k07_read
set_option Elab.async false
set_option linter.all false
set_option maxRecDepth 100000
set_option maxHeartbeats 4000000
namespace FC
open PySem L2 StX
section
variable {P : Program} {w : World} {K : PySem.W.Frag} {mg : Str → Option Value} {base : Heap} {t1 t2 : Tok} {f g f1 f2 f3 f4 f5 f6 f7 f8 f9 : Addr} {fd gd fd1 fd2 fd3 fd4 fd5 fd6 fd7 fd8 fd9 : FuncData}
/-- a def of the text: where it stands, how it is called -/
structure Df (K : PySem.W.Frag) (mg : Str → Option Value) (x : Str) (st : Stmt) (ps : List Str) (f : Addr) (fd : FuncData) : Prop where
  F : Fun K x x st f fd
  b : Binds K fd ps []
  m : mg x = some (.ref f)
theorem Df.k {K mg x st ps f fd} (d : Df K mg x st ps f fd) : PySem.W.keepIn K (.ref f) = true := d.F.kp
/-- the built-ins that are called -/
structure Bl (mg : Str → Option Value) : Prop where
  len : mg "len" = none
  range : mg "range" = none
  sum : mg "sum" = none
  max : mg "max" = none
  min : mg "min" = none
  list : mg "list" = none
  int : mg "int" = none
  isi : mg "isinstance" = none
  bool : mg "bool" = none
  str : mg "str" = none
inductive Op where
  | sum | less | times | part | rest | below | same
  deriving DecidableEq, Repr
def Op.str : Op → Str
  | .sum => "sum" | .less => "less" | .times => "times" | .part => "part" | .rest => "rest" | .below => "below" | .same => "same"
inductive Ex where
  | num (n : Int)
  | nam (w : Str)
  | two (o : Op) (a b : Ex)
  | whn (c a b : Ex)
  | lett (w : Str) (a b : Ex)
  deriving DecidableEq
def Ex.size : Ex → Nat
  | .num _ => 1
  | .nam _ => 1
  | .two _ a b => a.size + b.size + 1
  | .whn c a b => c.size + a.size + b.size + 1
  | .lett _ a b => a.size + b.size + 1
def Ex.deep : Ex → Nat
  | .num _ => 1
  | .nam _ => 1
  | .two _ a b => max a.deep b.deep + 1
  | .whn c a b => max (max c.deep a.deep) b.deep + 1
  | .lett _ a b => max a.deep b.deep + 1
theorem Ex.deep_pos : ∀ e : Ex, 1 ≤ e.deep
  | .num _ => Nat.le_refl _
  | .nam _ => Nat.le_refl _
  | .two _ _ _ => Nat.le_add_left _ _
  | .whn _ _ _ => Nat.le_add_left _ _
  | .lett _ _ _ => Nat.le_add_left _ _
theorem Ex.size_pos : ∀ e : Ex, 1 ≤ e.size
  | .num _ => Nat.le_refl _
  | .nam _ => Nat.le_refl _
  | .two _ _ _ => Nat.le_add_left _ _
  | .whn _ _ _ => Nat.le_add_left _ _
  | .lett _ _ _ => Nat.le_add_left _ _
theorem Ex.deep_le : ∀ e : Ex, e.deep ≤ e.size
  | .num _ => Nat.le_refl _
  | .nam _ => Nat.le_refl _
  | .two _ a b => by
    have h1 := deep_le a
    have h2 := deep_le b
    show max a.deep b.deep + 1 ≤ a.size + b.size + 1
    omega
  | .whn c a b => by
    have h0 := deep_le c
    have h1 := deep_le a
    have h2 := deep_le b
    show max (max c.deep a.deep) b.deep + 1 ≤ c.size + a.size + b.size + 1
    omega
  | .lett _ a b => by
    have h1 := deep_le a
    have h2 := deep_le b
    show max a.deep b.deep + 1 ≤ a.size + b.size + 1
    omega
/-- the expressions that stand directly in it -/
def Ex.kids : Ex → List Ex
  | .num _ => []
  | .nam _ => []
  | .two _ a b => [a, b]
  | .whn c a b => [c, a, b]
  | .lett _ a b => [a, b]
/-- how its tuple begins -/
def Ex.head : Ex → List V
  | .num n => [.str "num", .int n]
  | .nam w => [.str "name", .str w]
  | .two o _ _ => [.str o.str]
  | .whn _ _ _ => [.str "when"]
  | .lett w _ _ => [.str "let", .str w]
/-- it stands in the heap at v -/
inductive Bears (H : Hp) : V → Ex → Prop where
  | num {a : Addr} {n : Int} : H a = some (.tup [.str "num", .int n]) → Bears H (.ref a) (.num n)
  | nam {a : Addr} {w : Str} : H a = some (.tup [.str "name", .str w]) → Bears H (.ref a) (.nam w)
  | two {a : Addr} {o : Op} {v1 v2 : V} {e1 e2 : Ex} : H a = some (.tup [.str o.str, v1, v2]) → Bears H v1 e1 → Bears H v2 e2 → Bears H (.ref a) (.two o e1 e2)
  | whn {a : Addr} {v0 v1 v2 : V} {e0 e1 e2 : Ex} : H a = some (.tup [.str "when", v0, v1, v2]) → Bears H v0 e0 → Bears H v1 e1 → Bears H v2 e2 → Bears H (.ref a) (.whn e0 e1 e2)
  | lett {a : Addr} {w : Str} {v1 v2 : V} {e1 e2 : Ex} : H a = some (.tup [.str "let", .str w, v1, v2]) → Bears H v1 e1 → Bears H v2 e2 → Bears H (.ref a) (.lett w e1 e2)
/-- tuples stay -/
def Tups (H H' : Hp) : Prop := ∀ a xs, H a = some (.tup xs) → H' a = some (.tup xs)
theorem Tups.of {H H' : Hp} (h : Same H H') : Tups H H' := fun a _ e => h a _ e
theorem Bears.mono {H H' : Hp} (h : Tups H H') : ∀ {v : V} {e : Ex}, Bears H v e → Bears H' v e := by
  intro v e b
  induction b with
  | num e => exact .num (h _ _ e)
  | nam e => exact .nam (h _ _ e)
  | two e _ _ i1 i2 => exact .two (h _ _ e) i1 i2
  | whn e _ _ _ i0 i1 i2 => exact .whn (h _ _ e) i0 i1 i2
  | lett e _ _ i1 i2 => exact .lett (h _ _ e) i1 i2
abbrev BearsL (H : Hp) : List V → List Ex → Prop := Paired (Bears H)
theorem BearsL.mono {H H' : Hp} (h : Tups H H') : ∀ {vs : List V} {es : List Ex}, BearsL H vs es → BearsL H' vs es
  | _, _, .nil => .nil
  | _, _, .cons a r => .cons (a.mono h) (BearsL.mono h r)
theorem Bears.out {H : Hp} {v : V} {e : Ex} (b : Bears H v e) : ∃ a ws, v = .ref a ∧ H a = some (.tup (e.head ++ ws)) ∧ BearsL H ws e.kids := by
  cases b with
  | num e => exact ⟨_, [], rfl, e, .nil⟩
  | nam e => exact ⟨_, [], rfl, e, .nil⟩
  | two e b1 b2 => exact ⟨_, [_, _], rfl, e, .cons b1 (.cons b2 .nil)⟩
  | whn e b0 b1 b2 => exact ⟨_, [_, _, _], rfl, e, .cons b0 (.cons b1 (.cons b2 .nil))⟩
  | lett e b1 b2 => exact ⟨_, [_, _], rfl, e, .cons b1 (.cons b2 .nil)⟩
theorem same_new {H : Hp} {p : Addr} (h : H p = none) (o : HO) : Same H (upd H p o) := fun b u q => by rw [upd_ne (ne_of_none q h)]; exact q
theorem sz {n : Nat} (h : n ≤ 1000) : n ≤ sizeLine := Nat.le_of_lt (small1000 h)
theorem op_in (o : Op) : inV (.str o.str) [.str "num", .str "name"] = false := by cases o <;> decide
theorem op_let (o : Op) : decide (V.str o.str = V.str "let") = false := by cases o <;> decide
theorem op_num (o : Op) : decide (V.str o.str = V.str "num") = false := by cases o <;> decide
theorem op_name (o : Op) : decide (V.str o.str = V.str "name") = false := by cases o <;> decide
def spParts (K : PySem.W.Frag) : Sp := fun vs H Q _ => ∃ (v : V) (e : Ex), vs = [v] ∧ Bears H v e ∧ ∀ (H' : Hp) (p : Addr) (ws : List V), Same H H' → H' p = some (.tup ws) → BearsL H' ws e.kids → Q (.ref p) H'
def spSize (n : Nat) : Sp := fun vs H Q _ => ∃ (v : V) (e : Ex), vs = [v] ∧ Bears H v e ∧ e.deep ≤ n ∧ ∀ (H' : Hp), Same H H' → Q (.int e.size) H'
theorem spSize0 : FnOk P w K mg base CX0 0 f fd ["expr"] (spSize 0) := by
  have no : ∀ vs H Q E, ¬ spSize 0 vs H Q E := fun vs H Q E h => by
    obtain ⟨v, e, _, _, h1, _⟩ := h
    have := e.deep_pos
    omega
  exact ⟨fun vs H Q E h => absurd h (no vs H Q E), fun A outer s H args us vs Q E _ _ _ _ h => absurd h (no vs H Q E)⟩
theorem Ex.size_kids (e : Ex) : (e.size : Int) = 1 + (e.kids.map fun x => (x.size : Int)).sum := by
  cases e <;> simp only [Ex.size, Ex.kids, List.map, List.sum_cons, List.sum_nil] <;> omega
theorem Ex.deep_kids {e x : Ex} (h : x ∈ e.kids) : x.deep + 1 ≤ e.deep := by
  cases e with
  | num _ => cases h
  | nam _ => cases h
  | two o a b =>
    show _ ≤ max a.deep b.deep + 1
    rcases List.mem_cons.mp h with rfl | h
    · omega
    · rcases List.mem_cons.mp h with rfl | h
      · omega
      · cases h
  | whn c a b =>
    show _ ≤ max (max c.deep a.deep) b.deep + 1
    rcases List.mem_cons.mp h with rfl | h
    · omega
    · rcases List.mem_cons.mp h with rfl | h
      · omega
      · rcases List.mem_cons.mp h with rfl | h
        · omega
        · cases h
  | lett _ a b =>
    show _ ≤ max a.deep b.deep + 1
    rcases List.mem_cons.mp h with rfl | h
    · omega
    · rcases List.mem_cons.mp h with rfl | h
      · omega
      · cases h
theorem BearsL.get {H : Hp} : ∀ {vs : List V} {es : List Ex} {i : Nat} {v : V}, BearsL H vs es → vs[i]? = some v → ∃ e, es[i]? = some e ∧ Bears H v e
  | _, _, _, _, .nil, h => by simp at h
  | _, _, 0, _, .cons b _, h => by simp at h; subst h; exact ⟨_, rfl, b⟩
  | _, _, i + 1, v, .cons _ r, h => by
    obtain ⟨e, h1, h2⟩ := BearsL.get (i := i) (v := v) r (by simpa using h)
    exact ⟨e, by simpa using h1, h2⟩
theorem BearsL.len {H : Hp} {vs : List V} {es : List Ex} (b : BearsL H vs es) : vs.length = es.length := Paired.length b
theorem Ex.kids_len (e : Ex) : e.kids.length ≤ 3 := by cases e <;> simp [Ex.kids]
def rMaxD (K : PySem.W.Frag) : List V → List V → Hp → VK → Prop := fun vs zs H Q => ∃ (a : Addr) (ns : List Int) (d : Int), vs = [V.ref a] ∧ zs = [V.int d] ∧ SqL K H a (ns.map V.int) ∧
  (ns = [] → Q (.int d) H) ∧ ∀ y ys, ns = y :: ys → Q (.int (ys.foldl max y)) H
theorem depthAll_ints : ∀ ns : List Int, PyData.depthAll (ns.map PyData.int) = 0
  | [] => rfl
  | n :: r => by
    have ih := depthAll_ints r
    show PyData.depthAll (PyData.int n :: r.map PyData.int) = 0
    unfold PyData.depthAll
    rw [ih]
    rfl
theorem alike_ints (ns : List Int) : PySem.W.AlikeAll (ns.map PyData.int) := by
  refine ⟨fun x hx y hy => ?_, fun x hx => ?_⟩
  · obtain ⟨i, _, rfl⟩ := List.mem_map.mp hx
    obtain ⟨j, _, rfl⟩ := List.mem_map.mp hy
    rfl
  · obtain ⟨i, _, rfl⟩ := List.mem_map.mp hx
    exact fun z => nomatch z
theorem cr_maxD {X : Cx} (hc : X.calm = true) (hu : X.A.units + 64 < cLine) : CallRK X (.builtin "max") ["default"] (rMaxD X.K) := by
  intro pins s σ H xs zs us ws Q I r r2 h
  obtain ⟨a, ns, d, rfl, rfl, hs, q0, q1⟩ := h
  obtain ⟨its, rv, hl, _⟩ := I.list hs
  rw [Vals.ref1 r]
  obtain ⟨u, rfl, ru⟩ := vals1 r2
  obtain ⟨td, rfl⟩ := ru
  have hi := rv.ints
  have e0 : its.toArray.toList = its := by simp
  refine PySem.W.max_list_default (I.ok.hd hc) hl.isList (xs := ns.map PyData.int) (as := []) (by rw [e0]; exact PyProof.Rows.IntsAre.reads _ hi) (alike_ints ns) (by rw [depthAll_ints]; omega) (fun hn h' tk hk => ?_) (fun y ys i v h' tk bs e hv hr hk => ?_)
  · have hn' : ns = [] := List.map_eq_nil_iff.mp hn
    exact ⟨.int d, H, I.kept hk, ⟨td, rfl⟩, q0 hn'⟩
  · cases ns with
    | nil => cases e
    | cons m ms =>
      rw [List.map_cons] at e
      injection e with e1 e2
      subst e1 e2
      rw [PySem.W.maxD_ints] at hr
      cases hr with
      | int _ t => exact ⟨.int _, H, I.kept hk, ⟨t, rfl⟩, q1 m ms rfl⟩
def rEqLen (K : PySem.W.Frag) : R2 := fun x y H Q => ∃ a b xs ys, x = .ref a ∧ y = .ref b ∧ SqL K H a xs ∧ SqL K H b ys ∧ ((xs.length ≠ ys.length ∧ Q (.bl false) H) ∨ (xs = [] ∧ ys = [] ∧ Q (.bl true) H))
theorem op_eqLen {X : Cx} (hu : X.A.units < cLine) : OpR X (compareOp .Eq) (rEqLen X.K) := by
  intro pins s σ H x y v u Q I rx ry h
  obtain ⟨a, b, xs, ys, rfl, rfl, hx, hy, h⟩ := h
  obtain ⟨its, rv, hl, _⟩ := I.list hx
  obtain ⟨its2, rv2, hl2, _⟩ := I.list hy
  cases rx
  cases ry
  have n1 := rv.length
  have n2 := rv2.length
  rcases h with ⟨ne, q⟩ | ⟨rfl, rfl, q⟩
  · exact SeqAt.RcAt.lists_lengths hl.isList hl2.isList (by simp; omega) hu _ _ _ _ ⟨.bl false, H, I, rfl, q⟩
  · have z1 : its = [] := List.eq_nil_of_length_eq_zero n1.symm
    have z2 : its2 = [] := List.eq_nil_of_length_eq_zero n2.symm
    subst z1 z2
    exact SeqAt.RcAt.lists (e := fun _ => true) hl.isList hl2.isList rfl hu (fun j h1 _ => absurd h1 (Nat.not_lt_zero _)) _ _ _ _ ⟨.bl true, H, I, rfl, q⟩
def spDeep (n : Nat) : Sp := fun vs H Q _ => ∃ (v : V) (e : Ex), vs = [v] ∧ Bears H v e ∧ e.deep ≤ n ∧ ∀ (H' : Hp), Same H H' → Q (.int e.deep) H'
theorem spDeep0 : FnOk P w K mg base CX0 0 f fd ["expr"] (spDeep 0) := by
  have no : ∀ vs H Q E, ¬ spDeep 0 vs H Q E := fun vs H Q E h => by
    obtain ⟨v, e, _, _, h1, _⟩ := h
    have := e.deep_pos
    omega
  exact ⟨fun vs H Q E h => absurd h (no vs H Q E), fun A outer s H args us vs Q E _ _ _ _ h => absurd h (no vs H Q E)⟩
theorem max_cast (a b : Nat) : max (a : Int) (b : Int) = ((max a b : Nat) : Int) := by omega
def addS (ks : List Str) (w : Str) : List Str := if w ∈ ks then ks else ks ++ [w]
def gath : Ex → List Str → List Str → List Str
  | .num _, _, ks => ks
  | .nam w, hid, ks => if w ∈ hid then ks else addS ks w
  | .two _ a b, hid, ks => gath b hid (gath a hid ks)
  | .whn c a b, hid, ks => gath b hid (gath a hid (gath c hid ks))
  | .lett w a b, hid, ks => gath b (hid ++ [w]) (gath a hid ks)
theorem addS_len (ks : List Str) (w : Str) : (addS ks w).length ≤ ks.length + 1 := by
  unfold addS
  split
  · exact Nat.le_succ _
  · rw [List.length_append]; exact Nat.le_refl _
theorem gath_len : ∀ (e : Ex) (hid ks : List Str), (gath e hid ks).length ≤ ks.length + e.size
  | .num _, _, ks => Nat.le_succ _
  | .nam w, hid, ks => by
    unfold gath
    split
    · exact Nat.le_succ _
    · exact addS_len _ _
  | .two _ a b, hid, ks => by
    have h1 := gath_len a hid ks
    have h2 := gath_len b hid (gath a hid ks)
    show (gath b hid (gath a hid ks)).length ≤ ks.length + (a.size + b.size + 1)
    omega
  | .whn c a b, hid, ks => by
    have h0 := gath_len c hid ks
    have h1 := gath_len a hid (gath c hid ks)
    have h2 := gath_len b hid (gath a hid (gath c hid ks))
    show (gath b hid (gath a hid (gath c hid ks))).length ≤ ks.length + (c.size + a.size + b.size + 1)
    omega
  | .lett w a b, hid, ks => by
    have h1 := gath_len a hid ks
    have h2 := gath_len b (hid ++ [w]) (gath a hid ks)
    show (gath b (hid ++ [w]) (gath a hid ks)).length ≤ ks.length + (a.size + b.size + 1)
    omega
def gathL (hid : List Str) : List Ex → List Str → List Str
  | [], ks => ks
  | e :: r, ks => gathL hid r (gath e hid ks)
def sizeL : List Ex → Nat
  | [] => 0
  | e :: r => e.size + sizeL r
theorem gathL_append (hid : List Str) : ∀ (l m : List Ex) (ks : List Str), gathL hid (l ++ m) ks = gathL hid m (gathL hid l ks)
  | [], _, _ => rfl
  | e :: r, m, ks => gathL_append hid r m (gath e hid ks)
theorem gathL_len (hid : List Str) : ∀ (l : List Ex) (ks : List Str), (gathL hid l ks).length ≤ ks.length + sizeL l
  | [], ks => Nat.le_refl _
  | e :: r, ks => by
    have h1 := gath_len e hid ks
    have h2 := gathL_len hid r (gath e hid ks)
    show (gathL hid r (gath e hid ks)).length ≤ ks.length + (e.size + sizeL r)
    omega
theorem sizeL_append : ∀ (l m : List Ex), sizeL (l ++ m) = sizeL l + sizeL m
  | [], m => (Nat.zero_add _).symm
  | e :: r, m => by
    show e.size + sizeL (r ++ m) = e.size + sizeL r + sizeL m
    rw [sizeL_append r m, Nat.add_assoc]
theorem sizeL_take (l : List Ex) (i : Nat) : sizeL (l.take i) + sizeL (l.drop i) = sizeL l := by
  rw [← sizeL_append, List.take_append_drop]
theorem take_succ_sizeL {l : List Ex} {i : Nat} {e : Ex} (h : l[i]? = some e) : sizeL (l.take i) + e.size ≤ sizeL l := by
  have h1 := sizeL_take l (i + 1)
  rw [List.take_add_one, h, sizeL_append] at h1
  have : sizeL (some e).toList = e.size := Nat.add_zero _
  rw [this] at h1
  omega
theorem Ex.sizeL_kids (e : Ex) : sizeL e.kids + 1 = e.size := by
  cases e <;> simp only [sizeL, Ex.kids, Ex.size] <;> omega
def dk (ks : List Str) : List (Key × V) := ks.map fun w => ((Sum.inr w : Key), V.bl true)
theorem dk_any : ∀ (ks : List Str) (w : Str), ((dk ks).any fun kv => decide (kv.1 = (Sum.inr w : Key))) = decide (w ∈ ks)
  | [], w => by simp [dk]
  | x :: r, w => by
    have ih := dk_any r w
    show (decide ((Sum.inr x : Key) = Sum.inr w) || ((dk r).any fun kv => decide (kv.1 = (Sum.inr w : Key)))) = _
    rw [ih, key_rr]
    by_cases h : x = w
    · subst h; simp
    · have h' : ¬ w = x := fun z => h z.symm
      simp [h, h']
theorem dk_put (ks : List Str) (w : Str) : putK (dk ks) (Sum.inr w : Key) (.bl true) = dk (addS ks w) := by
  unfold putK addS
  rw [dk_any]
  by_cases h : w ∈ ks
  · rw [if_pos (decide_eq_true h), if_pos h]
    unfold dk
    rw [List.map_map]
    refine List.map_congr_left fun x _ => ?_
    show (if (Sum.inr x : Key) = Sum.inr w then ((Sum.inr x : Key), V.bl true) else (Sum.inr x, V.bl true)) = _
    split <;> rfl
  · rw [if_neg (by simpa using h), if_neg h]
    unfold dk
    rw [List.map_append]
    rfl
theorem inV_strs (w : Str) : ∀ l : List Str, inV (.str w) (l.map V.str) = decide (w ∈ l)
  | [] => by simp [inV]
  | x :: r => by
    have ih := inV_strs w r
    unfold inV at ih ⊢
    rw [List.map_cons, List.any_cons, ih]
    by_cases h : x = w
    · subst h; simp [eqV]
    · have h' : ¬ w = x := fun z => h z.symm
      simp [eqV, h, h']
theorem flat_strs (l : List Str) : (l.map V.str).all flatV = true := by
  rw [List.all_eq_true]
  intro v hv
  obtain ⟨x, _, rfl⟩ := List.mem_map.mp hv
  rfl
theorem Bears.tri {H : Hp} {v : V} {e : Ex} (b : Bears H v e) : (∃ a x, v = .ref a ∧ e = .nam x ∧ H a = some (.tup [.str "name", .str x])) ∨
    (∃ a x v1 v2 e1 e2, v = .ref a ∧ e = .lett x e1 e2 ∧ H a = some (.tup [.str "let", .str x, v1, v2]) ∧ Bears H v1 e1 ∧ Bears H v2 e2) ∨
    (∃ a s ws, v = .ref a ∧ H a = some (.tup (.str s :: ws)) ∧ decide (V.str s = V.str "name") = false ∧ decide (V.str s = V.str "let") = false ∧ (∀ hid ks, gath e hid ks = gathL hid e.kids ks)) := by
  cases b with
  | nam h => exact .inl ⟨_, _, rfl, rfl, h⟩
  | lett h b1 b2 => exact .inr (.inl ⟨_, _, _, _, _, _, rfl, rfl, h, b1, b2⟩)
  | num h => exact .inr (.inr ⟨_, _, _, rfl, h, by decide, by decide, fun _ _ => rfl⟩)
  | @two a o _ _ _ _ h _ _ => exact .inr (.inr ⟨_, _, _, rfl, h, op_name o, op_let o, fun _ _ => rfl⟩)
  | whn h _ _ _ => exact .inr (.inr ⟨_, _, _, rfl, h, by decide, by decide, fun _ _ => rfl⟩)
/-- all stands but what stands at d -/
def But (d : Addr) (H H' : Hp) : Prop := ∀ b o, b ≠ d → H b = some o → H' b = some o
theorem But.refl (d : Addr) (H : Hp) : But d H H := fun _ _ _ h => h
theorem But.trans {d : Addr} {H H1 H2 : Hp} (a : But d H H1) (b : But d H1 H2) : But d H H2 := fun c o n h => b c o n (a c o n h)
theorem But.of {d : Addr} {H H' : Hp} (h : Same H H') : But d H H' := fun b o _ e => h b o e
theorem But.tups {d : Addr} {H H' : Hp} {kvs : List (Key × V)} (h : But d H H') (hd : H d = some (.dK kvs)) : Tups H H' := fun a xs e => h a _ (ne_of e hd (fun z => nomatch z)) e
theorem But.upd {d : Addr} {H : Hp} {o : HO} : But d H (upd H d o) := fun b _ n e => by rw [upd_ne n]; exact e
def spGather (n : Nat) : Sp := fun vs H Q _ => ∃ (v : V) (e : Ex) (a d : Addr) (hid ks : List Str), vs = [v, .ref a, .ref d] ∧ Bears H v e ∧ e.deep ≤ n ∧ H a = some (.tup (hid.map V.str)) ∧ hid.length + e.size ≤ 1000 ∧
  H d = some (.dK (dk ks)) ∧ ks.length + e.size ≤ 1000 ∧ ∀ (H' : Hp), But d H H' → H' d = some (.dK (dk (gath e hid ks))) → Q .non H'
theorem spGather0 : FnOk P w K mg base CX0 0 f fd ["expr", "hidden", "found"] (spGather 0) := by
  have no : ∀ vs H Q E, ¬ spGather 0 vs H Q E := fun vs H Q E h => by
    obtain ⟨v, e, a, d, hid, ks, _, _, h1, _⟩ := h
    have := e.deep_pos
    omega
  exact ⟨fun vs H Q E h => absurd h (no vs H Q E), fun A outer s H args us vs Q E _ _ _ _ h => absurd h (no vs H Q E)⟩
def spNeeds (n : Nat) : Sp := fun vs H Q _ => ∃ (v : V) (e : Ex), vs = [v] ∧ Bears H v e ∧ e.deep ≤ n ∧ e.size ≤ 1000 ∧ ∀ (H' : Hp) (p : Addr), Same H H' → H p = none → H' p = some (.lst ((gath e [] []).map V.str)) → Q (.ref p) H'
theorem Bears.node {H : Hp} {v : V} {e : Ex} (b : Bears H v e) :
    (∃ a wd x, v = .ref a ∧ H a = some (.tup [.str wd, x]) ∧ ((wd = "num" ∧ ∃ n, e = .num n) ∨ (wd = "name" ∧ ∃ w, x = .str w ∧ e = .nam w))) ∨
    (∃ a wd xs ws bl, v = .ref a ∧ H a = some (.tup (.str wd :: xs)) ∧ decide (V.str wd = V.str "num") = false ∧ decide (V.str wd = V.str "name") = false ∧ decide (V.str wd = V.str "let") = bl ∧
      BearsL H ws e.kids ∧ cutV (.str wd :: xs) (some (1 + if bl = true then 1 else 0)) none = ws ∧
      ¬ (HT.sIx (V.str wd :: xs).length 0 (some (1 + if bl = true then 1 else 0)) = 0 ∧ HT.sIx (V.str wd :: xs).length (V.str wd :: xs).length none = (V.str wd :: xs).length) ∧
      (xs.length = ws.length + (if bl = true then 1 else 0)) ∧ (∀ i, xs[i + (if bl = true then 1 else 0)]? = ws[i]?) ∧ ((bl = false ∧ ∀ x a b, e ≠ .lett x a b) ∨ (bl = true ∧ ∃ x e1 e2, e = .lett x e1 e2 ∧ xs[0]? = some (.str x))) ∧ e.kids ≠ []) := by
  cases b with
  | num h => exact .inl ⟨_, _, _, rfl, h, .inl ⟨rfl, _, rfl⟩⟩
  | nam h => exact .inl ⟨_, _, _, rfl, h, .inr ⟨rfl, _, rfl, rfl⟩⟩
  | @two a o v1 v2 e1 e2 h b1 b2 => exact .inr ⟨_, _, _, [v1, v2], false, rfl, h, op_num o, op_name o, op_let o, .cons b1 (.cons b2 .nil), rfl, (fun z => by cases z.1), rfl, fun _ => rfl, .inl ⟨rfl, fun _ _ _ z => nomatch z⟩, fun z => nomatch z⟩
  | @whn a v0 v1 v2 e0 e1 e2 h b0 b1 b2 => exact .inr ⟨_, _, _, [v0, v1, v2], false, rfl, h, by decide, by decide, by decide, .cons b0 (.cons b1 (.cons b2 .nil)), rfl, (fun z => by cases z.1), rfl, fun _ => rfl, .inl ⟨rfl, fun _ _ _ z => nomatch z⟩, fun z => nomatch z⟩
  | @lett a x v1 v2 e1 e2 h b1 b2 => exact .inr ⟨_, _, _, [v1, v2], true, rfl, h, by decide, by decide, by decide, .cons b1 (.cons b2 .nil), rfl, (fun z => by cases z.1), rfl, fun _ => rfl, .inr ⟨rfl, _, _, _, rfl, rfl⟩, fun z => nomatch z⟩
theorem spLSize0 : FnOk P w K mg base CX0 0 f fd ["_law_expr"] (spSize 0) := by
  have no : ∀ vs H Q E, ¬ spSize 0 vs H Q E := fun vs H Q E h => by
    obtain ⟨v, e, _, _, h1, _⟩ := h
    have := e.deep_pos
    omega
  exact ⟨fun vs H Q E h => absurd h (no vs H Q E), fun A outer s H args us vs Q E _ _ _ _ h => absurd h (no vs H Q E)⟩
def deepL : List Ex → Nat → Nat
  | [], m => m
  | e :: r, m => deepL r (max m e.deep)
theorem deepL_append : ∀ (l m : List Ex) (k : Nat), deepL (l ++ m) k = deepL m (deepL l k)
  | [], _, _ => rfl
  | e :: r, m, k => deepL_append r m (max k e.deep)
theorem Ex.deepL_kids (e : Ex) : deepL e.kids 0 + 1 = e.deep := by
  cases e <;> simp only [deepL, Ex.kids, Ex.deep] <;> omega
theorem spLDeep0 : FnOk P w K mg base CX0 0 f fd ["_law_expr"] (spDeep 0) := by
  have no : ∀ vs H Q E, ¬ spDeep 0 vs H Q E := fun vs H Q E h => by
    obtain ⟨v, e, _, _, h1, _⟩ := h
    have := e.deep_pos
    omega
  exact ⟨fun vs H Q E h => absurd h (no vs H Q E), fun A outer s H args us vs Q E _ _ _ _ h => absurd h (no vs H Q E)⟩
def addAll (ks : List Str) (l : List Str) : List Str := l.foldl addS ks
def lneeds : Ex → List Str
  | .num _ => []
  | .nam w => [w]
  | .two _ a b => addAll (addAll [] (lneeds a)) (lneeds b)
  | .whn c a b => addAll (addAll (addAll [] (lneeds c)) (lneeds a)) (lneeds b)
  | .lett w a b => addAll (addAll [] (lneeds a)) ((lneeds b).filter fun x => !decide (x = w))
theorem mem_addS {ks : List Str} {w x : Str} : x ∈ addS ks w ↔ x ∈ ks ∨ x = w := by
  unfold addS
  split
  · rename_i h
    exact ⟨.inl, fun z => z.elim id fun e => e ▸ h⟩
  · simp
theorem mem_addAll {x : Str} : ∀ {l ks : List Str}, x ∈ addAll ks l ↔ x ∈ ks ∨ x ∈ l
  | [], ks => by simp [addAll]
  | w :: r, ks => by
    show x ∈ addAll (addS ks w) r ↔ _
    rw [mem_addAll, mem_addS, List.mem_cons, or_assoc]
theorem addS_in {ks : List Str} {w : Str} (h : w ∈ ks) : addS ks w = ks := if_pos h
theorem addAll_in : ∀ {l ks : List Str}, (∀ x ∈ l, x ∈ ks) → addAll ks l = ks
  | [], _, _ => rfl
  | w :: r, ks, h => by
    show addAll (addS ks w) r = ks
    rw [addS_in (h w List.mem_cons_self)]
    exact addAll_in fun x hx => h x (List.mem_cons_of_mem _ hx)
theorem addAll_append (ks l m : List Str) : addAll ks (l ++ m) = addAll (addAll ks l) m := List.foldl_append
/-- what is added one by one may be added at once -/
theorem addAll_addAll : ∀ (m l ks : List Str), addAll ks (addAll l m) = addAll (addAll ks l) m
  | [], _, _ => rfl
  | w :: r, l, ks => by
    show addAll ks (addAll (addS l w) r) = addAll (addS (addAll ks l) w) r
    rw [addAll_addAll r (addS l w) ks]
    congr 1
    unfold addS
    by_cases h : w ∈ l
    · rw [if_pos h, if_pos (mem_addAll.mpr (.inr h))]
    · rw [if_neg h, addAll_append]
      rfl
theorem filter_addS (p : Str → Bool) (ks : List Str) (w : Str) : (addS ks w).filter p = if p w = true then addS (ks.filter p) w else ks.filter p := by
  unfold addS
  by_cases h : w ∈ ks
  · by_cases hp : p w = true
    · rw [if_pos h, if_pos hp, if_pos (List.mem_filter.mpr ⟨h, hp⟩)]
    · rw [if_pos h, if_neg hp]
  · by_cases hp : p w = true
    · rw [if_neg h, if_pos hp, if_neg fun z => h (List.mem_filter.mp z).1, List.filter_append, List.filter_cons_of_pos hp, List.filter_nil]
    · rw [if_neg h, if_neg hp, List.filter_append, List.filter_cons_of_neg hp, List.filter_nil, List.append_nil]
theorem filter_addAll (p : Str → Bool) : ∀ (l ks : List Str), (addAll ks l).filter p = addAll (ks.filter p) (l.filter p)
  | [], _ => rfl
  | w :: r, ks => by
    show (addAll (addS ks w) r).filter p = _
    rw [filter_addAll p r, filter_addS]
    by_cases hp : p w = true
    · rw [if_pos hp, List.filter_cons_of_pos hp]
      rfl
    · rw [if_neg hp, List.filter_cons_of_neg hp]
abbrev out (hid : List Str) (l : List Str) : List Str := l.filter fun x => !decide (x ∈ hid)
theorem out_addAll (hid ks l : List Str) : out hid (addAll ks l) = addAll (out hid ks) (out hid l) := filter_addAll _ _ _
theorem out_nil (hid : List Str) : out hid [] = [] := rfl
theorem addAll_addAll0 (l ks : List Str) : addAll ks (addAll [] l) = addAll ks l := addAll_addAll l [] ks
theorem out_own (hid : List Str) (w : Str) (l : List Str) : out hid (l.filter fun x => !decide (x = w)) = out (hid ++ [w]) l := by
  unfold out
  rw [List.filter_filter]
  refine List.filter_congr fun x _ => ?_
  simp
theorem gath_eq : ∀ (e : Ex) (hid ks : List Str), gath e hid ks = addAll ks (out hid (lneeds e))
  | .num _, _, _ => rfl
  | .nam w, hid, ks => by
    show (if w ∈ hid then ks else addS ks w) = addAll ks (List.filter (fun x => !decide (x ∈ hid)) [w])
    by_cases h : w ∈ hid
    · rw [if_pos h, List.filter_cons_of_neg (by simpa using h)]
      rfl
    · rw [if_neg h, List.filter_cons_of_pos (by simpa using h)]
      rfl
  | .two _ a b, hid, ks => by
    show gath b hid (gath a hid ks) = addAll ks (out hid (addAll (addAll [] (lneeds a)) (lneeds b)))
    rw [gath_eq b, gath_eq a, out_addAll, out_addAll, out_nil, addAll_addAll, addAll_addAll0]
  | .whn c a b, hid, ks => by
    show gath b hid (gath a hid (gath c hid ks)) = addAll ks (out hid (addAll (addAll (addAll [] (lneeds c)) (lneeds a)) (lneeds b)))
    rw [gath_eq b, gath_eq a, gath_eq c, out_addAll, out_addAll, out_addAll, out_nil, addAll_addAll, addAll_addAll, addAll_addAll0]
  | .lett w a b, hid, ks => by
    show gath b (hid ++ [w]) (gath a hid ks) = addAll ks (out hid (addAll (addAll [] (lneeds a)) ((lneeds b).filter fun x => !decide (x = w))))
    rw [gath_eq b, gath_eq a, out_addAll, out_addAll, out_nil, addAll_addAll, addAll_addAll0, out_own]
theorem addAll_nodup_self : ∀ (l : List Str), l.Nodup → ∀ ks : List Str, (∀ x ∈ l, x ∉ ks) → addAll ks l = ks ++ l
  | [], _, ks, _ => (List.append_nil ks).symm
  | w :: r, hn, ks, h => by
    obtain ⟨h1, h2⟩ := List.nodup_cons.mp hn
    show addAll (addS ks w) r = ks ++ w :: r
    have e : addS ks w = ks ++ [w] := if_neg (h w List.mem_cons_self)
    rw [e, addAll_nodup_self r h2 (ks ++ [w]) fun x hx z => ?_, List.append_assoc]
    · rfl
    · rcases List.mem_append.mp z with z | z
      · exact h x (List.mem_cons_of_mem _ hx) z
      · have := List.mem_singleton.mp z
        subst this
        exact h1 hx
theorem addS_nodup {ks : List Str} {w : Str} (h : ks.Nodup) : (addS ks w).Nodup := by
  unfold addS
  split
  · exact h
  · rename_i hw
    exact nd_snoc h hw
theorem addAll_nodup : ∀ (l ks : List Str), ks.Nodup → (addAll ks l).Nodup
  | [], _, h => h
  | _ :: r, _, h => addAll_nodup r _ (addS_nodup h)
theorem lneeds_nodup : ∀ e : Ex, (lneeds e).Nodup
  | .num _ => List.nodup_nil
  | .nam w => by simp [lneeds]
  | .two _ _ _ => addAll_nodup _ _ (addAll_nodup _ _ List.nodup_nil)
  | .whn _ _ _ => addAll_nodup _ _ (addAll_nodup _ _ (addAll_nodup _ _ List.nodup_nil))
  | .lett _ _ _ => addAll_nodup _ _ (addAll_nodup _ _ List.nodup_nil)
theorem gath_lneeds (e : Ex) : gath e [] [] = lneeds e := by
  rw [gath_eq]
  have h1 : out [] (lneeds e) = lneeds e := by
    refine List.filter_eq_self.mpr fun x _ => ?_
    simp
  rw [h1, addAll_nodup_self _ (lneeds_nodup e) [] (fun x _ z => nomatch z), List.nil_append]
theorem addAll_len (l : List Str) : ∀ ks : List Str, (addAll ks l).length ≤ ks.length + l.length := by
  induction l with
  | nil => intro ks; exact Nat.le_refl _
  | cons w r ih =>
    intro ks
    have h1 := ih (addS ks w)
    have h2 := addS_len ks w
    show (addAll (addS ks w) r).length ≤ ks.length + (r.length + 1)
    omega
/-- the names a kid gives: those that aren't the let's own -/
def own (o : Option Str) (i : Nat) (y : Str) : Bool := match o with
  | some x => decide (i = 1) && decide (y = x)
  | none => false
def kn (o : Option Str) : Nat → List Ex → List Str → List Str
  | _, [], ks => ks
  | i, e :: r, ks => kn o (i + 1) r (addAll ks ((lneeds e).filter fun y => !own o i y))
theorem kn_append (o : Option Str) : ∀ (l m : List Ex) (i : Nat) (ks : List Str), kn o i (l ++ m) ks = kn o (i + l.length) m (kn o i l ks)
  | [], _, _, _ => rfl
  | e :: r, m, i, ks => by
    show kn o (i + 1) (r ++ m) _ = _
    rw [kn_append o r m (i + 1), List.length_cons]
    have e1 : i + 1 + r.length = i + (r.length + 1) := by omega
    rw [e1]
    rfl
def ownOf : Ex → Option Str
  | .lett x _ _ => some x
  | _ => none
theorem filter_all (l : List Str) : l.filter (fun _ => !false) = l := List.filter_eq_self.mpr fun _ _ => rfl
theorem kn_lneeds {e : Ex} (h : e.kids ≠ []) : kn (ownOf e) 0 e.kids [] = lneeds e := by
  cases e with
  | num _ => exact absurd rfl h
  | nam _ => exact absurd rfl h
  | two o a b =>
    show addAll (addAll [] ((lneeds a).filter fun _ => !false)) ((lneeds b).filter fun _ => !false) = _
    rw [filter_all, filter_all]
    rfl
  | whn c a b =>
    show addAll (addAll (addAll [] ((lneeds c).filter fun _ => !false)) ((lneeds a).filter fun _ => !false)) ((lneeds b).filter fun _ => !false) = _
    rw [filter_all, filter_all, filter_all]
    rfl
  | lett x a b =>
    show addAll (addAll [] ((lneeds a).filter fun y => !(false && decide (y = x)))) ((lneeds b).filter fun y => !(true && decide (y = x))) = addAll (addAll [] (lneeds a)) ((lneeds b).filter fun y => !decide (y = x))
    have h1 : (lneeds a).filter (fun y => !(false && decide (y = x))) = lneeds a := List.filter_eq_self.mpr fun _ _ => rfl
    rw [h1]
    rfl
theorem lneeds_len (e : Ex) : (lneeds e).length ≤ e.size := by
  have h := gath_len e [] []
  rw [gath_lneeds] at h
  simpa using h
theorem kn_len (o : Option Str) : ∀ (l : List Ex) (i : Nat) (ks : List Str), (kn o i l ks).length ≤ ks.length + sizeL l
  | [], _, _ => Nat.le_refl _
  | e :: r, i, ks => by
    have h1 := kn_len o r (i + 1) (addAll ks ((lneeds e).filter fun y => !own o i y))
    have h2 := addAll_len ((lneeds e).filter fun y => !own o i y) ks
    have h3 := List.length_filter_le (fun y => !own o i y) (lneeds e)
    have h4 := lneeds_len e
    show (kn o (i + 1) r _).length ≤ ks.length + (e.size + sizeL r)
    omega
theorem But.tupsL {d : Addr} {H H' : Hp} {l : List V} (h : But d H H') (hd : H d = some (.lst l)) : Tups H H' := fun a xs e => h a _ (ne_of e hd (fun z => nomatch z)) e
def spLNeeds (n : Nat) : Sp := fun vs H Q _ => ∃ (v : V) (e : Ex), vs = [v] ∧ Bears H v e ∧ e.deep ≤ n ∧ e.size ≤ 1000 ∧ ∀ (H' : Hp) (p : Addr), Same H H' → H p = none → H' p = some (.lst ((lneeds e).map V.str)) → Q (.ref p) H'
theorem spLNeeds0 : FnOk P w K mg base CX0 0 f fd ["_law_expr"] (spLNeeds 0) := by
  have no : ∀ vs H Q E, ¬ spLNeeds 0 vs H Q E := fun vs H Q E h => by
    obtain ⟨v, e, _, _, h1, _⟩ := h
    have := e.deep_pos
    omega
  exact ⟨fun vs H Q E h => absurd h (no vs H Q E), fun A outer s H args us vs Q E _ _ _ _ h => absurd h (no vs H Q E)⟩
def b2i (b : Bool) : Nat := if b = true then 1 else 0
theorem own_read {H : Hp} {Q : VK} {σ : L2.St} {a : Addr} {wd y : Str} {xs : List V} {bl : Bool} {o : Option Str} {i : Nat} {k : Int}
    (h : H a = some (.tup (.str wd :: xs))) (c3 : decide (V.str wd = V.str "let") = bl) (ho : (bl = false ∧ o = none) ∨ (bl = true ∧ ∃ x, o = some x ∧ xs[0]? = some (.str x))) (hk : k = 1 + (b2i bl : Int) + i)
    (s0 : σ[0]? = some (some (.ref a))) (s3 : σ[3]? = some (some (.int k))) (s4 : σ[4]? = some (some (.str y))) (q : Q (.bl (own o i y)) H) :
    tAndV (tOp rEq (tOp (rIxT K) (tVar 0) (tC (.int 0))) (tC (.str "let"))) (tAndV (tOp rEq (tVar 3) (tC (.int 3))) (tOp rEq (tVar 4) (tOp (rIxT K) (tVar 0) (tC (.int 1))))) σ H Q := by
  refine ⟨_, s0, a, _, 0, _, rfl, rfl, .inl (.inl h), at_of (j := 0) rfl rfl, rfl, bl, congrArg V.bl c3, ?_⟩
  rcases ho with ⟨rfl, rfl⟩ | ⟨rfl, x, rfl, hx⟩
  · exact iteF q
  · refine iteT ⟨_, s3, rfl, decide (i = 1), congrArg V.bl ?_, ?_⟩
    · subst hk
      refine decide_eq_decide.mpr ⟨fun z => ?_, fun z => ?_⟩
      · injection z with z
        simp [b2i] at z
        omega
      · subst z
        rfl
    · by_cases hi : i = 1
      · rw [decide_eq_true hi]
        refine iteT ⟨_, s4, _, s0, a, _, 1, _, rfl, rfl, .inl (.inl h), at_of (j := 1) rfl hx, rfl, ?_⟩
        have e : own (some x) i y = decide (V.str y = V.str x) := by
          show (decide (i = 1) && decide (y = x)) = _
          rw [decide_eq_true hi, Bool.true_and]
          exact decide_eq_decide.mpr ⟨fun z => congrArg V.str z, fun z => by injection z⟩
        rw [← e]
        exact q
      · rw [decide_eq_false hi]
        refine iteF ?_
        have e : own (some x) i y = false := by
          show (decide (i = 1) && decide (y = x)) = _
          rw [decide_eq_false hi, Bool.false_and]
        rw [← e]
        exact q
theorem same_put {H H2 : Hp} {F : Addr} {o : HO} (g : Same H H2) (hF : H F = none) : Same H (upd H2 F o) := fun b u e => by
  rw [upd_ne (ne_of_none e hF)]
  exact g _ _ e
def spMixed (K : PySem.W.Frag) : Sp := fun vs H Q _ => ∃ (a : Addr) (ns : List Int), vs = [.ref a] ∧ SqL K H a (ns.map V.int) ∧ ns.length ≤ 63 ∧
  ∀ (H' : Hp) (p : Addr) (ms : List Int), Same H H' → H' p = some (.lst (ms.map V.int)) → ms.length = ns.length → (∀ m ∈ ms, 0 ≤ m) → Q (.ref p) H'
def spCellAt (K : PySem.W.Frag) : Sp := fun vs H Q _ => ∃ (a : Addr) (ms : List Int) (k : Int), vs = [.ref a, .int k] ∧ SqL K H a (ms.map V.int) ∧ 0 ≤ k ∧ (∀ m ∈ ms, 0 ≤ m) ∧ ∀ c : Int, 0 ≤ c → Q (.int c) H
def spWhole : Sp := fun vs H Q _ => ∃ i : Int, vs = [.int i] ∧ Q (.bl true) H
theorem at_mod {xs : List V} {m : Int} (n : Nat) (hn : xs.length = n) (hp : 0 < n) : ∃ v, atI xs (m % (n : Int)) = some v ∧ v ∈ xs := by
  have h1 := Int.emod_nonneg m (show (n : Int) ≠ 0 by omega)
  have h2 := Int.emod_lt_of_pos m (show (0 : Int) < n by omega)
  have hj : (m % (n : Int)).toNat < xs.length := by omega
  exact ⟨xs[(m % (n : Int)).toNat], at_of (j := (m % (n : Int)).toNat) (by omega) (List.getElem?_eq_getElem hj), List.getElem_mem hj⟩
def NumOk (n : Int) : Prop := -1000000000 ≤ n ∧ n ≤ 1000000000
instance (n : Int) : Decidable (NumOk n) := inferInstanceAs (Decidable (_ ∧ _))
def numV : V → Bool
  | .int n => decide (NumOk n)
  | _ => false
theorem numV_out {v : V} (h : numV v = true) : ∃ n, v = .int n ∧ NumOk n := by
  cases v <;> first | exact ⟨_, rfl, of_decide_eq_true h⟩ | cases h
def spNumBy : Sp := fun vs H Q _ => ∃ c : Int, vs = [.int c] ∧ 0 ≤ c ∧ ∀ (H' : Hp) (n : Int), Same H H' → NumOk n → Q (.int n) H'
theorem if_prop {c : TT} {t u v : TS} {D : Ends} {σ : L2.St} {H : Hp} (p : Prop) (hc : ∀ Q : Bool → Hp → Prop, (p → Q true H) → (¬ p → Q false H) → c σ H Q) (h1 : p → t { D with nx := v D } σ H) (h2 : ¬ p → u { D with nx := v D } σ H) : tSeq (tIfS c t u) v D σ H :=
  hc _ (fun h => iteT (h1 h)) (fun h => iteF (h2 h))
theorem at_ofA {α : Type} {xs : List α} {z : Int} {j : Nat} {v : α} (e : z = (j : Int)) (h : xs[j]? = some v) : atI xs z = some v := by
  rw [e]
  exact atI_nat h
theorem at_modA {α : Type} {xs : List α} {m : Int} (n : Nat) (hn : xs.length = n) (hp : 0 < n) : ∃ v, atI xs (m % (n : Int)) = some v ∧ v ∈ xs := by
  have h1 := Int.emod_nonneg m (show (n : Int) ≠ 0 by omega)
  have h2 := Int.emod_lt_of_pos m (show (0 : Int) < n by omega)
  have hj : (m % (n : Int)).toNat < xs.length := by omega
  have e : m % (n : Int) = (((m % (n : Int)).toNat : Nat) : Int) := by omega
  exact ⟨xs[(m % (n : Int)).toNat], at_ofA e (List.getElem?_eq_getElem hj), List.getElem_mem hj⟩
theorem at_lt {α : Type} {xs : List α} {k : Int} (h0 : 0 ≤ k) (h1 : k < xs.length) : ∃ v, atI xs k = some v ∧ v ∈ xs := by
  have hj : k.toNat < xs.length := by omega
  have e : k = ((k.toNat : Nat) : Int) := by omega
  exact ⟨xs[k.toNat], at_ofA e (List.getElem?_eq_getElem hj), List.getElem_mem hj⟩
def Low (z : Str) : Prop := ∀ c ∈ z.cps.toList, 97 ≤ c ∧ c ≤ 122
def NameOk (z : Str) : Prop := 1 ≤ z.length ∧ z.length ≤ 8 ∧ Low z
abbrev signs : Str := "abcdefghijklmnopqrstuvwxyz"
theorem app_list (a b : Str) : (a ++ b).cps.toList = a.cps.toList ++ b.cps.toList := Array.toList_append
theorem app_len (a b : Str) : (a ++ b).length = a.length + b.length := Array.size_append
theorem Low.app {a b : Str} (ha : Low a) (hb : Low b) : Low (a ++ b) := fun c hc => by
  rw [app_list] at hc
  exact (List.mem_append.mp hc).elim (ha c) (hb c)
theorem cut_len (z : Str) (lo hi : Option Int) : (cutS z lo hi).length = min (HT.sIx z.length z.length hi - HT.sIx z.length 0 lo) (z.length - HT.sIx z.length 0 lo) := by
  show (((z.cps.toList.drop (HT.sIx z.length 0 lo)).take (HT.sIx z.length z.length hi - HT.sIx z.length 0 lo)).toArray).size = _
  rw [List.size_toArray, List.length_take, List.length_drop, Array.length_toList]
  rfl
theorem Low.cut {z : Str} (h : Low z) (lo hi : Option Int) : Low (cutS z lo hi) := fun c hc => by
  have hc' : c ∈ ((z.cps.toList.drop (HT.sIx z.length 0 lo)).take (HT.sIx z.length z.length hi - HT.sIx z.length 0 lo)) := by
    have : (cutS z lo hi).cps.toList = ((z.cps.toList.drop (HT.sIx z.length 0 lo)).take (HT.sIx z.length z.length hi - HT.sIx z.length 0 lo)) := by
      show (List.toArray _).toList = _
      rfl
    rw [this] at hc
    exact hc
  exact h c (List.drop_subset _ _ (List.take_subset _ _ hc'))
theorem Low.one {c : Nat} (h : 97 ≤ c ∧ c ≤ 122) : Low ⟨#[c]⟩ := fun x hx => by
  have : x ∈ [c] := hx
  rw [List.mem_singleton.mp this]
  exact h
theorem sign_at (m : Int) : ∃ c, atI signs.cps.toList (m % 26) = some c ∧ 97 ≤ c ∧ c ≤ 122 := by
  obtain ⟨c, h, hm⟩ := at_modA (xs := signs.cps.toList) (m := m) 26 (by decide +kernel) (by decide)
  have := List.all_eq_true.mp (show (signs.cps.toList.all fun c => decide (97 ≤ c ∧ c ≤ 122)) = true by decide +kernel) c hm
  exact ⟨c, h, of_decide_eq_true this⟩
theorem signs_len : signs.length ≤ sizeLine := by
  have : signs.length = 26 := by decide +kernel
  rw [this]
  decide
def nameV : V → Bool
  | .str z => decide (1 ≤ z.length) && decide (z.length ≤ 8) && z.cps.toList.all fun c => decide (97 ≤ c ∧ c ≤ 122)
  | _ => false
theorem nameV_out {v : V} (h : nameV v = true) : ∃ z, v = .str z ∧ NameOk z := by
  cases v with
  | str z =>
    have h' : (decide (1 ≤ z.length) && decide (z.length ≤ 8) && z.cps.toList.all fun c => decide (97 ≤ c ∧ c ≤ 122)) = true := h
    simp only [Bool.and_eq_true, decide_eq_true_eq, List.all_eq_true] at h'
    exact ⟨z, rfl, h'.1.1, h'.1.2, fun c hc => h'.2 c hc⟩
  | _ => cases h
theorem sIx_pos {n d : Nat} {v : Int} (h : 0 ≤ v) : HT.sIx n d (some v) = min v.toNat n := by
  show (if v < 0 then (v + (n : Int)).toNat else min v.toNat n) = _
  rw [if_neg (by omega)]
def spNameBy : Sp := fun vs H Q _ => ∃ c k : Int, vs = [.int c, .int k] ∧ 0 ≤ c ∧ 0 ≤ k ∧ k ≤ 1000 ∧ ∀ (H' : Hp) (z : Str), Same H H' → NameOk z → Q (.str z) H'
/-- an if whose test may come out either way -/
theorem if_two {c : TT} {t u v : TS} {D : Ends} {σ : L2.St} {H : Hp} (p : Prop) (hc : ∀ Q : Bool → Hp → Prop, (p → Q true H) → Q false H → c σ H Q) (h1 : p → t { D with nx := v D } σ H) (h2 : u { D with nx := v D } σ H) : tSeq (tIfS c t u) v D σ H :=
  hc _ (fun h => iteT (h1 h)) (iteF h2)
/-- an if that may store into one name -/
theorem if_set {c : TT} {te : TE} {i : Nat} {v : TS} {D : Ends} {σ : L2.St} {H : Hp} (p : Prop) (ok : V → Hp → Prop) (w0 : V) (h0 : ok w0 H) (hσ : σ.set i (some w0) = σ) (hc : ∀ Q : Bool → Hp → Prop, (p → Q true H) → Q false H → c σ H Q)
    (ht : p → ∀ Q : VK, (∀ w H', ok w H' → Q w H') → te σ H Q) (hr : ∀ w H', ok w H' → v D (σ.set i (some w)) H') : tSeq (tIfS c (tAsg te (gName i)) tNext) v D σ H :=
  hc _ (fun h => iteT (ht h _ fun w H' hw => hr w H' hw)) (iteF (by
    have := hr w0 H h0
    rw [hσ] at this
    exact this))
def Ex.ok : Ex → Prop
  | .num n => NumOk n
  | .nam w => NameOk w
  | .two _ a b => a.ok ∧ b.ok
  | .whn c a b => c.ok ∧ a.ok ∧ b.ok
  | .lett w a b => NameOk w ∧ a.ok ∧ b.ok
def Ex.word : Ex → Str
  | .num _ => "num"
  | .nam _ => "name"
  | .two o _ _ => o.str
  | .whn _ _ _ => "when"
  | .lett _ _ _ => "let"
theorem Bears.first {H : Hp} {v : V} {e : Ex} (b : Bears H v e) : ∃ a xs, v = .ref a ∧ H a = some (.tup (.str e.word :: xs)) := by
  cases b with
  | num h => exact ⟨_, _, rfl, h⟩
  | nam h => exact ⟨_, _, rfl, h⟩
  | two h _ _ => exact ⟨_, _, rfl, h⟩
  | whn h _ _ _ => exact ⟨_, _, rfl, h⟩
  | lett h _ _ => exact ⟨_, _, rfl, h⟩
def opsV : List V := [.str "sum", .str "less", .str "times", .str "part", .str "rest", .str "below", .str "same"]
theorem ops_in {v : V} (h : v ∈ opsV) : ∃ o : Op, v = .str o.str := by
  simp only [opsV, List.mem_cons, List.mem_nil_iff, or_false] at h
  rcases h with rfl | rfl | rfl | rfl | rfl | rfl | rfl
  · exact ⟨.sum, rfl⟩
  · exact ⟨.less, rfl⟩
  · exact ⟨.times, rfl⟩
  · exact ⟨.part, rfl⟩
  · exact ⟨.rest, rfl⟩
  · exact ⟨.below, rfl⟩
  · exact ⟨.same, rfl⟩
theorem word_op {e : Ex} (h : inV (.str e.word) opsV = true) : ∃ o : Op, V.str e.word = .str o.str := by
  cases e with
  | num _ => exact absurd (show inV (.str "num") opsV = true from h) (by decide)
  | nam _ => exact absurd (show inV (.str "name") opsV = true from h) (by decide)
  | two o _ _ => exact ⟨o, rfl⟩
  | whn _ _ _ => exact absurd (show inV (.str "when") opsV = true from h) (by decide)
  | lett _ _ _ => exact absurd (show inV (.str "let") opsV = true from h) (by decide)
theorem BearsL.app {H : Hp} : ∀ {xs ys : List V} {es fs : List Ex}, BearsL H xs es → BearsL H ys fs → BearsL H (xs ++ ys) (es ++ fs)
  | _, _, _, _, .nil, s => s
  | _, _, _, _, .cons a r, s => .cons a (BearsL.app r s)
theorem BearsL.split1 {H : Hp} : ∀ {xs : List V} {es : List Ex}, BearsL H xs es → 0 < xs.length → ∃ pre x epre ex, xs = pre ++ [x] ∧ es = epre ++ [ex] ∧ BearsL H pre epre ∧ Bears H x ex
  | _, _, .nil, h => absurd h (Nat.lt_irrefl _)
  | _, _, .cons (a := x) (b := e) b .nil, _ => ⟨[], x, [], e, rfl, rfl, .nil, b⟩
  | _, _, .cons (a := x) (b := e) b (.cons c r), _ => by
    obtain ⟨pre, y, epre, ey, e1, e2, h1, h2⟩ := BearsL.split1 (.cons c r) (Nat.zero_lt_succ _)
    exact ⟨x :: pre, y, e :: epre, ey, by rw [e1]; rfl, by rw [e2]; rfl, .cons b h1, h2⟩
theorem BearsL.split2 {H : Hp} {xs : List V} {es : List Ex} (b : BearsL H xs es) (h : 1 < xs.length) : ∃ pre x y epre ex ey, xs = pre ++ [x, y] ∧ es = epre ++ [ex, ey] ∧ BearsL H pre epre ∧ Bears H x ex ∧ Bears H y ey := by
  obtain ⟨pre, y, epre, ey, rfl, rfl, b1, by1⟩ := b.split1 (by omega)
  rw [List.length_append] at h
  obtain ⟨pre2, x, epre2, ex, rfl, rfl, b2, bx⟩ := b1.split1 (by simp at h; omega)
  exact ⟨pre2, x, y, epre2, ex, ey, by simp, by simp, b2, bx, by1⟩
theorem BearsL.split3 {H : Hp} {xs : List V} {es : List Ex} (b : BearsL H xs es) (h : 2 < xs.length) : ∃ pre w x y epre ew ex ey, xs = pre ++ [w, x, y] ∧ es = epre ++ [ew, ex, ey] ∧ BearsL H pre epre ∧ Bears H w ew ∧ Bears H x ex ∧ Bears H y ey := by
  obtain ⟨pre, y, epre, ey, rfl, rfl, b1, by1⟩ := b.split1 (by omega)
  rw [List.length_append] at h
  obtain ⟨pre2, w, x, epre2, ew, ex, rfl, rfl, b2, bw, bx⟩ := b1.split2 (by simp at h; omega)
  exact ⟨pre2, w, x, y, epre2, ew, ex, ey, by simp, by simp, b2, bw, bx, by1⟩
theorem at_neg {xs : List V} {v : V} (k : Nat) (hk : 0 < k) (hl : k ≤ xs.length) (h : xs[xs.length - k]? = some v) : atI xs (-(k : Int)) = some v := by
  unfold atI ixN
  rw [if_neg (by omega), if_pos (by omega)]
  show xs[(-(k : Int) + (xs.length : Int)).toNat]? = some v
  have e : (-(k : Int) + (xs.length : Int)).toNat = xs.length - k := by omega
  rw [e]
  exact h
theorem cut_app (pre suf : List V) (k : Nat) (hk : suf.length = k) (h0 : 0 < k) : cutV (pre ++ suf) none (some (-(k : Int))) = pre := by
  unfold cutV
  have e1 : HT.sIx (pre ++ suf).length 0 none = 0 := rfl
  have e2 : HT.sIx (pre ++ suf).length (pre ++ suf).length (some (-(k : Int))) = pre.length := by
    show (if -(k : Int) < 0 then (-(k : Int) + ((pre ++ suf).length : Int)).toNat else _) = _
    rw [if_pos (by omega), List.length_append]
    omega
  rw [e1, e2, List.drop_zero, Nat.sub_zero, List.take_left']
  rfl
/-- behind the last list of a step -/
theorem step_fin {H H4 : Hp} {pre : List V} {epre : List Ex} {t l p : Addr} {en : Ex} (g : Same H H4) (bp : BearsL H pre epre) (bn : Bears H4 (.ref t) en) (hl : H4 l = none) (hp : upd H4 l (.lst [.ref t]) p = none) :
    Same H (upd (upd H4 l (.lst [.ref t])) p (.lst (pre ++ [.ref t]))) ∧ BearsL (upd (upd H4 l (.lst [.ref t])) p (.lst (pre ++ [.ref t]))) (pre ++ [.ref t]) (epre ++ [en]) := by
  have g2 := (same_new hl (.lst [.ref t])).trans (same_new hp (.lst (pre ++ [.ref t])))
  exact ⟨g.trans g2, BearsL.app (bp.mono (Tups.of (g.trans g2))) (.cons (bn.mono (Tups.of g2)) .nil)⟩
theorem new_h {H : Hp} {p : Addr} {o : HO} {R : Hp → Prop} (hp : H p = none) (k : ∀ H1, Same H H1 → H1 p = some o → R H1) : R (upd H p o) := k _ (same_new hp o) upd_same
def depS : List Ex → Nat
  | [] => 0
  | e :: r => e.deep + depS r
theorem depS_append : ∀ (l m : List Ex), depS (l ++ m) = depS l + depS m
  | [], m => (Nat.zero_add _).symm
  | e :: r, m => by
    show e.deep + depS (r ++ m) = e.deep + depS r + depS m
    rw [depS_append r m, Nat.add_assoc]
theorem any_b {Q : Bool → Hp → Prop} {b : Bool} {H : Hp} (h1 : Q true H) (h2 : Q false H) : Q b H := by
  cases b
  · exact h2
  · exact h1
def OkL (es : List Ex) : Prop := ∀ e ∈ es, e.ok
theorem OkL.app {es fs : List Ex} (a : OkL es) (b : OkL fs) : OkL (es ++ fs) := fun e h => (List.mem_append.mp h).elim (a e) (b e)
theorem OkL.one {e : Ex} (h : e.ok) : OkL [e] := fun x hx => by rw [List.mem_singleton.mp hx]; exact h
theorem OkL.left {es fs : List Ex} (a : OkL (es ++ fs)) : OkL es := fun e h => a e (List.mem_append_left _ h)
def spStep : Sp := fun vs H Q _ => ∃ (a : Addr) (xs : List V) (es : List Ex) (kind more seed : Int), vs = [.ref a, .int kind, .int more, .int seed] ∧ H a = some (.lst xs) ∧ BearsL H xs es ∧ OkL es ∧ 0 ≤ more ∧ 0 ≤ seed ∧ xs.length ≤ 900 ∧
  ∀ (H' : Hp) (p : Addr) (xs' : List V) (es' : List Ex), Same H H' → H' p = some (.lst xs') → BearsL H' xs' es' → OkL es' → es'.length ≤ es.length + 1 → sizeL es' ≤ sizeL es + 5 → depS es' ≤ depS es + 1 → Q (.ref p) H'
def spTreeBy (K : PySem.W.Frag) : Sp := fun vs H Q _ => ∃ (a : Addr) (ms : List Int) (seed : Int), vs = [.ref a, .int seed] ∧ SqL K H a (ms.map V.int) ∧ (∀ m ∈ ms, 0 ≤ m) ∧ ms.length ≤ 63 ∧ 0 ≤ seed ∧
  ∀ (H' : Hp) (v : V) (e : Ex), Same H H' → Bears H' v e → e.ok → e.size ≤ 6 * ms.length + 1 → e.deep ≤ ms.length + 1 → Q v H'
def spLink : Sp := fun vs H Q _ => ∃ (x : Str) (c : Int), vs = [.str x, .int c] ∧ ∀ (H' : Hp) (n : Int), Same H H' → NumOk n → Q (.int n) H'
def spManyBy : Sp := fun vs H Q _ => ∃ (seed c : Int), vs = [.int seed, .int c] ∧ 0 ≤ seed ∧ 0 ≤ c ∧ ∀ (H' : Hp) (v : V) (e : Ex), Same H H' → Bears H' v e → e.ok → e.size ≤ 100 → e.deep ≤ 50 → Q v H'
theorem if_both {c : TT} {t u : TS} {D : Ends} {σ : L2.St} {H : Hp} (hc : ∀ Q : Bool → Hp → Prop, Q true H → Q false H → c σ H Q) (h1 : t D σ H) (h2 : u D σ H) : tIfS c t u D σ H := hc _ (iteT h1) (iteF h2)
theorem seq_asg_c {v : V} {i : Nat} {rest : TS} {D : Ends} {σ : L2.St} {H : Hp} (h : rest D (σ.set i (some v)) H) : tSeq (tAsg (tC v) (gName i)) rest D σ H := h
theorem cut_ints (ms : List Int) (lo hi : Int) (h0 : 0 ≤ lo) (h1 : 0 ≤ hi) : ∃ ms' : List Int, cutV (ms.map V.int) (some lo) (some hi) = ms'.map V.int ∧ (∀ m ∈ ms', m ∈ ms) ∧ ms'.length ≤ min hi.toNat ms.length - min lo.toNat ms.length := by
  refine ⟨(ms.drop (HT.sIx (ms.map V.int).length 0 (some lo))).take (HT.sIx (ms.map V.int).length (ms.map V.int).length (some hi) - HT.sIx (ms.map V.int).length 0 (some lo)), ?_, fun m hm => ?_, ?_⟩
  · unfold cutV
    rw [List.map_take, List.map_drop]
  · exact List.drop_subset _ _ (List.take_subset _ _ hm)
  · rw [List.length_take, sIx_pos h0, sIx_pos h1, List.length_map]
    exact Nat.min_le_left _ _
theorem many_pos (k : Bool) : (0 : Int) < 30 + 30 * (if k = true then 1 else 0) := by cases k <;> decide
theorem many_le (k : Bool) : (30 : Int) + 30 * (if k = true then 1 else 0) ≤ 60 := by cases k <;> decide
theorem name_deep {e : Ex} (h : e.word = "name") : e.deep = 1 := by
  cases e with
  | nam x => rfl
  | num n => rfl
  | two o a b => exact absurd (show o.str = "name" from h) (by cases o <;> decide)
  | whn c a b => exact absurd (show ("when" : Str) = "name" from h) (by decide)
  | lett x a b => exact absurd (show ("let" : Str) = "name" from h) (by decide)
def spExprBy (K : PySem.W.Frag) : Sp := fun vs H Q _ => ∃ (a : Addr) (ms : List Int), vs = [.ref a] ∧ SqL K H a (ms.map V.int) ∧ (∀ m ∈ ms, 0 ≤ m) ∧ ms.length ≤ 63 ∧
  ∀ (H' : Hp) (v : V) (e : Ex), Same H H' → Bears H' v e → e.ok → e.size ≤ 300 → e.deep ≤ 60 → Q v H'
def strD (l : List Str) : PyData := .list (l.map PyData.str)
theorem dp_strs {K : PySem.W.Frag} {H : Hp} : ∀ l : List Str, DpAll K H (l.map V.str) (l.map PyData.str)
  | [] => .nil
  | x :: r => .cons (.str x) (dp_strs r)
theorem Low.strOk {x : Str} (h : Low x) : PyData.strOk x = true := by
  unfold PySem.PyData.strOk
  rw [Array.all_eq_true]
  intro i hi
  have hm : x.cps[i] ∈ x.cps.toList := Array.mem_toList_iff.mpr (Array.getElem_mem hi)
  have := h _ hm
  exact decide_eq_true (by omega)
theorem canLay_strs : ∀ l : List Str, (∀ x ∈ l, Low x) → PyData.canLayAll0 (l.map PyData.str) = true
  | [], _ => by simp [PyData.canLayAll0]
  | x :: r, h => by
    have ih := canLay_strs r fun y hy => h y (List.mem_cons_of_mem _ hy)
    have hx := (h x List.mem_cons_self).strOk
    show PyData.canLayAll0 (PyData.str x :: r.map PyData.str) = true
    unfold PyData.canLayAll0
    rw [ih, Bool.and_true]
    unfold PyData.canLay0
    exact hx
theorem depth_strs : ∀ l : List Str, PyData.depthAll (l.map PyData.str) = 0
  | [] => rfl
  | x :: r => by
    have ih := depth_strs r
    show PyData.depthAll (PyData.str x :: r.map PyData.str) = 0
    unfold PyData.depthAll
    rw [ih]
    rfl
theorem shaped_strs (l : List Str) (h : ∀ x ∈ l, Low x) : SeqAt.shaped (strD l) = true := by
  have h1 : (strD l).canLay0 = true := by
    unfold strD PyData.canLay0
    exact canLay_strs l h
  have h2 : (strD l).depth = 1 := by
    unfold strD PyData.depth
    rw [depth_strs]
  unfold SeqAt.shaped
  rw [h1, h2]
  rfl
theorem eqv_strs_all : ∀ l : List Str, PyData.eqvAll (l.map PyData.str) (l.map PyData.str) = true
  | [] => by simp [PyData.eqvAll]
  | x :: r => by
    have ih := eqv_strs_all r
    show PyData.eqvAll (PyData.str x :: r.map PyData.str) (PyData.str x :: r.map PyData.str) = true
    unfold PyData.eqvAll
    rw [ih, Bool.and_true]
    simp [PyData.eqv]
theorem eqv_strs (l : List Str) : PyData.eqv (strD l) (strD l) = true := by
  unfold strD PyData.eqv
  exact eqv_strs_all l
theorem mem_lneeds : ∀ {e : Ex} {x : Str}, e.ok → x ∈ lneeds e → NameOk x
  | .num _, x, _, h => nomatch h
  | .nam w, x, ok, h => by
    have : x ∈ [w] := h
    rw [List.mem_singleton.mp this]
    exact ok
  | .two _ a b, x, ok, h => by
    have h' : x ∈ addAll (addAll [] (lneeds a)) (lneeds b) := h
    rw [mem_addAll, mem_addAll] at h'
    rcases h' with (h' | h') | h'
    · cases h'
    · exact mem_lneeds ok.1 h'
    · exact mem_lneeds ok.2 h'
  | .whn c a b, x, ok, h => by
    have h' : x ∈ addAll (addAll (addAll [] (lneeds c)) (lneeds a)) (lneeds b) := h
    rw [mem_addAll, mem_addAll, mem_addAll] at h'
    rcases h' with ((h' | h') | h') | h'
    · cases h'
    · exact mem_lneeds ok.1 h'
    · exact mem_lneeds ok.2.1 h'
    · exact mem_lneeds ok.2.2 h'
  | .lett w a b, x, ok, h => by
    have h' : x ∈ addAll (addAll [] (lneeds a)) ((lneeds b).filter fun x => !decide (x = w)) := h
    rw [mem_addAll, mem_addAll] at h'
    rcases h' with (h' | h') | h'
    · cases h'
    · exact mem_lneeds ok.2.1 h'
    · exact mem_lneeds ok.2.2 (List.mem_filter.mp h').1
theorem ne_self (x : V) : (!decide (x = x)) = false := by simp
theorem eq_self' (x : V) : decide (x = x) = true := by simp
structure Gb (mg : Str → Option Value) (t1 t2 : Tok) : Prop where
  LIMIT : mg "LIMIT" = some (.int 1000000000 t1)
  DEEPEST : mg "DEEPEST" = some (.int 60 t2)
def spLaw (K : PySem.W.Frag) : Sp := fun vs H Q _ => ∃ (a : Addr) (ns : List Int), vs = [.ref a] ∧ SqL K H a (ns.map V.int) ∧ ns.length ≤ 63 ∧ ∀ H', Q (.bl true) H'
theorem df_mk {K : PySem.W.Frag} {h : Heap} {mg : Str → Option Value} {x : Str} {st : Stmt} {ps : List Str} {f : Addr} {od an : Option Addr} {sl : Array (Option Value)} {oc kV dc pm cd ct : Value} (X : K.In h) (G : h.Ns mainGlobals mg)
    (a : PySem.W.nsIn K mainGlobals x = some (some (.ref f))) (l : K.lookup f = some ⟨oc, od, .func (PySem.W.fnOf x x (defArgs st) (defBody st) (defScope st) .none kV dc pm an cd ct), sl⟩) (c : PySem.W.codeIn K cd x = true) (k : PySem.W.keepIn K (.ref f) = true)
    (hb : ∀ (kV doc pm : Value) (an : Option Addr) (cdv ct : Value) (us : List Value), us.length = ps.length → bindArgs (PySem.W.fnOf x x (defArgs st) (defBody st) (defScope st) .none kV doc pm an cdv ct) ⟨us, []⟩ = pure (ps.zip us)) :
    Df K mg x st ps f (PySem.W.fnOf x x (defArgs st) (defBody st) (defScope st) .none kV dc pm an cd ct) :=
  ⟨fun_mk l c k, (fun_mk l c k).binds hb, PySem.W.mg_of X G a⟩
theorem walk {l : PySem.W.OpenLaw} {q : Program} {loose : List Str} {XP : (Str → Option Value) → Heap → Prop} {YP : World → Heap → Prop} {d : DefRec} {K : Params → PySem.W.Frag} (hn : l.most = some 63) (hdf : d.params.defaults = [])
    (hY : ∀ (w : World) (h : Heap), YP w h → (K w.params).In h)
    (F : ∀ (w : World) (mg : Str → Option Value) (fa : Addr) (h : Heap), (K w.params).In h → h.Ns mainGlobals mg → mg d.name = some (.ref fa) →
      ∃ fd : FuncData, (∀ (s : Shared) (u : Value), BindsTo s fd ⟨[u], []⟩ [("_law_script", u)]) ∧ ∀ base : Heap, (K w.params).In base → base.Ns mainGlobals mg → FnOk l.prog w (K w.params) mg base CX0 103 fa fd ["_law_script"] (spLaw (K w.params))) :
    PySem.W.WalkO q loose XP YP l.row.toRowW d [] (fun f vs => PySem.call f vs) :=
  L2.walk_of (n := 63) (k := 103) (x := "_law_script") (CX := fun _ => CX0) (sp := fun w => spLaw (K w.params)) hn (by decide) hdf ⟨rfl, by decide, by decide⟩ hY F (fun _ _ a ns hl _ hS => ⟨a, ns, rfl, hS, hl, fun _ => rfl⟩) fun _ _ _ _ _ z => z
end
end FC
namespace FC
open PySem L2
/-- what comes of an expression -/
inductive Rs where
  | is (n : Int)
  | unset (w : Str)
  | nought
  | great
  deriving DecidableEq
def raw : Op → Int → Int → Int
  | .sum, a, b => a + b
  | .less, a, b => a - b
  | .times, a, b => a * b
  | .part, a, b => a.fdiv b
  | .rest, a, b => a - b * a.fdiv b
  | .below, a, b => if a < b then 1 else 0
  | .same, a, b => if a = b then 1 else 0
def isDiv : Op → Bool
  | .part => true
  | .rest => true
  | _ => false
def made (o : Op) (a b : Int) : Rs :=
  if isDiv o = true ∧ b = 0 then .nought else if NumOk (raw o a b) then .is (raw o a b) else .great
def Rs.bind (r : Rs) (f : Int → Rs) : Rs := match r with
  | .is n => f n
  | .unset w => .unset w
  | .nought => .nought
  | .great => .great
/-- a setting: a number for some names -/
abbrev Stg := Str → Option Int
def Stg.put (s : Stg) (w : Str) (n : Int) : Stg := fun x => if x = w then some n else s x
def Stg.del (s : Stg) (w : Str) : Stg := fun x => if x = w then none else s x
def Stg.ok (s : Stg) : Prop := ∀ w n, s w = some n → NumOk n
theorem Stg.ok.put {s : Stg} (h : s.ok) (w : Str) {n : Int} (hn : NumOk n) : (s.put w n).ok := fun x m e => by
  unfold Stg.put at e
  split at e
  · cases e; exact hn
  · exact h x m e
theorem Stg.ok.del {s : Stg} (h : s.ok) (w : Str) : (s.del w).ok := fun x m e => by
  unfold Stg.del at e
  split at e
  · cases e
  · exact h x m e
def value : Ex → Stg → Rs
  | .num n, _ => .is n
  | .nam w, s => match s w with
    | some n => .is n
    | none => .unset w
  | .two o a b, s => (value a s).bind fun x => (value b s).bind fun y => made o x y
  | .whn c a b, s => (value c s).bind fun x => if x ≠ 0 then value a s else value b s
  | .lett w a b, s => (value a s).bind fun x => value b (s.put w x)
/-! ### joining -/
def two1 (o : Op) (m n : Int) : Ex := match made o m n with
  | .is k => .num k
  | _ => .two o (.num m) (.num n)
def lessN (k : Int) : Ex → Ex
  | .num b => two1 .less k b
  | b => .two .less (.num k) b
def sumN : Ex → Int → Ex
  | .num m, n => two1 .sum m n
  | .two .sum b (.num m), n => if n = 0 then .two .sum b (.num m) else if ((0 < m ∧ 0 < n) ∨ (m < 0 ∧ n < 0)) ∧ NumOk (m + n) then sumN b (m + n) else .two .sum (.two .sum b (.num m)) (.num n)
  | .two .less (.num m) b, n => if n = 0 then .two .less (.num m) b else if ((0 ≤ m ∧ 0 < n) ∨ (m ≤ 0 ∧ n < 0)) ∧ NumOk (m + n) then lessN (m + n) b else .two .sum (.two .less (.num m) b) (.num n)
  | t, n => if n = 0 then t else .two .sum t (.num n)
def timesN : Ex → Int → Ex
  | .num m, n => two1 .times m n
  | .two .times b (.num m), n => if n = 1 then .two .times b (.num m) else if n ≠ 0 ∧ NumOk (m * n) then timesN b (m * n) else .two .times (.two .times b (.num m)) (.num n)
  | t, n => if n = 1 then t else .two .times t (.num n)
def partN : Ex → Int → Ex
  | .num m, n => two1 .part m n
  | .two .part b (.num m), n => if n = 1 then .two .part b (.num m) else if 0 < m ∧ 0 < n ∧ NumOk (m * n) then partN b (m * n) else .two .part (.two .part b (.num m)) (.num n)
  | t, n => if n = 1 then t else .two .part t (.num n)
def restN : Ex → Int → Ex
  | .num m, n => two1 .rest m n
  | .two .rest b (.num m), n => if 0 < m ∧ 0 < n ∧ m ≤ n then .two .rest b (.num m) else if 0 < m ∧ 0 < n ∧ m.fmod n = 0 then restN b n else .two .rest (.two .rest b (.num m)) (.num n)
  | t, n => .two .rest t (.num n)
/-- a number behind -/
def joinN : Op → Ex → Int → Ex
  | .sum, t, n => sumN t n
  | .less, t, n => sumN t (-n)
  | .times, t, n => timesN t n
  | .part, t, n => partN t n
  | .rest, t, n => restN t n
  | o, t, n => .two o t (.num n)
def swaps : Op → Bool
  | .sum => true
  | .times => true
  | .same => true
  | _ => false
def join (o : Op) (a b : Ex) : Ex := match a, b with
  | .num m, .num n => two1 o m n
  | .num m, b => if swaps o = true then joinN o b m else .two o (.num m) b
  | a, .num n => joinN o a n
  | a, b => .two o a b
def choose : Ex → Ex → Ex → Ex
  | .num n, a, b => if n ≠ 0 then a else b
  | .two .same d (.num 0), a, b => choose d b a
  | c, a, b => .whn c a b
def fold : Ex → Stg → Ex
  | .num n, _ => .num n
  | .nam w, k => match k w with
    | some n => .num n
    | none => .nam w
  | .two o a b, k => join o (fold a k) (fold b k)
  | .whn c a b, k => choose (fold c k) (fold a k) (fold b k)
  | .lett w a b, k => match fold a k with
    | .num n => fold b (k.put w n)
    | f => .lett w f (fold b (k.del w))
/-! ### values are numbers -/
theorem made_ok {o : Op} {a b k : Int} (h : made o a b = .is k) : NumOk k := by
  unfold made at h
  split at h
  · cases h
  · split at h
    · rename_i h1
      cases h
      exact h1
    · cases h
theorem Rs.bind_is {r : Rs} {f : Int → Rs} {k : Int} (h : r.bind f = .is k) : ∃ x, r = .is x ∧ f x = .is k := by
  cases r with
  | is n => exact ⟨n, rfl, h⟩
  | unset w => cases h
  | nought => cases h
  | great => cases h
theorem value_ok : ∀ (e : Ex) {s : Stg} {k : Int}, e.ok → s.ok → value e s = .is k → NumOk k
  | .num n, s, k, ok, _, h => by
    cases h
    exact ok
  | .nam w, s, k, ok, hs, h => by
    unfold value at h
    split at h
    · rename_i n hn
      cases h
      exact hs w _ hn
    · cases h
  | .two o a b, s, k, ok, hs, h => by
    obtain ⟨x, _, h2⟩ := Rs.bind_is h
    obtain ⟨y, _, h3⟩ := Rs.bind_is h2
    exact made_ok h3
  | .whn c a b, s, k, ok, hs, h => by
    obtain ⟨x, _, h2⟩ := Rs.bind_is h
    by_cases hx : x ≠ 0
    · have h3 : value a s = .is k := by rw [← h2]; exact (if_pos hx).symm
      exact value_ok a ok.2.1 hs h3
    · have h3 : value b s = .is k := by rw [← h2]; exact (if_neg hx).symm
      exact value_ok b ok.2.2 hs h3
  | .lett w a b, s, k, ok, hs, h => by
    obtain ⟨x, h1, h2⟩ := Rs.bind_is h
    exact value_ok b ok.2.2 (hs.put w (value_ok a ok.2.1 hs h1)) h2
/-! ### joining keeps the value -/
theorem two1_value (o : Op) (m n : Int) (s : Stg) : value (two1 o m n) s = made o m n := by
  unfold two1
  cases h : made o m n with
  | is k => rfl
  | unset w => exact h
  | nought => exact h
  | great => exact h
/-- the value of a word over a part and a number -/
theorem value_twoN (o : Op) (t : Ex) (n : Int) (s : Stg) : value (.two o t (.num n)) s = (value t s).bind fun x => made o x n := rfl
theorem bind_congr {r : Rs} {f g : Int → Rs} (h : ∀ x, r = .is x → f x = g x) : r.bind f = r.bind g := by
  cases r with
  | is n => exact h n rfl
  | unset w => rfl
  | nought => rfl
  | great => rfl
theorem bind_bind (r : Rs) (f g : Int → Rs) : (r.bind f).bind g = r.bind fun x => (f x).bind g := by cases r <;> rfl
theorem bind_self {r : Rs} {f : Int → Rs} (h : ∀ x, r = .is x → f x = .is x) : r.bind f = r := by
  cases r with
  | is n => exact h n rfl
  | unset w => rfl
  | nought => rfl
  | great => rfl
theorem made_sum (a b : Int) : made .sum a b = if NumOk (a + b) then .is (a + b) else .great := rfl
theorem made_less (a b : Int) : made .less a b = if NumOk (a - b) then .is (a - b) else .great := rfl
theorem made_times (a b : Int) : made .times a b = if NumOk (a * b) then .is (a * b) else .great := rfl
/-! ### each layer -/
theorem sum_layer {m n x : Int} (hx : NumOk x) (hs : (0 < m ∧ 0 < n) ∨ (m < 0 ∧ n < 0)) : ((made .sum x m).bind fun y => made .sum y n) = made .sum x (m + n) := by
  rw [made_sum, made_sum]
  by_cases h : NumOk (x + m)
  · rw [if_pos h]
    show made .sum (x + m) n = _
    rw [made_sum]
    have e : x + m + n = x + (m + n) := by omega
    rw [e]
  · rw [if_neg h]
    show Rs.great = _
    rw [if_neg (fun z => by unfold NumOk at hx h z; omega)]
theorem less_layer {m n x : Int} (hx : NumOk x) (hs : (0 ≤ m ∧ 0 < n) ∨ (m ≤ 0 ∧ n < 0)) : ((made .less m x).bind fun y => made .sum y n) = made .less (m + n) x := by
  rw [made_less, made_less]
  by_cases h : NumOk (m - x)
  · rw [if_pos h]
    show made .sum (m - x) n = _
    rw [made_sum]
    have e : m - x + n = m + n - x := by omega
    rw [e]
  · rw [if_neg h]
    show Rs.great = _
    rw [if_neg (fun z => by unfold NumOk at hx h z; omega)]
theorem natAbs_ok (n : Int) : NumOk n ↔ n.natAbs ≤ 1000000000 := by
  unfold NumOk
  omega
theorem times_layer {m n x : Int} (hn : n ≠ 0) : ((made .times x m).bind fun y => made .times y n) = made .times x (m * n) := by
  rw [made_times, made_times]
  by_cases h : NumOk (x * m)
  · rw [if_pos h]
    show made .times (x * m) n = _
    rw [made_times, Int.mul_assoc]
  · rw [if_neg h]
    show Rs.great = _
    have h2 : ¬ NumOk (x * (m * n)) := by
      rw [natAbs_ok] at h ⊢
      rw [← Int.mul_assoc, Int.natAbs_mul]
      have h1 : 1 ≤ n.natAbs := by omega
      have h3 : (x * m).natAbs * 1 ≤ (x * m).natAbs * n.natAbs := Nat.mul_le_mul_left _ h1
      omega
    rw [if_neg h2]
theorem fdiv_pos (a : Int) {b : Int} (h : 0 < b) : a.fdiv b = a / b := Int.fdiv_eq_ediv_of_nonneg a (Int.le_of_lt h)
theorem made_part {a b : Int} (h : 0 < b) : made .part a b = if NumOk (a / b) then .is (a / b) else .great := by
  unfold made
  rw [if_neg (by omega)]
  show (if NumOk (a.fdiv b) then Rs.is (a.fdiv b) else .great) = _
  rw [fdiv_pos a h]
theorem made_rest {a b : Int} (h : 0 < b) : made .rest a b = if NumOk (a % b) then .is (a % b) else .great := by
  unfold made
  rw [if_neg (by omega)]
  show (if NumOk (a - b * a.fdiv b) then Rs.is (a - b * a.fdiv b) else .great) = _
  rw [fdiv_pos a h]
  have e : a - b * (a / b) = a % b := by
    have := Int.emod_add_mul_ediv a b
    omega
  rw [e]
theorem div_ok {x b : Int} (hx : NumOk x) (h : 0 < b) : NumOk (x / b) := by
  have h1 := Int.natAbs_ediv_le_natAbs x b
  rw [natAbs_ok] at hx ⊢
  omega
theorem part_layer {m n x : Int} (hx : NumOk x) (hm : 0 < m) (hn : 0 < n) : ((made .part x m).bind fun y => made .part y n) = made .part x (m * n) := by
  rw [made_part hm, if_pos (div_ok hx hm), made_part (Int.mul_pos hm hn)]
  show made .part (x / m) n = _
  rw [made_part hn, Int.ediv_ediv_of_nonneg (Int.le_of_lt hm)]
theorem mod_ok {x b : Int} (hb : NumOk b) (h : 0 < b) : NumOk (x % b) := by
  have h1 := Int.emod_nonneg x (show b ≠ 0 by omega)
  have h2 := Int.emod_lt_of_pos x h
  unfold NumOk at *
  omega
theorem rest_layer1 {m n x : Int} (ho : NumOk m) (hn : NumOk n) (hm : 0 < m) (hmn : m ≤ n) : ((made .rest x m).bind fun y => made .rest y n) = made .rest x m := by
  rw [made_rest hm, if_pos (mod_ok ho hm)]
  show made .rest (x % m) n = _
  rw [made_rest (by omega)]
  have h1 := Int.emod_nonneg x (show m ≠ 0 by omega)
  have h2 := Int.emod_lt_of_pos x hm
  rw [Int.emod_eq_of_lt h1 (by omega), if_pos (mod_ok ho hm)]
theorem rest_layer2 {m n x : Int} (ho : NumOk m) (hm : 0 < m) (hn : 0 < n) (hd : m.fmod n = 0) : ((made .rest x m).bind fun y => made .rest y n) = made .rest x n := by
  rw [made_rest hm, if_pos (mod_ok ho hm)]
  show made .rest (x % m) n = _
  rw [made_rest hn, made_rest hn]
  have hd' : n ∣ m := by
    rw [Int.fmod_eq_emod_of_nonneg m (Int.le_of_lt hn)] at hd
    exact Int.dvd_of_emod_eq_zero hd
  rw [Int.emod_emod_of_dvd x hd']
/-! ### joining with a number -/
theorem sum0 {x : Int} (h : NumOk x) : made .sum x 0 = .is x := by
  rw [made_sum, Int.add_zero, if_pos h]
theorem lessN_value (k : Int) (b : Ex) (s : Stg) : value (lessN k b) s = value (.two .less (.num k) b) s := by
  cases b with
  | num m => exact two1_value .less k m s
  | _ => rfl
theorem NumOk.neg {n : Int} (h : NumOk n) : NumOk (-n) := by
  unfold NumOk at *
  omega
theorem sumN_value : ∀ (t : Ex) (n : Int) {s : Stg}, t.ok → s.ok → value (sumN t n) s = (value t s).bind fun x => made .sum x n := by
  intro t n
  fun_induction sumN t n with
  | case1 m n => intro s _ _; exact two1_value .sum m n s
  | case2 b m =>
    intro s ok hs
    refine (bind_self fun x hx => ?_).symm
    exact sum0 (value_ok _ ok hs hx)
  | case3 b m n h0 hc ih =>
    intro s ok hs
    rw [ih ok.1 hs, value_twoN, bind_bind]
    exact bind_congr fun x hx => (sum_layer (value_ok b ok.1 hs hx) hc.1).symm
  | case4 b m n h0 hc => intro s ok hs; rfl
  | case5 m b =>
    intro s ok hs
    refine (bind_self fun x hx => ?_).symm
    exact sum0 (value_ok _ ok hs hx)
  | case6 m b n h0 hc =>
    intro s ok hs
    rw [lessN_value]
    show ((Rs.is (m + n)).bind fun x => (value b s).bind fun y => made .less x y) = (((Rs.is m).bind fun x => (value b s).bind fun y => made .less x y)).bind fun x => made .sum x n
    show (value b s).bind (fun y => made .less (m + n) y) = ((value b s).bind fun y => made .less m y).bind fun x => made .sum x n
    rw [bind_bind]
    exact bind_congr fun x hx => (less_layer (value_ok b ok.2 hs hx) hc.1).symm
  | case7 m b n h0 hc => intro s ok hs; rfl
  | case8 t h1 h2 h3 =>
    intro s ok hs
    refine (bind_self fun x hx => ?_).symm
    exact sum0 (value_ok _ ok hs hx)
  | case9 t n h1 h2 h3 h0 => intro s ok hs; rfl
theorem times1 {x : Int} (h : NumOk x) : made .times x 1 = .is x := by
  rw [made_times, Int.mul_one, if_pos h]
theorem part1 {x : Int} (h : NumOk x) : made .part x 1 = .is x := by
  rw [made_part (by decide), Int.ediv_one, if_pos h]
theorem timesN_value : ∀ (t : Ex) (n : Int) {s : Stg}, t.ok → s.ok → value (timesN t n) s = (value t s).bind fun x => made .times x n := by
  intro t n
  fun_induction timesN t n with
  | case1 m n => intro s _ _; exact two1_value .times m n s
  | case2 b m =>
    intro s ok hs
    refine (bind_self fun x hx => ?_).symm
    exact times1 (value_ok _ ok hs hx)
  | case3 b m n h0 hc ih =>
    intro s ok hs
    rw [ih ok.1 hs, value_twoN, bind_bind]
    exact bind_congr fun x hx => (times_layer hc.1).symm
  | case4 b m n h0 hc => intro s ok hs; rfl
  | case5 t h1 h2 =>
    intro s ok hs
    refine (bind_self fun x hx => ?_).symm
    exact times1 (value_ok _ ok hs hx)
  | case6 t n h1 h2 h0 => intro s ok hs; rfl
theorem partN_value : ∀ (t : Ex) (n : Int) {s : Stg}, t.ok → s.ok → value (partN t n) s = (value t s).bind fun x => made .part x n := by
  intro t n
  fun_induction partN t n with
  | case1 m n => intro s _ _; exact two1_value .part m n s
  | case2 b m =>
    intro s ok hs
    refine (bind_self fun x hx => ?_).symm
    exact part1 (value_ok _ ok hs hx)
  | case3 b m n h0 hc ih =>
    intro s ok hs
    rw [ih ok.1 hs, value_twoN, bind_bind]
    exact bind_congr fun x hx => (part_layer (value_ok b ok.1 hs hx) hc.1 hc.2.1).symm
  | case4 b m n h0 hc => intro s ok hs; rfl
  | case5 t h1 h2 =>
    intro s ok hs
    refine (bind_self fun x hx => ?_).symm
    exact part1 (value_ok _ ok hs hx)
  | case6 t n h1 h2 h0 => intro s ok hs; rfl
theorem restN_value : ∀ (t : Ex) (n : Int) {s : Stg}, t.ok → NumOk n → s.ok → value (restN t n) s = (value t s).bind fun x => made .rest x n := by
  intro t n
  fun_induction restN t n with
  | case1 m n => intro s _ _ _; exact two1_value .rest m n s
  | case2 b m n hc =>
    intro s ok hn hs
    rw [value_twoN, bind_bind]
    exact bind_congr fun x hx => (rest_layer1 ok.2 hn hc.1 hc.2.2).symm
  | case3 b m n h1 hc ih =>
    intro s ok hn hs
    rw [ih ok.1 hn hs, value_twoN, bind_bind]
    exact bind_congr fun x hx => (rest_layer2 ok.2 hc.1 hc.2.1 hc.2.2).symm
  | case4 b m n h1 hc => intro s ok hn hs; rfl
  | case5 t n h1 h2 => intro s ok hn hs; rfl
theorem joinN_value (o : Op) (t : Ex) (n : Int) {s : Stg} (ok : t.ok) (hn : NumOk n) (hs : s.ok) : value (joinN o t n) s = (value t s).bind fun x => made o x n := by
  cases o with
  | sum => exact sumN_value t n ok hs
  | less =>
    rw [show joinN .less t n = sumN t (-n) from rfl, sumN_value t (-n) ok hs]
    refine bind_congr fun x hx => ?_
    rw [made_sum, made_less, show x + -n = x - n from rfl]
  | times => exact timesN_value t n ok hs
  | part => exact partN_value t n ok hs
  | rest => exact restN_value t n ok hn hs
  | below => rfl
  | same => rfl
theorem made_same (a b : Int) : made .same a b = .is (if a = b then 1 else 0) := by
  show (if isDiv .same = true ∧ b = 0 then Rs.nought else if NumOk (if a = b then 1 else 0) then .is (if a = b then 1 else 0) else .great) = _
  rw [if_neg (fun z => by cases z.1), if_pos (by split <;> decide)]
theorem made_below (a b : Int) : made .below a b = .is (if a < b then 1 else 0) := by
  show (if isDiv .below = true ∧ b = 0 then Rs.nought else if NumOk (if a < b then 1 else 0) then .is (if a < b then 1 else 0) else .great) = _
  rw [if_neg (fun z => by cases z.1), if_pos (by split <;> decide)]
theorem made_swap {o : Op} (h : swaps o = true) (a b : Int) : made o a b = made o b a := by
  cases o with
  | sum => rw [made_sum, made_sum, Int.add_comm]
  | times => rw [made_times, made_times, Int.mul_comm]
  | same =>
    rw [made_same, made_same]
    by_cases e : a = b
    · rw [if_pos e, if_pos e.symm]
    · rw [if_neg e, if_neg (fun z => e z.symm)]
  | _ => cases h
theorem join_value (o : Op) (a b : Ex) {s : Stg} (oa : a.ok) (ob : b.ok) (hs : s.ok) : value (join o a b) s = (value a s).bind fun x => (value b s).bind fun y => made o x y := by
  by_cases ha : ∃ m, a = .num m
  · obtain ⟨m, rfl⟩ := ha
    by_cases hb : ∃ n, b = .num n
    · obtain ⟨n, rfl⟩ := hb
      exact two1_value o _ _ s
    · have e : join o (.num m) b = if swaps o = true then joinN o b m else .two o (.num m) b := by
        cases b with
        | num n => exact absurd ⟨n, rfl⟩ hb
        | _ => rfl
      rw [e]
      split
      · rename_i hw
        rw [joinN_value o b m ob oa hs]
        exact bind_congr fun x _ => made_swap hw x m
      · rfl
  · by_cases hb : ∃ n, b = .num n
    · obtain ⟨n, rfl⟩ := hb
      have e : join o a (.num n) = joinN o a n := by
        cases a with
        | num n => exact absurd ⟨n, rfl⟩ ha
        | _ => rfl
      rw [e]
      exact joinN_value o a n oa ob hs
    · have e : join o a b = .two o a b := by
        cases a with
        | num n => exact absurd ⟨n, rfl⟩ ha
        | _ => cases b with
          | num n => exact absurd ⟨n, rfl⟩ hb
          | _ => rfl
      rw [e]
      rfl
theorem choose_value : ∀ (c a b : Ex) {s : Stg}, value (choose c a b) s = (value c s).bind fun x => if x ≠ 0 then value a s else value b s := by
  intro c a b
  fun_induction choose c a b with
  | case1 n a b hn => intro s; exact (if_pos hn).symm
  | case2 n a b hn => intro s; exact (if_neg hn).symm
  | case3 d a b ih =>
    intro s
    rw [ih]
    show _ = ((value d s).bind fun x => (Rs.is 0).bind fun y => made .same x y).bind _
    rw [bind_bind]
    refine bind_congr fun x _ => ?_
    show _ = (made .same x 0).bind _
    by_cases hx : x = 0
    · subst hx
      rfl
    · have e : made .same x 0 = .is 0 := by rw [made_same, if_neg hx]
      rw [e, if_pos hx]
      rfl
  | case4 c a b h1 h2 => intro s; rfl
def free : Ex → Str → Prop
  | .num _, _ => False
  | .nam w, x => x = w
  | .two _ a b, x => free a x ∨ free b x
  | .whn c a b, x => free c x ∨ free a x ∨ free b x
  | .lett w a b, x => free a x ∨ (free b x ∧ x ≠ w)
theorem mem_lneeds_free : ∀ (e : Ex) (x : Str), x ∈ lneeds e ↔ free e x
  | .num _, x => by simp [lneeds, free]
  | .nam w, x => by simp [lneeds, free]
  | .two _ a b, x => by
    show x ∈ addAll (addAll [] (lneeds a)) (lneeds b) ↔ free a x ∨ free b x
    rw [mem_addAll, mem_addAll, mem_lneeds_free a, mem_lneeds_free b]
    simp
  | .whn c a b, x => by
    show x ∈ addAll (addAll (addAll [] (lneeds c)) (lneeds a)) (lneeds b) ↔ free c x ∨ free a x ∨ free b x
    rw [mem_addAll, mem_addAll, mem_addAll, mem_lneeds_free c, mem_lneeds_free a, mem_lneeds_free b]
    simp [or_assoc]
  | .lett w a b, x => by
    show x ∈ addAll (addAll [] (lneeds a)) ((lneeds b).filter fun x => !decide (x = w)) ↔ free a x ∨ (free b x ∧ x ≠ w)
    rw [mem_addAll, mem_addAll, List.mem_filter, mem_lneeds_free a, mem_lneeds_free b]
    simp
/-- what a joining with a number may make of t: no other names, a little greater at most -/
structure Mk1 (t r : Ex) : Prop where
  ok : t.ok → r.ok
  fr : ∀ x, free r x → free t x
  sz : r.size ≤ t.size + 2
theorem Mk1.self (t : Ex) : Mk1 t t := ⟨id, fun _ => id, Nat.le_add_right _ _⟩
theorem Mk1.word (o : Op) (t : Ex) {n : Int} (hn : NumOk n) : Mk1 t (.two o t (.num n)) := ⟨fun h => ⟨h, hn⟩, fun x h => h.elim id False.elim, Nat.le_refl _⟩
theorem two1_mk {o : Op} {m n : Int} (hn : NumOk n) : Mk1 (.num m) (two1 o m n) := by
  unfold two1
  cases h : made o m n with
  | is k => exact ⟨fun _ => made_ok h, fun _ z => z, Nat.le_add_right _ _⟩
  | unset w => exact Mk1.word o _ hn
  | nought => exact Mk1.word o _ hn
  | great => exact Mk1.word o _ hn
theorem Mk1.under {o : Op} {b r : Ex} {m : Int} (h : Mk1 b r) : Mk1 (.two o b (.num m)) r := ⟨fun z => h.ok z.1, fun x z => .inl (h.fr x z), by
  have := h.sz
  show r.size ≤ b.size + 1 + 1 + 2
  omega⟩
theorem lessN_mk {k m : Int} {b : Ex} (hk : NumOk k) : Mk1 (.two .less (.num m) b) (lessN k b) := by
  have gen : Mk1 (.two .less (.num m) b) (.two .less (.num k) b) := ⟨fun z => ⟨hk, z.2⟩, fun x z => z.elim False.elim .inr, by
    show 1 + b.size + 1 ≤ 1 + b.size + 1 + 2
    omega⟩
  cases b with
  | num n =>
    show Mk1 _ (two1 .less k n)
    unfold two1
    cases h : made .less k n with
    | is k => exact ⟨fun _ => made_ok h, fun _ z => z.elim, Nat.le_add_left _ _⟩
    | unset w => exact gen
    | nought => exact gen
    | great => exact gen
  | _ => exact gen
theorem sumN_mk : ∀ (t : Ex) (n : Int), NumOk n → Mk1 t (sumN t n) := by
  intro t n
  fun_induction sumN t n with
  | case1 m n => intro hn; exact two1_mk hn
  | case2 b m => intro _; exact Mk1.self _
  | case3 b m n h0 hc ih => intro _; exact (ih hc.2).under
  | case4 b m n h0 hc => intro hn; exact Mk1.word _ _ hn
  | case5 m b => intro _; exact Mk1.self _
  | case6 m b n h0 hc => intro _; exact lessN_mk hc.2
  | case7 m b n h0 hc => intro hn; exact Mk1.word _ _ hn
  | case8 t h1 h2 h3 => intro _; exact Mk1.self _
  | case9 t n h1 h2 h3 h0 => intro hn; exact Mk1.word _ _ hn
theorem timesN_mk : ∀ (t : Ex) (n : Int), NumOk n → Mk1 t (timesN t n) := by
  intro t n
  fun_induction timesN t n with
  | case1 m n => intro hn; exact two1_mk hn
  | case2 b m => intro _; exact Mk1.self _
  | case3 b m n h0 hc ih => intro _; exact (ih hc.2).under
  | case4 b m n h0 hc => intro hn; exact Mk1.word _ _ hn
  | case5 t h1 h2 => intro _; exact Mk1.self _
  | case6 t n h1 h2 h0 => intro hn; exact Mk1.word _ _ hn
theorem partN_mk : ∀ (t : Ex) (n : Int), NumOk n → Mk1 t (partN t n) := by
  intro t n
  fun_induction partN t n with
  | case1 m n => intro hn; exact two1_mk hn
  | case2 b m => intro _; exact Mk1.self _
  | case3 b m n h0 hc ih => intro _; exact (ih hc.2.2).under
  | case4 b m n h0 hc => intro hn; exact Mk1.word _ _ hn
  | case5 t h1 h2 => intro _; exact Mk1.self _
  | case6 t n h1 h2 h0 => intro hn; exact Mk1.word _ _ hn
theorem restN_mk : ∀ (t : Ex) (n : Int), NumOk n → Mk1 t (restN t n) := by
  intro t n
  fun_induction restN t n with
  | case1 m n => intro hn; exact two1_mk hn
  | case2 b m n hc => intro _; exact Mk1.self _
  | case3 b m n h0 hc ih => intro hn; exact (ih hn).under
  | case4 b m n h0 hc => intro hn; exact Mk1.word _ _ hn
  | case5 t n h1 h2 => intro hn; exact Mk1.word _ _ hn
theorem joinN_mk (o : Op) (t : Ex) {n : Int} (hn : NumOk n) : Mk1 t (joinN o t n) := by
  cases o with
  | sum => exact sumN_mk t n hn
  | less => exact sumN_mk t (-n) hn.neg
  | times => exact timesN_mk t n hn
  | part => exact partN_mk t n hn
  | rest => exact restN_mk t n hn
  | below => exact Mk1.word _ _ hn
  | same => exact Mk1.word _ _ hn
/-- the four ways of a joining -/
theorem join_nn (o : Op) (m n : Int) : join o (.num m) (.num n) = two1 o m n := rfl
theorem join_nb (o : Op) (m : Int) {b : Ex} (hb : ∀ n, b ≠ .num n) : join o (.num m) b = if swaps o = true then joinN o b m else .two o (.num m) b := by
  cases b with
  | num n => exact absurd rfl (hb n)
  | _ => rfl
theorem join_an (o : Op) {a : Ex} (n : Int) (ha : ∀ m, a ≠ .num m) : join o a (.num n) = joinN o a n := by
  cases a with
  | num n => exact absurd rfl (ha n)
  | _ => rfl
theorem join_ab (o : Op) {a b : Ex} (ha : ∀ m, a ≠ .num m) (hb : ∀ n, b ≠ .num n) : join o a b = .two o a b := by
  cases a with
  | num n => exact absurd rfl (ha n)
  | _ => cases b with
    | num n => exact absurd rfl (hb n)
    | _ => rfl
theorem isnum (e : Ex) : (∃ n, e = .num n) ∨ ∀ n, e ≠ .num n := by
  cases e with
  | num n => exact .inl ⟨n, rfl⟩
  | _ => exact .inr fun n z => nomatch z
structure Mk2 (a b r : Ex) : Prop where
  ok : a.ok → b.ok → r.ok
  fr : ∀ x, free r x → free a x ∨ free b x
  sz : r.size ≤ a.size + b.size + 1
theorem join_mk (o : Op) {a b : Ex} (oa : a.ok) (ob : b.ok) : Mk2 a b (join o a b) := by
  rcases isnum a with ⟨m, rfl⟩ | ha
  · rcases isnum b with ⟨n, rfl⟩ | hb
    · rw [join_nn]
      have h := two1_mk (o := o) (m := m) (n := n) ob
      exact ⟨fun z _ => h.ok z, fun x z => .inl (h.fr x z), h.sz⟩
    · rw [join_nb o m hb]
      split
      · have h := joinN_mk o b (n := m) oa
        refine ⟨fun _ z => h.ok z, fun x z => .inr (h.fr x z), ?_⟩
        have := h.sz
        show _ ≤ 1 + b.size + 1
        omega
      · exact ⟨fun x y => ⟨x, y⟩, fun x z => z, Nat.le_refl _⟩
  · rcases isnum b with ⟨n, rfl⟩ | hb
    · rw [join_an o n ha]
      have h := joinN_mk o a (n := n) ob
      exact ⟨fun z _ => h.ok z, fun x z => .inl (h.fr x z), h.sz⟩
    · rw [join_ab o ha hb]
      exact ⟨fun x y => ⟨x, y⟩, fun x z => z, Nat.le_refl _⟩
structure Mk3 (c a b r : Ex) : Prop where
  ok : c.ok → a.ok → b.ok → r.ok
  fr : ∀ x, free r x → free c x ∨ free a x ∨ free b x
  sz : r.size ≤ c.size + a.size + b.size + 1
theorem choose_mk : ∀ (c a b : Ex), Mk3 c a b (choose c a b) := by
  intro c a b
  fun_induction choose c a b with
  | case1 n a b hn => exact ⟨fun _ h _ => h, fun x h => .inr (.inl h), by show a.size ≤ 1 + a.size + b.size + 1; omega⟩
  | case2 n a b hn => exact ⟨fun _ _ h => h, fun x h => .inr (.inr h), by show b.size ≤ 1 + a.size + b.size + 1; omega⟩
  | case3 d a b ih =>
    refine ⟨fun hc h1 h2 => ih.ok hc.1 h2 h1, fun x h => ?_, ?_⟩
    · rcases ih.fr x h with z | z | z
      · exact .inl (.inl z)
      · exact .inr (.inr z)
      · exact .inr (.inl z)
    · have := ih.sz
      show _ ≤ (d.size + 1 + 1) + a.size + b.size + 1
      omega
  | case4 c a b h1 h2 => exact ⟨fun h1 h2 h3 => ⟨h1, h2, h3⟩, fun x h => h, Nat.le_refl _⟩
theorem fold_lett_num {w : Str} {a b : Ex} {k : Stg} {n : Int} (h : fold a k = .num n) : fold (.lett w a b) k = fold b (k.put w n) := by
  show (match fold a k with
    | .num n => fold b (k.put w n)
    | f => .lett w f (fold b (k.del w))) = _
  rw [h]
theorem fold_lett_not {w : Str} {a b : Ex} {k : Stg} (h : ∀ n, fold a k ≠ .num n) : fold (.lett w a b) k = .lett w (fold a k) (fold b (k.del w)) := by
  show (match fold a k with
    | .num n => fold b (k.put w n)
    | f => .lett w f (fold b (k.del w))) = _
  cases e : fold a k with
  | num n => exact absurd e (h n)
  | _ => rfl
theorem fold_ok : ∀ (e : Ex) (k : Stg), e.ok → k.ok → (fold e k).ok
  | .num n, _, ok, _ => ok
  | .nam w, k, ok, hk => by
    unfold fold
    split
    · rename_i n h
      exact hk w n h
    · exact ok
  | .two o a b, k, ok, hk => by
    have h1 := fold_ok a k ok.1 hk
    have h2 := fold_ok b k ok.2 hk
    exact (join_mk o h1 h2).ok h1 h2
  | .whn c a b, k, ok, hk => (choose_mk _ _ _).ok (fold_ok c k ok.1 hk) (fold_ok a k ok.2.1 hk) (fold_ok b k ok.2.2 hk)
  | .lett w a b, k, ok, hk => by
    have h1 := fold_ok a k ok.2.1 hk
    rcases isnum (fold a k) with ⟨n, h⟩ | h
    · rw [fold_lett_num h]
      rw [h] at h1
      exact fold_ok b _ ok.2.2 (hk.put w h1)
    · rw [fold_lett_not h]
      exact ⟨ok.1, h1, fold_ok b _ ok.2.2 (hk.del w)⟩
theorem fold_size : ∀ (e : Ex) (k : Stg), e.ok → k.ok → (fold e k).size ≤ e.size
  | .num n, _, ok, _ => Nat.le_refl _
  | .nam w, k, ok, hk => by
    unfold fold
    split <;> exact Nat.le_refl _
  | .two o a b, k, ok, hk => by
    have h1 := fold_size a k ok.1 hk
    have h2 := fold_size b k ok.2 hk
    have h3 := (join_mk o (fold_ok a k ok.1 hk) (fold_ok b k ok.2 hk)).sz
    show (join o (fold a k) (fold b k)).size ≤ a.size + b.size + 1
    omega
  | .whn c a b, k, ok, hk => by
    have h0 := fold_size c k ok.1 hk
    have h1 := fold_size a k ok.2.1 hk
    have h2 := fold_size b k ok.2.2 hk
    have h3 := (choose_mk (fold c k) (fold a k) (fold b k)).sz
    show (choose (fold c k) (fold a k) (fold b k)).size ≤ c.size + a.size + b.size + 1
    omega
  | .lett w a b, k, ok, hk => by
    have h1 := fold_size a k ok.2.1 hk
    have o1 := fold_ok a k ok.2.1 hk
    rcases isnum (fold a k) with ⟨n, h⟩ | h
    · rw [fold_lett_num h]
      rw [h] at o1
      have h2 := fold_size b (k.put w n) ok.2.2 (hk.put w o1)
      show _ ≤ a.size + b.size + 1
      omega
    · rw [fold_lett_not h]
      have h2 := fold_size b (k.del w) ok.2.2 (hk.del w)
      show (fold a k).size + (fold b (k.del w)).size + 1 ≤ a.size + b.size + 1
      omega
theorem fold_free : ∀ (e : Ex) (k : Stg), e.ok → k.ok → ∀ x, free (fold e k) x → free e x ∧ k x = none
  | .num n, _, _, _, x, h => h.elim
  | .nam w, k, ok, hk, x, h => by
    unfold fold at h
    split at h
    · exact h.elim
    · rename_i h1
      have e : x = w := h
      subst e
      exact ⟨rfl, h1⟩
  | .two o a b, k, ok, hk, x, h => by
    rcases (join_mk o (fold_ok a k ok.1 hk) (fold_ok b k ok.2 hk)).fr x h with z | z
    · have := fold_free a k ok.1 hk x z
      exact ⟨.inl this.1, this.2⟩
    · have := fold_free b k ok.2 hk x z
      exact ⟨.inr this.1, this.2⟩
  | .whn c a b, k, ok, hk, x, h => by
    rcases (choose_mk (fold c k) (fold a k) (fold b k)).fr x h with z | z | z
    · have := fold_free c k ok.1 hk x z
      exact ⟨.inl this.1, this.2⟩
    · have := fold_free a k ok.2.1 hk x z
      exact ⟨.inr (.inl this.1), this.2⟩
    · have := fold_free b k ok.2.2 hk x z
      exact ⟨.inr (.inr this.1), this.2⟩
  | .lett w a b, k, ok, hk, x, h => by
    have o1 := fold_ok a k ok.2.1 hk
    rcases isnum (fold a k) with ⟨n, hn⟩ | hn
    · rw [fold_lett_num hn] at h
      rw [hn] at o1
      have := fold_free b (k.put w n) ok.2.2 (hk.put w o1) x h
      have h2 := this.2
      unfold Stg.put at h2
      split at h2
      · cases h2
      · rename_i hw
        exact ⟨.inr ⟨this.1, hw⟩, h2⟩
    · rw [fold_lett_not hn] at h
      rcases h with z | ⟨z, hw⟩
      · have := fold_free a k ok.2.1 hk x z
        exact ⟨.inl this.1, this.2⟩
      · have := fold_free b (k.del w) ok.2.2 (hk.del w) x z
        have h2 := this.2
        unfold Stg.del at h2
        rw [if_neg hw] at h2
        exact ⟨.inr ⟨this.1, hw⟩, h2⟩
/-! ### the value hangs on the free names alone -/
theorem value_free : ∀ (e : Ex) {s t : Stg}, (∀ x, free e x → s x = t x) → value e s = value e t
  | .num _, _, _, _ => rfl
  | .nam w, s, t, h => by
    unfold value
    rw [h w rfl]
  | .two o a b, s, t, h => by
    show (value a s).bind _ = (value a t).bind _
    rw [value_free a fun x z => h x (.inl z), value_free b fun x z => h x (.inr z)]
  | .whn c a b, s, t, h => by
    show (value c s).bind _ = (value c t).bind _
    rw [value_free c fun x z => h x (.inl z), value_free a fun x z => h x (.inr (.inl z)), value_free b fun x z => h x (.inr (.inr z))]
  | .lett w a b, s, t, h => by
    show (value a s).bind _ = (value a t).bind _
    rw [value_free a fun x z => h x (.inl z)]
    refine bind_congr fun y _ => value_free b fun x z => ?_
    unfold Stg.put
    split
    · rfl
    · rename_i hw
      exact h x (.inr ⟨z, hw⟩)
def Stg.le (k s : Stg) : Prop := ∀ w n, k w = some n → s w = some n
/-- what is folded comes to the same -/
theorem fold_value : ∀ (e : Ex) (k s : Stg), e.ok → k.ok → s.ok → k.le s → value (fold e k) s = value e s
  | .num n, _, _, _, _, _, _ => rfl
  | .nam w, k, s, ok, hk, hs, hle => by
    unfold fold
    split
    · rename_i n h
      show Rs.is n = value (.nam w) s
      unfold value
      rw [hle w n h]
    · rfl
  | .two o a b, k, s, ok, hk, hs, hle => by
    show value (join o (fold a k) (fold b k)) s = _
    rw [join_value o _ _ (fold_ok a k ok.1 hk) (fold_ok b k ok.2 hk) hs, fold_value a k s ok.1 hk hs hle, fold_value b k s ok.2 hk hs hle]
    rfl
  | .whn c a b, k, s, ok, hk, hs, hle => by
    show value (choose (fold c k) (fold a k) (fold b k)) s = _
    rw [choose_value, fold_value c k s ok.1 hk hs hle, fold_value a k s ok.2.1 hk hs hle, fold_value b k s ok.2.2 hk hs hle]
    rfl
  | .lett w a b, k, s, ok, hk, hs, hle => by
    have o1 := fold_ok a k ok.2.1 hk
    have v1 := fold_value a k s ok.2.1 hk hs hle
    rcases isnum (fold a k) with ⟨n, hn⟩ | hn
    · rw [fold_lett_num hn]
      rw [hn] at o1 v1
      have ev : value a s = .is n := v1.symm
      have hle2 : (k.put w n).le (s.put w n) := fun x m z => by
        unfold Stg.put at z ⊢
        split at z
        · rename_i hx
          rw [if_pos hx]
          exact z
        · rename_i hx
          rw [if_neg hx]
          exact hle x m z
      have v2 := fold_value b (k.put w n) (s.put w n) ok.2.2 (hk.put w o1) (hs.put w o1) hle2
      have v3 : value (fold b (k.put w n)) s = value (fold b (k.put w n)) (s.put w n) := value_free _ fun x z => by
        have h2 := (fold_free b (k.put w n) ok.2.2 (hk.put w o1) x z).2
        unfold Stg.put at h2 ⊢
        split at h2
        · cases h2
        · rename_i hw
          rw [if_neg hw]
      rw [v3, v2]
      show _ = (value a s).bind _
      rw [ev]
      rfl
    · rw [fold_lett_not hn]
      show (value (fold a k) s).bind _ = (value a s).bind _
      rw [v1]
      refine bind_congr fun y hy => ?_
      refine fold_value b (k.del w) (s.put w y) ok.2.2 (hk.del w) (hs.put w (value_ok a ok.2.1 hs hy)) fun x m z => ?_
      unfold Stg.del at z
      unfold Stg.put
      split at z
      · cases z
      · rename_i hx
        rw [if_neg hx]
        exact hle x m z
/-- short: no rule changes anything in it -/
def sh : Ex → Prop
  | .num _ => True
  | .nam _ => True
  | .two o a b => sh a ∧ sh b ∧ join o a b = .two o a b
  | .whn c a b => sh c ∧ sh a ∧ sh b ∧ choose c a b = .whn c a b
  | .lett _ a b => sh a ∧ sh b ∧ ∀ n, a ≠ .num n
theorem two1_sh (o : Op) (m n : Int) : sh (two1 o m n) := by
  cases h : made o m n with
  | is k =>
    have e : two1 o m n = .num k := by unfold two1; rw [h]
    rw [e]
    trivial
  | _ =>
    have e : two1 o m n = .two o (.num m) (.num n) := by unfold two1; rw [h]
    rw [e]
    exact ⟨trivial, trivial, e⟩
theorem word_sh {o : Op} {t : Ex} {n : Int} (ht : sh t) (h0 : ∀ m, t ≠ .num m) (h : joinN o t n = .two o t (.num n)) : sh (.two o t (.num n)) :=
  ⟨ht, trivial, by rw [join_an o n h0]; exact h⟩
theorem lessN_sh (k : Int) {b : Ex} (hb : sh b) : sh (lessN k b) := by
  rcases isnum b with ⟨n, rfl⟩ | h
  · exact two1_sh _ _ _
  · have e : lessN k b = .two .less (.num k) b := by
      cases b with
      | num n => exact absurd rfl (h n)
      | _ => rfl
    rw [e]
    refine ⟨trivial, hb, ?_⟩
    rw [join_nb _ _ h]
    rfl
theorem sumN_sh : ∀ (t : Ex) (n : Int), sh t → sh (sumN t n) := by
  intro t n
  fun_induction sumN t n with
  | case1 m n => intro _; exact two1_sh _ _ _
  | case2 b m => exact id
  | case3 b m n h0 hc ih => intro h; exact ih h.1
  | case4 b m n h0 hc =>
    intro h
    refine word_sh h (fun m z => nomatch z) ?_
    show sumN _ _ = _
    rw [sumN, if_neg h0, if_neg hc]
  | case5 m b => exact id
  | case6 m b n h0 hc => intro h; exact lessN_sh _ h.2.1
  | case7 m b n h0 hc =>
    intro h
    refine word_sh h (fun m z => nomatch z) ?_
    show sumN _ _ = _
    rw [sumN, if_neg h0, if_neg hc]
  | case8 t h1 h2 h3 => exact id
  | case9 t n h1 h2 h3 h0 =>
    intro h
    refine word_sh h (fun m z => h1 m z) ?_
    show sumN _ _ = _
    rw [sumN.eq_4 _ _ h1 h2 h3, if_neg h0]
theorem timesN_sh : ∀ (t : Ex) (n : Int), sh t → sh (timesN t n) := by
  intro t n
  fun_induction timesN t n with
  | case1 m n => intro _; exact two1_sh _ _ _
  | case2 b m => exact id
  | case3 b m n h0 hc ih => intro h; exact ih h.1
  | case4 b m n h0 hc =>
    intro h
    refine word_sh h (fun m z => nomatch z) ?_
    show timesN _ _ = _
    rw [timesN, if_neg h0, if_neg hc]
  | case5 t h1 h2 => exact id
  | case6 t n h1 h2 h0 =>
    intro h
    refine word_sh h (fun m z => h1 m z) ?_
    show timesN _ _ = _
    rw [timesN.eq_3 _ _ h1 h2, if_neg h0]
theorem partN_sh : ∀ (t : Ex) (n : Int), sh t → sh (partN t n) := by
  intro t n
  fun_induction partN t n with
  | case1 m n => intro _; exact two1_sh _ _ _
  | case2 b m => exact id
  | case3 b m n h0 hc ih => intro h; exact ih h.1
  | case4 b m n h0 hc =>
    intro h
    refine word_sh h (fun m z => nomatch z) ?_
    show partN _ _ = _
    rw [partN, if_neg h0, if_neg hc]
  | case5 t h1 h2 => exact id
  | case6 t n h1 h2 h0 =>
    intro h
    refine word_sh h (fun m z => h1 m z) ?_
    show partN _ _ = _
    rw [partN.eq_3 _ _ h1 h2, if_neg h0]
theorem restN_sh : ∀ (t : Ex) (n : Int), sh t → sh (restN t n) := by
  intro t n
  fun_induction restN t n with
  | case1 m n => intro _; exact two1_sh _ _ _
  | case2 b m n hc => exact id
  | case3 b m n h0 hc ih => intro h; exact ih h.1
  | case4 b m n h0 hc =>
    intro h
    refine word_sh h (fun m z => nomatch z) ?_
    show restN _ _ = _
    rw [restN, if_neg h0, if_neg hc]
  | case5 t n h1 h2 =>
    intro h
    refine word_sh h (fun m z => h1 m z) ?_
    show restN _ _ = _
    rw [restN.eq_3 _ _ h1 h2]
theorem joinN_sh (o : Op) (t : Ex) (n : Int) (h : sh t) (h0 : ∀ m, t ≠ .num m) : sh (joinN o t n) := by
  cases o with
  | sum => exact sumN_sh t n h
  | less => exact sumN_sh t (-n) h
  | times => exact timesN_sh t n h
  | part => exact partN_sh t n h
  | rest => exact restN_sh t n h
  | below => exact word_sh h h0 rfl
  | same => exact word_sh h h0 rfl
theorem join_sh (o : Op) {a b : Ex} (ha : sh a) (hb : sh b) : sh (join o a b) := by
  rcases isnum a with ⟨m, rfl⟩ | na
  · rcases isnum b with ⟨n, rfl⟩ | nb
    · exact two1_sh o m n
    · rw [join_nb o m nb]
      split
      · exact joinN_sh o b m hb nb
      · rename_i hw
        exact ⟨trivial, hb, by rw [join_nb o m nb, if_neg hw]⟩
  · rcases isnum b with ⟨n, rfl⟩ | nb
    · rw [join_an o n na]
      exact joinN_sh o a n ha na
    · rw [join_ab o na nb]
      exact ⟨ha, hb, join_ab o na nb⟩
theorem choose_sh : ∀ (c a b : Ex), sh c → sh a → sh b → sh (choose c a b) := by
  intro c a b
  fun_induction choose c a b with
  | case1 n a b hn => exact fun _ h _ => h
  | case2 n a b hn => exact fun _ _ h => h
  | case3 d a b ih => exact fun hc h1 h2 => ih hc.1 h2 h1
  | case4 c a b h1 h2 =>
    intro hc ha hb
    refine ⟨hc, ha, hb, ?_⟩
    rw [choose.eq_3 _ _ _ h1 h2]
theorem fold_sh : ∀ (e : Ex) (k : Stg), sh (fold e k)
  | .num n, _ => trivial
  | .nam w, k => by
    unfold fold
    split <;> trivial
  | .two o a b, k => join_sh o (fold_sh a k) (fold_sh b k)
  | .whn c a b, k => choose_sh _ _ _ (fold_sh c k) (fold_sh a k) (fold_sh b k)
  | .lett w a b, k => by
    rcases isnum (fold a k) with ⟨n, h⟩ | h
    · rw [fold_lett_num h]
      exact fold_sh b _
    · rw [fold_lett_not h]
      exact ⟨fold_sh a k, fold_sh b _, h⟩
/-- what is short, folded where none of its names is known, is itself -/
theorem fold_still : ∀ (f : Ex) (k : Stg), sh f → (∀ x, free f x → k x = none) → fold f k = f
  | .num n, _, _, _ => rfl
  | .nam w, k, _, h => by
    unfold fold
    rw [h w rfl]
  | .two o a b, k, hs, h => by
    show join o (fold a k) (fold b k) = _
    rw [fold_still a k hs.1 fun x z => h x (.inl z), fold_still b k hs.2.1 fun x z => h x (.inr z)]
    exact hs.2.2
  | .whn c a b, k, hs, h => by
    show choose (fold c k) (fold a k) (fold b k) = _
    rw [fold_still c k hs.1 fun x z => h x (.inl z), fold_still a k hs.2.1 fun x z => h x (.inr (.inl z)), fold_still b k hs.2.2.1 fun x z => h x (.inr (.inr z))]
    exact hs.2.2.2
  | .lett w a b, k, hs, h => by
    have e1 := fold_still a k hs.1 fun x z => h x (.inl z)
    have hn : ∀ n, fold a k ≠ .num n := by rw [e1]; exact hs.2.2
    rw [fold_lett_not hn, e1]
    have e2 := fold_still b (k.del w) hs.2.1 fun x z => by
      unfold Stg.del
      by_cases hx : x = w
      · rw [if_pos hx]
      · rw [if_neg hx]
        exact h x (.inr ⟨z, hx⟩)
    rw [e2]
def noStg : Stg := fun _ => none
theorem fold_twice_none (e : Ex) (k : Stg) : fold (fold e k) noStg = fold e k := fold_still _ _ (fold_sh e k) fun _ _ => rfl
theorem fold_twice_same (e : Ex) (k : Stg) (ok : e.ok) (hk : k.ok) : fold (fold e k) k = fold e k := fold_still _ _ (fold_sh e k) fun x z => (fold_free e k ok hk x z).2
/-- without the known names the same -/
theorem fold_value_less (e : Ex) (k s t : Stg) (ok : e.ok) (hk : k.ok) (hs : s.ok) (hle : k.le s) (ht : ∀ x, k x = none → t x = s x) : value (fold e k) t = value e s := by
  rw [← fold_value e k s ok hk hs hle]
  exact value_free _ fun x z => ht x (fold_free e k ok hk x z).2
/-- in two goes -/
theorem fold_two_goes (e : Ex) (k1 k2 s : Stg) (ok : e.ok) (h1 : k1.ok) (h2 : k2.ok) (hs : s.ok) (l1 : k1.le s) (l2 : k2.le s) : value (fold (fold e k1) k2) s = value e s := by
  rw [fold_value _ k2 s (fold_ok e k1 ok h1) h2 hs l2, fold_value e k1 s ok h1 hs l1]
theorem fold_two_free (e : Ex) (k1 k2 : Stg) (ok : e.ok) (h1 : k1.ok) (h2 : k2.ok) (x : Str) (h : free (fold (fold e k1) k2) x) : k1 x = none ∧ k2 x = none := by
  have z := fold_free _ k2 (fold_ok e k1 ok h1) h2 x h
  exact ⟨(fold_free e k1 ok h1 x z.1).2, z.2⟩
end FC
namespace FC
open PySem L2 StX PyProof.Rows
section
variable {P : Program} {w : World} {K : PySem.W.Frag} {mg : Str → Option Value} {base : Heap} {t1 t2 : Tok} {f g f1 f2 f3 f4 f5 f6 f7 f8 f9 : Addr} {fd gd fd1 fd2 fd3 fd4 fd5 fd6 fd7 fd8 fd9 : FuncData}
def rsL : Rs → List V
  | .is n => [.str "is", .int n]
  | .unset x => [.str "unset", .str x]
  | .nought => [.str "nought", .str ""]
  | .great => [.str "great", .str ""]
def spMade : Sp := fun vs H Q _ => ∃ (o : Op) (x y : Int), vs = [.str o.str, .int x, .int y] ∧ NumOk x ∧ NumOk y ∧ ∀ (H' : Hp) (p : Addr), Same H H' → H' p = some (.tup (rsL (made o x y))) → Q (.ref p) H'
theorem made_tail {D : Ends} {σ : L2.St} {H : Hp} {k : Int} {Q : VK} (s3 : σ[3]? = some (some (.int k))) (hD : D.rt = Q) (h1 : NumOk k → ∀ p, H p = none → Q (.ref p) (upd H p (.tup [.str "is", .int k]))) (h2 : ¬ NumOk k → ∀ p, H p = none → Q (.ref p) (upd H p (.tup [.str "great", .str ""]))) :
    tSeq (tIfS (tOr (tTest (tOp (rI0 fun i j => .bl (decide (j < i))) (tVar 3) (tC (.int 1000000000)))) (tTest (tOp (rI0 fun i j => V.bl (decide (i < j))) (tVar 3) (tUn (rU fun i => .int (-i)) (tC (.int 1000000000)))))) (tRet (tTup (tCons (tC (.str "great")) (tCons (tC (.str "")) tNil)))) tNext)
      (tRet (tTup (tCons (tC (.str "is")) (tCons (tVar 3) tNil)))) D σ H := by
  subst hD
  refine ⟨_, s3, _, _, rfl, rfl, _, rfl, ite2 (fun a => iteT ⟨(by show 2 ≤ sizeLine; decide), fun p hp => h2 (fun z => ?_) p hp⟩) (fun a => ⟨_, s3, _, rfl, _, _, rfl, rfl, _, rfl, ite2 (fun b => ⟨(by show 2 ≤ sizeLine; decide), fun p hp => h2 (fun z => ?_) p hp⟩) (fun b => ?_)⟩)⟩
  · have := of_decide_eq_true a
    exact absurd z.2 (by omega)
  · have := of_decide_eq_true b
    exact absurd z.1 (by omega)
  · have a' : ¬ (1000000000 : Int) < k := fun z => a (decide_eq_true z)
    have b' : ¬ k < (-1000000000 : Int) := fun z => b (decide_eq_true z)
    exact ⟨_, s3, (by show 2 ≤ sizeLine; decide), fun p hp => h1 ⟨by omega, by omega⟩ p hp⟩
structure Bl2 (mg : Str → Option Value) : Prop extends Bl mg where
  dict : mg "dict" = none
  abs : mg "abs" = none
  tuple : mg "tuple" = none
/-- the dict's pairs are the setting -/
def IsS (kvs : List (Key × V)) (s : Stg) : Prop := ∀ x : Str, valV kvs (Sum.inr x) = (s x).map V.int
theorem IsS.put {kvs : List (Key × V)} {s : Stg} (h : IsS kvs s) (x : Str) (n : Int) : IsS (putK kvs (Sum.inr x) (.int n)) (s.put x n) := fun y => by
  rw [valV_put, h y]
  unfold Stg.put
  by_cases e : y = x
  · subst e
    rw [if_pos rfl, if_pos rfl]
    rfl
  · rw [if_neg (fun z => e (Sum.inr.inj z)), if_neg e]
theorem putK_lenK (kvs : List (Key × V)) (k : Key) (v : V) : (putK kvs k v).length ≤ kvs.length + 1 := by
  unfold putK
  split
  · rw [List.length_map]
    exact Nat.le_succ _
  · rw [List.length_append]
    exact Nat.le_refl _
theorem Rs.ways (r : Rs) : (∃ n, r = .is n) ∨ ((∀ f, r.bind f = r) ∧ ∃ tag x, rsL r = [.str tag, x] ∧ (!decide (V.str tag = V.str "is")) = true) := by
  cases r with
  | is n => exact .inl ⟨n, rfl⟩
  | unset x => exact .inr ⟨fun _ => rfl, _, _, rfl, by decide⟩
  | nought => exact .inr ⟨fun _ => rfl, _, _, rfl, by decide⟩
  | great => exact .inr ⟨fun _ => rfl, _, _, rfl, by decide⟩
def spLValue (n : Nat) : Sp := fun vs H Q _ => ∃ (v : V) (e : Ex) (d : Addr) (s : Stg) (kvs : List (Key × V)), vs = [v, .ref d] ∧ Bears H v e ∧ e.ok ∧ e.deep ≤ n ∧ H d = some (.dK kvs) ∧ kvs.length + e.deep ≤ 1000 ∧ IsS kvs s ∧ s.ok ∧
  ∀ (H' : Hp) (p : Addr), Same H H' → H' p = some (.tup (rsL (value e s))) → Q (.ref p) H'
theorem spLValue0 : FnOk P w K mg base CX0 0 f fd ["_law_expr", "_law_setting"] (spLValue 0) := by
  have no : ∀ vs H Q E, ¬ spLValue 0 vs H Q E := fun vs H Q E h => by
    obtain ⟨v, e, _, _, _, _, _, _, h1, _⟩ := h
    have := e.deep_pos
    omega
  exact ⟨fun vs H Q E h => absurd h (no vs H Q E), fun A outer s H args us vs Q E _ _ _ _ h => absurd h (no vs H Q E)⟩
theorem op_when (o : Op) : decide (V.str o.str = V.str "when") = false := by cases o <;> decide
abbrev AL := List (Str × Int)
def dS (l : AL) : List (Key × V) := l.map fun p => ((Sum.inr p.1 : Key), V.int p.2)
def stg (l : AL) : Stg := fun x => (l.find? fun p => decide (p.1 = x)).map (·.2)
def putS (l : AL) (x : Str) (n : Int) : AL := if (l.any fun p => decide (p.1 = x)) = true then l.map fun p => if p.1 = x then (p.1, n) else p else l ++ [(x, n)]
structure AOk (l : AL) : Prop where
  nd : (l.map (·.1)).Nodup
  nm : ∀ p ∈ l, NameOk p.1 ∧ NumOk p.2
theorem dS_len (l : AL) : (dS l).length = l.length := List.length_map _
theorem dS_val (l : AL) : IsS (dS l) (stg l) := fun x => by
  unfold dS stg valV
  induction l with
  | nil => rfl
  | cons p r ih =>
    rw [List.map_cons, List.find?_cons, List.find?_cons]
    have e : decide ((Sum.inr p.1 : Key) = Sum.inr x) = decide (p.1 = x) := key_rr _ _
    rw [e]
    cases h : decide (p.1 = x)
    · exact ih
    · rfl
theorem dS_any (l : AL) (x : Str) : ((dS l).any fun kv => decide (kv.1 = (Sum.inr x : Key))) = l.any fun p => decide (p.1 = x) := by
  unfold dS
  rw [List.any_map]
  congr 1
  funext p
  exact key_rr _ _
theorem dS_put (l : AL) (x : Str) (n : Int) : putK (dS l) (Sum.inr x : Key) (.int n) = dS (putS l x n) := by
  unfold putK putS
  rw [dS_any]
  split
  · unfold dS
    rw [List.map_map, List.map_map]
    refine List.map_congr_left fun p _ => ?_
    show (if (Sum.inr p.1 : Key) = Sum.inr x then ((Sum.inr p.1 : Key), V.int n) else (Sum.inr p.1, V.int p.2)) = ((Sum.inr (if p.1 = x then (p.1, n) else p).1 : Key), V.int (if p.1 = x then (p.1, n) else p).2)
    by_cases h : p.1 = x
    · rw [if_pos (congrArg Sum.inr h), if_pos h]
    · rw [if_neg (fun z => h (Sum.inr.inj z)), if_neg h]
  · unfold dS
    rw [List.map_append]
    rfl
theorem putS_len (l : AL) (x : Str) (n : Int) : (putS l x n).length ≤ l.length + 1 := by
  unfold putS
  split
  · rw [List.length_map]; exact Nat.le_succ _
  · rw [List.length_append]; exact Nat.le_refl _
theorem putS_keys (l : AL) (x : Str) (n : Int) : (putS l x n).map (·.1) = if (l.any fun p => decide (p.1 = x)) = true then l.map (·.1) else l.map (·.1) ++ [x] := by
  unfold putS
  split
  · rw [List.map_map]
    refine List.map_congr_left fun p _ => ?_
    show (if p.1 = x then (p.1, n) else p).1 = p.1
    split <;> rfl
  · rw [List.map_append]
    rfl
theorem AOk.put {l : AL} (h : AOk l) {x : Str} {n : Int} (hx : NameOk x) (hn : NumOk n) : AOk (putS l x n) := by
  refine ⟨?_, fun p hp => ?_⟩
  · rw [putS_keys]
    split
    · exact h.nd
    · rename_i hc
      refine nd_snoc h.nd fun m => hc ?_
      obtain ⟨p, hp, e⟩ := List.mem_map.mp m
      exact List.any_eq_true.mpr ⟨p, hp, decide_eq_true e⟩
  · unfold putS at hp
    split at hp
    · obtain ⟨q, hq, e⟩ := List.mem_map.mp hp
      have := h.nm q hq
      by_cases c : q.1 = x
      · rw [if_pos c] at e
        subst e
        exact ⟨this.1, hn⟩
      · rw [if_neg c] at e
        subst e
        exact this
    · rcases List.mem_append.mp hp with z | z
      · exact h.nm p z
      · rw [List.mem_singleton.mp z]
        exact ⟨hx, hn⟩
theorem AOk.nil : AOk [] := ⟨List.nodup_nil, fun _ z => nomatch z⟩
theorem AOk.stg {l : AL} (h : AOk l) : (stg l).ok := fun x n e => by
  unfold FC.stg at e
  obtain ⟨p, hp, rfl⟩ := Option.map_eq_some_iff.mp e
  exact (h.nm p (List.mem_of_find?_eq_some hp)).2
theorem stg_put (l : AL) (x : Str) (n : Int) : stg (putS l x n) = (stg l).put x n := by
  funext y
  have h1 := dS_val (putS l x n) y
  have h2 := (dS_val l).put x n y
  rw [← dS_put, h2] at h1
  cases h3 : (stg l).put x n y <;> cases h4 : stg (putS l x n) y <;> rw [h3, h4] at h1 <;> first | rfl | cases h1 <;> rfl
def spCount (K : PySem.W.Frag) : Sp := fun vs H Q _ => ∃ (a : Addr) (ms : List Int), vs = [.ref a] ∧ SqL K H a (ms.map V.int) ∧ (∀ m ∈ ms, 0 ≤ m) ∧ ∀ c : Int, 0 ≤ c → c ≤ 41 → Q (.int c) H
def spKnownBy (K : PySem.W.Frag) : Sp := fun vs H Q _ => ∃ (a : Addr) (ms : List Int), vs = [.ref a] ∧ SqL K H a (ms.map V.int) ∧ (∀ m ∈ ms, 0 ≤ m) ∧ ∀ (H' : Hp) (p : Addr) (l : AL), Same H H' → H p = none → H' p = some (.dK (dS l)) → AOk l → l.length ≤ 41 → Q (.ref p) H'
def spSettingBy (K : PySem.W.Frag) : Sp := fun vs H Q _ => ∃ (a : Addr) (ms : List Int) (t : Int), vs = [.ref a, .int t] ∧ SqL K H a (ms.map V.int) ∧ (∀ m ∈ ms, 0 ≤ m) ∧ 0 ≤ t ∧ t ≤ 100 ∧ ∀ (H' : Hp) (p : Addr) (l : AL), Same H H' → H p = none → H' p = some (.dK (dS l)) → AOk l → l.length ≤ 41 → Q (.ref p) H'
theorem for_str {x : Str} {g : TG} {tb : TS} {D : Ends} {σ : L2.St} {H : Hp} (Pv : Nat → L2.St → Hp → Prop) (h0 : Pv 0 σ H)
    (hs : ∀ i c σ H, x.cps[i]? = some c → Pv i σ H → g (.str ⟨#[c]⟩) σ H fun σ2 H2 => tb { D with nx := Pv (i + 1), ct := Pv (i + 1), bk := D.nx } σ2 H2) (hd : ∀ σ H, Pv x.cps.size σ H → D.nx σ H) :
    ∃ W : Nat → Nat → L2.St → Hp → Prop, (∃ m, W 0 m σ H) ∧ ∀ i m σ H, W i m σ H →
      ((Its x).stop i H ∧ D.nx σ H) ∨ ((Its x).go i H ∧ ∃ N : L2.St → Hp → Prop, (∀ σ' H', N σ' H' → ∃ m', m' < m ∧ W (i + 1) m' σ' H') ∧ ∀ v H', (Its x).yld i H v H' → g v σ H' fun σ2 H2 => tb { D with nx := N, ct := N, bk := D.nx } σ2 H2) := by
  refine ⟨fun i m σ H => m = x.cps.size - i ∧ i ≤ x.cps.size ∧ Pv i σ H, ⟨x.cps.size, by simp, Nat.zero_le _, h0⟩, ?_⟩
  rintro i m σ H ⟨rfl, hi, p⟩
  by_cases h : i < x.cps.size
  · refine .inr ⟨h, Pv (i + 1), fun σ' H' q => ⟨x.cps.size - (i + 1), by omega, rfl, by omega, q⟩, ?_⟩
    rintro v H' ⟨rfl, c, hc, rfl⟩
    exact hs i c σ _ hc p
  · have e : i = x.cps.size := by omega
    subst e
    exact .inl ⟨Nat.le_refl _, hd σ H p⟩
theorem Ex.ok_kids {e x : Ex} (h : e.ok) (hx : x ∈ e.kids) : x.ok := by
  cases e with
  | num _ => cases hx
  | nam _ => cases hx
  | two o a b =>
    rcases List.mem_cons.mp hx with rfl | hx
    · exact h.1
    · rcases List.mem_cons.mp hx with rfl | hx
      · exact h.2
      · cases hx
  | whn c a b =>
    rcases List.mem_cons.mp hx with rfl | hx
    · exact h.1
    · rcases List.mem_cons.mp hx with rfl | hx
      · exact h.2.1
      · rcases List.mem_cons.mp hx with rfl | hx
        · exact h.2.2
        · cases hx
  | lett _ a b =>
    rcases List.mem_cons.mp hx with rfl | hx
    · exact h.2.1
    · rcases List.mem_cons.mp hx with rfl | hx
      · exact h.2.2
      · cases hx
theorem op_notin7 (o : Op) : (!inV (.str o.str) [.str "sum", .str "less", .str "times", .str "part", .str "rest", .str "below", .str "same"]) = false := by cases o <;> decide
def spIsName : Sp := fun vs H Q _ => ∃ x : Str, vs = [.str x] ∧ NameOk x ∧ Q (.bl true) H
theorem sign_in {c : Nat} (h : 97 ≤ c ∧ c ≤ 122) : (!decide (c ∈ signs.cps.toList)) = false := by
  have e : signs.cps.toList = (List.range 26).map (· + 97) := by decide +kernel
  rw [e, decide_eq_true, Bool.not_true]
  exact List.mem_map.mpr ⟨c - 97, List.mem_range.mpr (by omega), by omega⟩
def spIsExpr (n : Nat) : Sp := fun vs H Q _ => ∃ (v : V) (e : Ex), vs = [v] ∧ Bears H v e ∧ e.ok ∧ e.deep ≤ n ∧ ∀ H', Same H H' → Q (.bl true) H'
theorem spIsExpr0 : FnOk P w K mg base CX0 0 f fd ["_law_expr"] (spIsExpr 0) := by
  have no : ∀ vs H Q E, ¬ spIsExpr 0 vs H Q E := fun vs H Q E h => by
    obtain ⟨v, e, _, _, _, h1, _⟩ := h
    have := e.deep_pos
    omega
  exact ⟨fun vs H Q E h => absurd h (no vs H Q E), fun A outer s H args us vs Q E _ _ _ _ h => absurd h (no vs H Q E)⟩
theorem kids_loop {D : Ends} {σ : L2.St} {H : Hp} {l : Addr} {v : V} {zz : Option V} {ws : List V} {es : List Ex} {n : Nat} {Q : VK} (hσ : σ = [some v, some (.ref l), zz]) (hl : H l = some (.lst ws)) (b : BearsL H ws es) (hok : ∀ e ∈ es, e.ok ∧ e.deep ≤ n) (hD : D.rt = Q)
    (q : ∀ H', Same H H' → Q (.bl true) H') :
    tSeq (tFor (iList K (tVar 1)) (gName 2) (tIfS (tNot (tB (tCall (spIsExpr n) [] E0 (tCons (tVar 2) tNil)))) (tRet (tC (.bl false))) tNext)) (tRet (tC (.bl true))) D σ H := by
  subst hσ hD
  refine ⟨_, rfl, l, rfl, ⟨_, .inl (.inl hl)⟩, ?_⟩
  refine for_list (K := K) (a := l) (xs := ws) (fun i σ H2 => Same H H2 ∧ ∃ zz, σ = [some v, some (.ref l), zz]) ⟨Same.refl _, _, rfl⟩ (fun i σ H2 _ h => .inl (.inl (h.1 _ _ hl))) (fun i x σ H2 hx hP => ?_) (fun σ H2 hP => ?_)
  · obtain ⟨g2, zz, rfl⟩ := hP
    obtain ⟨ex, he, bx⟩ := b.get hx
    have hm : ex ∈ es := List.mem_of_getElem? he
    exact ⟨_, rfl, x, ex, rfl, bx.mono (Tups.of g2), (hok ex hm).1, (hok ex hm).2, fun H3 g3 => ⟨true, rfl, iteF ⟨g2.trans g3, _, rfl⟩⟩⟩
  · obtain ⟨g2, zz, rfl⟩ := hP
    exact q H2 g2
def exD : Ex → PyData
  | .num n => .tuple [.str "num", .int n]
  | .nam x => .tuple [.str "name", .str x]
  | .two o a b => .tuple [.str o.str, exD a, exD b]
  | .whn c a b => .tuple [.str "when", exD c, exD a, exD b]
  | .lett x a b => .tuple [.str "let", .str x, exD a, exD b]
theorem Bears.dp {K : PySem.W.Frag} {H : Hp} {v : V} {e : Ex} (b : Bears H v e) : Dp K H v (exD e) := by
  induction b with
  | num h => exact .tup (.inl (.inl h)) (.cons (.str _) (.cons (.int _) .nil))
  | nam h => exact .tup (.inl (.inl h)) (.cons (.str _) (.cons (.str _) .nil))
  | two h _ _ i1 i2 => exact .tup (.inl (.inl h)) (.cons (.str _) (.cons i1 (.cons i2 .nil)))
  | whn h _ _ _ i0 i1 i2 => exact .tup (.inl (.inl h)) (.cons (.str _) (.cons i0 (.cons i1 (.cons i2 .nil))))
  | lett h _ _ i1 i2 => exact .tup (.inl (.inl h)) (.cons (.str _) (.cons (.str _) (.cons i1 (.cons i2 .nil))))
theorem op_strOk (o : Op) : PyData.strOk o.str = true := by cases o <;> decide +kernel
theorem exD_lay : ∀ e : Ex, e.ok → (exD e).canLay0 = true
  | .num n, _ => by
    have h : PyData.strOk "num" = true := by decide +kernel
    simp [exD, PyData.canLay0, PyData.canLayAll0, h]
  | .nam x, ok => by
    have h : PyData.strOk "name" = true := by decide +kernel
    have h2 : PyData.strOk x = true := Low.strOk (show NameOk x from ok).2.2
    simp [exD, PyData.canLay0, PyData.canLayAll0, h, h2]
  | .two o a b, ok => by
    have h1 := exD_lay a ok.1
    have h2 := exD_lay b ok.2
    simp [exD, PyData.canLay0, PyData.canLayAll0, op_strOk, h1, h2]
  | .whn c a b, ok => by
    have h : PyData.strOk "when" = true := by decide +kernel
    have h0 := exD_lay c ok.1
    have h1 := exD_lay a ok.2.1
    have h2 := exD_lay b ok.2.2
    simp [exD, PyData.canLay0, PyData.canLayAll0, h, h0, h1, h2]
  | .lett x a b, ok => by
    have h : PyData.strOk "let" = true := by decide +kernel
    have hx : PyData.strOk x = true := Low.strOk ok.1.2.2
    have h1 := exD_lay a ok.2.1
    have h2 := exD_lay b ok.2.2
    simp [exD, PyData.canLay0, PyData.canLayAll0, h, hx, h1, h2]
theorem exD_depth : ∀ e : Ex, (exD e).depth ≤ e.deep
  | .num n => by simp [exD, PyData.depth, PyData.depthAll, Ex.deep]
  | .nam x => by simp [exD, PyData.depth, PyData.depthAll, Ex.deep]
  | .two o a b => by
    have h1 := exD_depth a
    have h2 := exD_depth b
    simp [exD, PyData.depth, PyData.depthAll, Ex.deep]
    omega
  | .whn c a b => by
    have h0 := exD_depth c
    have h1 := exD_depth a
    have h2 := exD_depth b
    simp [exD, PyData.depth, PyData.depthAll, Ex.deep]
    omega
  | .lett x a b => by
    have h1 := exD_depth a
    have h2 := exD_depth b
    simp [exD, PyData.depth, PyData.depthAll, Ex.deep]
    omega
theorem op_inj {o p : Op} (h : o.str = p.str) : o = p := by revert h; cases o <;> cases p <;> decide
theorem op_ne_w (o : Op) : o.str ≠ "num" ∧ o.str ≠ "name" ∧ o.str ≠ "when" ∧ o.str ≠ "let" := by cases o <;> decide
theorem exD_word (e : Ex) : ∃ r, exD e = .tuple (.str e.word :: r) := by cases e <;> exact ⟨_, rfl⟩
theorem eqv_word {a b : Ex} (h : PyData.eqv (exD a) (exD b) = true) : a.word = b.word := by
  obtain ⟨r, h1⟩ := exD_word a
  obtain ⟨s, h2⟩ := exD_word b
  rw [h1, h2] at h
  simp [PyData.eqv, PyData.eqvAll] at h
  exact h.1
theorem exD_eqv : ∀ a b : Ex, PyData.eqv (exD a) (exD b) = true → a = b
  | .num n, b, h => by
    have hw := eqv_word h
    cases b with
    | num m => simp [exD, PyData.eqv, PyData.eqvAll] at h; rw [h]
    | two o c d => exact absurd hw.symm (op_ne_w o).1
    | _ => exact absurd hw (by simp only [Ex.word]; decide)
  | .nam x, b, h => by
    have hw := eqv_word h
    cases b with
    | nam y => simp [exD, PyData.eqv, PyData.eqvAll] at h; rw [h]
    | two o c d => exact absurd hw.symm (op_ne_w o).2.1
    | _ => exact absurd hw (by simp only [Ex.word]; decide)
  | .two o a1 a2, b, h => by
    have hw := eqv_word h
    cases b with
    | two p b1 b2 =>
      simp [exD, PyData.eqv, PyData.eqvAll] at h
      rw [op_inj h.1, exD_eqv a1 b1 h.2.1, exD_eqv a2 b2 h.2.2]
    | num n => exact absurd hw (op_ne_w o).1
    | nam n => exact absurd hw (op_ne_w o).2.1
    | whn _ _ _ => exact absurd hw (op_ne_w o).2.2.1
    | lett _ _ _ => exact absurd hw (op_ne_w o).2.2.2
  | .whn a0 a1 a2, b, h => by
    have hw := eqv_word h
    cases b with
    | whn b0 b1 b2 =>
      simp [exD, PyData.eqv, PyData.eqvAll] at h
      rw [exD_eqv a0 b0 h.1, exD_eqv a1 b1 h.2.1, exD_eqv a2 b2 h.2.2]
    | two o c d => exact absurd hw.symm (op_ne_w o).2.2.1
    | _ => exact absurd hw (by simp only [Ex.word]; decide)
  | .lett x a1 a2, b, h => by
    have hw := eqv_word h
    cases b with
    | lett y b1 b2 =>
      simp [exD, PyData.eqv, PyData.eqvAll] at h
      rw [h.1, exD_eqv a1 b1 h.2.1, exD_eqv a2 b2 h.2.2]
    | two o c d => exact absurd hw.symm (op_ne_w o).2.2.2
    | _ => exact absurd hw (by simp only [Ex.word]; decide)
theorem exD_self : ∀ a : Ex, PyData.eqv (exD a) (exD a) = true
  | .num n => by simp [exD, PyData.eqv, PyData.eqvAll]
  | .nam n => by simp [exD, PyData.eqv, PyData.eqvAll]
  | .two o a b => by simp [exD, PyData.eqv, PyData.eqvAll, exD_self a, exD_self b]
  | .whn c a b => by simp [exD, PyData.eqv, PyData.eqvAll, exD_self c, exD_self a, exD_self b]
  | .lett x a b => by simp [exD, PyData.eqv, PyData.eqvAll, exD_self a, exD_self b]
theorem exD_eq (a b : Ex) : PyData.eqv (exD a) (exD b) = decide (a = b) := by
  by_cases h : a = b
  · subst h
    rw [exD_self, decide_eq_true rfl]
  · rw [decide_eq_false h]
    exact Bool.eq_false_iff.mpr fun z => h (exD_eqv a b z)
/-- == of two expressions, one of them at most 200 deep -/
def rEqX (neg : Bool) : R2 := fun x y H Q => ∃ a b : Ex, Bears H x a ∧ Bears H y b ∧ a.ok ∧ b.ok ∧ min a.deep b.deep ≤ 199 ∧ Q (.bl (if neg = true then !decide (a = b) else decide (a = b))) H
theorem op_eqX {X : Cx} (hu : X.A.units + 200 < cLine) : OpR X (compareOp .Eq) (rEqX false) := by
  intro pins s σ H x y v u Q I rx ry h
  obtain ⟨a, b, ba, bb, oa, ob, hd, q⟩ := h
  obtain ⟨as, r1⟩ := Dp.reads I (exD a) x v ba.dp rx
  obtain ⟨bs, r2⟩ := Dp.reads I (exD b) y u bb.dp ry
  have h1 := exD_depth a
  have h2 := exD_depth b
  exact SeqAt.compareEq_reads r1 r2 (exD_lay a oa) (exD_lay b ob) (by omega) ⟨.bl _, H, I, by rw [exD_eq]; rfl, q⟩
theorem op_neX {X : Cx} (hu : X.A.units + 200 < cLine) : OpR X (compareOp .NotEq) (rEqX true) := by
  intro pins s σ H x y v u Q I rx ry h
  obtain ⟨a, b, ba, bb, oa, ob, hd, q⟩ := h
  obtain ⟨as, r1⟩ := Dp.reads I (exD a) x v ba.dp rx
  obtain ⟨bs, r2⟩ := Dp.reads I (exD b) y u bb.dp ry
  have h1 := exD_depth a
  have h2 := exD_depth b
  exact SeqAt.compareNe_reads r1 r2 (exD_lay a oa) (exD_lay b ob) (by omega) ⟨.bl _, H, I, by rw [exD_eq]; rfl, q⟩
theorem _root_.L2.Room.x {k : Nat} {A : Around} (r : Room k A) : A.units + 200 < cLine := by have := r.un; omega
def spNear : Sp := fun vs H Q _ => ∃ n : Int, vs = [.int n] ∧ Q (.bl (decide (NumOk n))) H
def spLChoose (n : Nat) : Sp := fun vs H Q _ => ∃ (vc va vb : V) (c a b : Ex), vs = [vc, va, vb] ∧ Bears H vc c ∧ Bears H va a ∧ Bears H vb b ∧ c.ok ∧ a.ok ∧ b.ok ∧ c.deep ≤ n ∧
  ∀ (H' : Hp) (v : V), Same H H' → Bears H' v (choose c a b) → Q v H'
theorem spLChoose0 : FnOk P w K mg base CX0 0 f fd ["_law_cond", "_law_one", "_law_two"] (spLChoose 0) := by
  have no : ∀ vs H Q E, ¬ spLChoose 0 vs H Q E := fun vs H Q E h => by
    obtain ⟨_, _, _, c, _, _, _, _, _, _, _, _, _, h1, _⟩ := h
    have := c.deep_pos
    omega
  exact ⟨fun vs H Q E h => absurd h (no vs H Q E), fun A outer s H args us vs Q E _ _ _ _ h => absurd h (no vs H Q E)⟩
theorem mul_pos_iff' {m n : Int} : 0 < m * n ↔ (0 < m ∧ 0 < n) ∨ (m < 0 ∧ n < 0) := by
  constructor
  · intro h
    rcases Int.lt_trichotomy m 0 with h1 | h1 | h1
    · rcases Int.lt_trichotomy n 0 with h2 | h2 | h2
      · exact .inr ⟨h1, h2⟩
      · rw [h2, Int.mul_zero] at h; exact absurd h (by decide)
      · have := Int.mul_neg_of_neg_of_pos h1 h2
        omega
    · rw [h1, Int.zero_mul] at h; exact absurd h (by decide)
    · rcases Int.lt_trichotomy n 0 with h2 | h2 | h2
      · have := Int.mul_neg_of_pos_of_neg h1 h2
        omega
      · rw [h2, Int.mul_zero] at h; exact absurd h (by decide)
      · exact .inl ⟨h1, h2⟩
  · rintro (⟨h1, h2⟩ | ⟨h1, h2⟩)
    · exact Int.mul_pos h1 h2
    · exact Int.mul_pos_of_neg_of_neg h1 h2
theorem word_is {t : Ex} {o : Op} (h : t.word = o.str) : ∃ b c, t = .two o b c := by
  cases t with
  | two p b c => exact ⟨b, c, by rw [op_inj (o := p) (p := o) h]⟩
  | num n => exact absurd h.symm (op_ne_w o).1
  | nam n => exact absurd h.symm (op_ne_w o).2.1
  | whn _ _ _ => exact absurd h.symm (op_ne_w o).2.2.1
  | lett _ _ _ => exact absurd h.symm (op_ne_w o).2.2.2
instance isNumDec (t : Ex) : Decidable (∃ n, t = .num n) := match t with
  | .num n => .isTrue ⟨n, rfl⟩
  | .nam _ => .isFalse fun ⟨_, h⟩ => nomatch h
  | .two _ _ _ => .isFalse fun ⟨_, h⟩ => nomatch h
  | .whn _ _ _ => .isFalse fun ⟨_, h⟩ => nomatch h
  | .lett _ _ _ => .isFalse fun ⟨_, h⟩ => nomatch h
theorem word_num {t : Ex} : decide (V.str t.word = V.str "num") = decide (∃ n, t = .num n) := by
  refine decide_eq_decide.mpr ⟨fun h => ?_, fun ⟨n, h⟩ => by rw [h]; rfl⟩
  have h' : t.word = "num" := by injection h
  cases t with
  | num n => exact ⟨n, rfl⟩
  | two p b c => exact absurd h' (op_ne_w p).1
  | _ => exact absurd h' (by simp only [Ex.word]; decide)
/-- the end: the word as it stands -/
theorem stands_ret {D : Ends} {σ : L2.St} {H : Hp} {o : Op} {vt : V} {t : Ex} {n : Int} {Q : VK} (s0 : σ[0]? = some (some (.str o.str))) (s1 : σ[1]? = some (some vt)) (s2 : σ[2]? = some (some (.int n))) (hD : D.rt = Q) (b : Bears H vt t)
    (q : ∀ H' v, Same H H' → Bears H' v (.two o t (.num n)) → Q v H') : tRet (tTup (tCons (tVar 0) (tCons (tVar 1) (tCons (tTup (tCons (tC (.str "num")) (tCons (tVar 2) tNil))) tNil)))) D σ H := by
  subst hD
  refine ⟨_, s0, _, s1, _, s2, (by show 2 ≤ sizeLine; decide), fun t1 ht1 => ?_⟩
  have g1 := same_new ht1 (.tup [.str "num", .int n])
  refine ⟨(by show 3 ≤ sizeLine; decide), fun t2 ht2 => ?_⟩
  have g2 := same_new ht2 (.tup [.str o.str, vt, .ref t1])
  exact q _ _ (g1.trans g2) (.two upd_same (b.mono (Tups.of (g1.trans g2))) (.num (g2 _ _ upd_same)))
/-- t[0] == word and t[2][0] == "num" -/
theorem test3 {K : PySem.W.Frag} {σ : L2.St} {H : Hp} {o : Op} {vt : V} {t : Ex} {Q : Bool → Hp → Prop} (s0 : σ[0]? = some (some (.str o.str))) (s1 : σ[1]? = some (some vt)) (b : Bears H vt t)
    (q1 : (∃ c m, t = .two o c (.num m)) → Q true H) (q2 : (¬ ∃ c m, t = .two o c (.num m)) → Q false H) :
    tAnd (tTest (tOp rEq (tOp (rIxT K) (tVar 1) (tC (.int 0))) (tVar 0))) (tTest (tOp rEq (tOp (rIxT K) (tOp (rIxT K) (tVar 1) (tC (.int 2))) (tC (.int 0))) (tC (.str "num")))) σ H Q := by
  obtain ⟨a, xs, rfl, h⟩ := b.first
  refine ⟨_, s1, a, _, 0, _, rfl, rfl, .inl (.inl h), at_of (j := 0) rfl rfl, _, s0, rfl, _, rfl, ite2 (fun hw => ?_) (fun hw => q2 fun ⟨c, m, e⟩ => hw (decide_eq_true (by rw [e]; rfl)))⟩
  have hw' : t.word = o.str := by injection of_decide_eq_true hw
  obtain ⟨c, d, rfl⟩ := word_is hw'
  cases b with
  | @two a' o' v1 v2 e1 e2 h' b1 b2 =>
    obtain ⟨ad, ys, rfl, hd⟩ := b2.first
    refine ⟨_, s1, a, _, 2, _, rfl, rfl, .inl (.inl h'), rfl, ad, _, 0, _, rfl, rfl, .inl (.inl hd), at_of (j := 0) rfl rfl, rfl, _, rfl, ?_⟩
    rw [word_num]
    by_cases hn : ∃ n, d = .num n
    · rw [decide_eq_true hn]
      obtain ⟨n, rfl⟩ := hn
      exact q1 ⟨c, n, rfl⟩
    · rw [decide_eq_false hn]
      exact q2 fun ⟨c', m, e⟩ => hn ⟨m, by cases e; rfl⟩
/-- t[0] == "less" and t[1][0] == "num" -/
theorem test4 {K : PySem.W.Frag} {σ : L2.St} {H : Hp} {vt : V} {t : Ex} {Q : Bool → Hp → Prop} (s1 : σ[1]? = some (some vt)) (b : Bears H vt t)
    (q1 : (∃ m c, t = .two .less (.num m) c) → Q true H) (q2 : (¬ ∃ m c, t = .two .less (.num m) c) → Q false H) :
    tAnd (tTest (tOp rEq (tOp (rIxT K) (tVar 1) (tC (.int 0))) (tC (.str "less")))) (tTest (tOp rEq (tOp (rIxT K) (tOp (rIxT K) (tVar 1) (tC (.int 1))) (tC (.int 0))) (tC (.str "num")))) σ H Q := by
  obtain ⟨a, xs, rfl, h⟩ := b.first
  refine ⟨_, s1, a, _, 0, _, rfl, rfl, .inl (.inl h), at_of (j := 0) rfl rfl, rfl, _, rfl, ite2 (fun hw => ?_) (fun hw => q2 fun ⟨c, m, e⟩ => hw (decide_eq_true (by rw [e]; rfl)))⟩
  have hw' : t.word = Op.str .less := by injection of_decide_eq_true hw
  obtain ⟨c, d, rfl⟩ := word_is hw'
  cases b with
  | @two a' o' v1 v2 e1 e2 h' b1 b2 =>
    obtain ⟨ad, ys, rfl, hd⟩ := b1.first
    refine ⟨_, s1, a, _, 1, _, rfl, rfl, .inl (.inl h'), rfl, ad, _, 0, _, rfl, rfl, .inl (.inl hd), at_of (j := 0) rfl rfl, rfl, _, rfl, ?_⟩
    rw [word_num]
    by_cases hn : ∃ n, c = .num n
    · rw [decide_eq_true hn]
      obtain ⟨n, rfl⟩ := hn
      exact q1 ⟨n, d, rfl⟩
    · rw [decide_eq_false hn]
      exact q2 fun ⟨m, c', e⟩ => hn ⟨m, by cases e; rfl⟩
def spWith (k : Nat) : Sp := fun vs H Q _ => ∃ (o : Op) (vt : V) (t : Ex) (n : Int), vs = [.str o.str, vt, .int n] ∧ Bears H vt t ∧ t.ok ∧ NumOk n ∧ (∀ m, t ≠ .num m) ∧ o ≠ .below ∧ o ≠ .same ∧ 2 * t.deep + (if o = .less then 1 else 0) ≤ k ∧
  ∀ (H' : Hp) (v : V), Same H H' → Bears H' v (joinN o t n) → Q v H'
def spLJoin (k : Nat) : Sp := fun vs H Q _ => ∃ (o : Op) (va vb : V) (a b : Ex), vs = [.str o.str, va, vb] ∧ Bears H va a ∧ Bears H vb b ∧ a.ok ∧ b.ok ∧ 2 * max a.deep b.deep + 1 ≤ k ∧
  (((o = .less ∧ ∀ m, a ≠ .num m) ∨ ((∃ m, a = .num m) ∧ (∀ n, b ≠ .num n) ∧ swaps o = true)) → 2 * max a.deep b.deep + 2 ≤ k) ∧ ∀ (H' : Hp) (v : V), Same H H' → Bears H' v (join o a b) → Q v H'
theorem spWith0 : FnOk P w K mg base CX0 0 f fd ["_law_word", "_law_t", "_law_n"] (spWith 0) := by
  have no : ∀ vs H Q E, ¬ spWith 0 vs H Q E := fun vs H Q E h => by
    obtain ⟨_, _, t, _, _, _, _, _, _, _, _, h1, _⟩ := h
    have := t.deep_pos
    omega
  exact ⟨fun vs H Q E h => absurd h (no vs H Q E), fun A outer s H args us vs Q E _ _ _ _ h => absurd h (no vs H Q E)⟩
theorem spLJoin0 : FnOk P w K mg base CX0 0 f fd ["_law_word", "_law_one", "_law_two"] (spLJoin 0) := by
  have no : ∀ vs H Q E, ¬ spLJoin 0 vs H Q E := fun vs H Q E h => by
    obtain ⟨_, _, _, t, _, _, _, _, _, _, h1, _⟩ := h
    have := t.deep_pos
    omega
  exact ⟨fun vs H Q E h => absurd h (no vs H Q E), fun A outer s H args us vs Q E _ _ _ _ h => absurd h (no vs H Q E)⟩
theorem in_swaps (o : Op) : inV (.str o.str) [.str "sum", .str "times", .str "same"] = swaps o := by cases o <;> decide
theorem in_five (o : Op) : inV (.str o.str) [.str "sum", .str "less", .str "times", .str "part", .str "rest"] = decide (o ≠ .below ∧ o ≠ .same) := by cases o <;> decide
theorem if_propS {c : TT} {t u v : TS} {D : Ends} {σ : L2.St} {H : Hp} (p : Prop) (hc : ∀ Q : Bool → Hp → Prop, (p → ∀ H', Same H H' → Q true H') → (¬ p → ∀ H', Same H H' → Q false H') → c σ H Q)
    (h1 : p → ∀ H', Same H H' → t { D with nx := v D } σ H') (h2 : ¬ p → ∀ H', Same H H' → u { D with nx := v D } σ H') : tSeq (tIfS c t u) v D σ H :=
  hc _ (fun h H' g => iteT (h1 h H' g)) (fun h H' g => iteF (h2 h H' g))
theorem if_plain {c : TT} {t u : TS} {D : Ends} {σ : L2.St} {H : Hp} (p : Prop) (hc : ∀ X : Bool → Hp → Prop, (p → X true H) → (¬ p → X false H) → c σ H X) (h1 : p → t D σ H) (h2 : ¬ p → u D σ H) : tIfS c t u D σ H :=
  hc _ (fun h => iteT (h1 h)) (fun h => iteF (h2 h))
theorem join_num {o : Op} (c : Ex) (j : Int) (h : o = .sum ∨ o = .times ∨ o = .part ∨ o = .rest) : join o c (.num j) = joinN o c j := by
  rcases isnum c with ⟨m, rfl⟩ | nc
  · rcases h with rfl | rfl | rfl | rfl <;> rfl
  · exact join_an o j nc
theorem lessN_join (j : Int) (c : Ex) : join .less (.num j) c = lessN j c := by
  rcases isnum c with ⟨m, rfl⟩ | nc
  · rfl
  · rw [join_nb .less j nc, if_neg (by decide)]
    cases c with
    | num n => exact absurd rfl (nc n)
    | _ => rfl
theorem two1_deep (o : Op) (m n : Int) : (two1 o m n).deep ≤ 2 := by
  unfold two1
  cases made o m n with
  | is k => exact Nat.le_succ _
  | _ => exact Nat.le_refl _
theorem lessN_deep (j : Int) (c : Ex) : (lessN j c).deep ≤ c.deep + 1 := by
  have h := c.deep_pos
  cases c with
  | num n => exact two1_deep _ _ _
  | nam x => exact Nat.le_refl _
  | two o a b => show max 1 (Ex.two o a b).deep + 1 ≤ _; omega
  | whn c a b => show max 1 (Ex.whn c a b).deep + 1 ≤ _; omega
  | lett x a b => show max 1 (Ex.lett x a b).deep + 1 ≤ _; omega
theorem word_deep (o : Op) (t : Ex) (n : Int) : (Ex.two o t (.num n)).deep = t.deep + 1 := by
  have h := t.deep_pos
  show max t.deep 1 + 1 = _
  omega
theorem sumN_deep : ∀ (t : Ex) (n : Int), (sumN t n).deep ≤ t.deep + 1 := by
  intro t n
  fun_induction sumN t n with
  | case1 m n => exact two1_deep _ _ _
  | case2 b m => exact Nat.le_succ _
  | case3 b m n h0 hc ih => rw [word_deep]; omega
  | case4 b m n h0 hc => rw [word_deep]; exact Nat.le_refl _
  | case5 m b => exact Nat.le_succ _
  | case6 m b n h0 hc =>
    have := lessN_deep (m + n) b
    have h := b.deep_pos
    show _ ≤ max 1 b.deep + 1 + 1
    omega
  | case7 m b n h0 hc => rw [word_deep]; exact Nat.le_refl _
  | case8 t h1 h2 h3 => exact Nat.le_succ _
  | case9 t n h1 h2 h3 h0 => rw [word_deep]; exact Nat.le_refl _
theorem timesN_deep : ∀ (t : Ex) (n : Int), (timesN t n).deep ≤ t.deep + 1 := by
  intro t n
  fun_induction timesN t n with
  | case1 m n => exact two1_deep _ _ _
  | case2 b m => exact Nat.le_succ _
  | case3 b m n h0 hc ih => rw [word_deep]; omega
  | case4 b m n h0 hc => rw [word_deep]; exact Nat.le_refl _
  | case5 t h1 h2 => exact Nat.le_succ _
  | case6 t n h1 h2 h0 => rw [word_deep]; exact Nat.le_refl _
theorem partN_deep : ∀ (t : Ex) (n : Int), (partN t n).deep ≤ t.deep + 1 := by
  intro t n
  fun_induction partN t n with
  | case1 m n => exact two1_deep _ _ _
  | case2 b m => exact Nat.le_succ _
  | case3 b m n h0 hc ih => rw [word_deep]; omega
  | case4 b m n h0 hc => rw [word_deep]; exact Nat.le_refl _
  | case5 t h1 h2 => exact Nat.le_succ _
  | case6 t n h1 h2 h0 => rw [word_deep]; exact Nat.le_refl _
theorem restN_deep : ∀ (t : Ex) (n : Int), (restN t n).deep ≤ t.deep + 1 := by
  intro t n
  fun_induction restN t n with
  | case1 m n => exact two1_deep _ _ _
  | case2 b m n hc => exact Nat.le_succ _
  | case3 b m n h0 hc ih => rw [word_deep]; omega
  | case4 b m n h0 hc => rw [word_deep]; exact Nat.le_refl _
  | case5 t n h1 h2 => rw [word_deep]; exact Nat.le_refl _
theorem joinN_deep (o : Op) (t : Ex) (n : Int) : (joinN o t n).deep ≤ t.deep + 1 := by
  cases o with
  | sum => exact sumN_deep t n
  | less => exact sumN_deep t (-n)
  | times => exact timesN_deep t n
  | part => exact partN_deep t n
  | rest => exact restN_deep t n
  | below => exact Nat.le_of_eq (word_deep _ _ _)
  | same => exact Nat.le_of_eq (word_deep _ _ _)
theorem join_deep (o : Op) (a b : Ex) : (join o a b).deep ≤ max a.deep b.deep + 1 := by
  have ha := a.deep_pos
  have hb := b.deep_pos
  rcases isnum a with ⟨m, rfl⟩ | na
  · rcases isnum b with ⟨n, rfl⟩ | nb
    · exact two1_deep _ _ _
    · rw [join_nb o m nb]
      split
      · have := joinN_deep o b m
        omega
      · exact Nat.le_refl _
  · rcases isnum b with ⟨n, rfl⟩ | nb
    · rw [join_an o n na]
      have := joinN_deep o a n
      omega
    · rw [join_ab o na nb]
      exact Nat.le_refl _
theorem choose_deep : ∀ (c a b : Ex), (choose c a b).deep ≤ max (max c.deep a.deep) b.deep + 1 := by
  intro c a b
  fun_induction choose c a b with
  | case1 n a b hn => omega
  | case2 n a b hn => omega
  | case3 d a b ih =>
    have : (Ex.two .same d (.num 0)).deep = d.deep + 1 := word_deep _ _ _
    omega
  | case4 c a b h1 h2 => exact Nat.le_refl _
theorem fold_deep : ∀ (e : Ex) (k : Stg), (fold e k).deep ≤ e.deep
  | .num n, _ => Nat.le_refl _
  | .nam w, k => by
    unfold fold
    split <;> exact Nat.le_refl _
  | .two o a b, k => by
    have h1 := fold_deep a k
    have h2 := fold_deep b k
    have h3 := join_deep o (fold a k) (fold b k)
    show (join o (fold a k) (fold b k)).deep ≤ max a.deep b.deep + 1
    omega
  | .whn c a b, k => by
    have h0 := fold_deep c k
    have h1 := fold_deep a k
    have h2 := fold_deep b k
    have h3 := choose_deep (fold c k) (fold a k) (fold b k)
    show (choose (fold c k) (fold a k) (fold b k)).deep ≤ max (max c.deep a.deep) b.deep + 1
    omega
  | .lett w a b, k => by
    have h1 := fold_deep a k
    rcases isnum (fold a k) with ⟨n, h⟩ | h
    · rw [fold_lett_num h]
      have h2 := fold_deep b (k.put w n)
      show _ ≤ max a.deep b.deep + 1
      omega
    · rw [fold_lett_not h]
      have h2 := fold_deep b (k.del w)
      show max (fold a k).deep (fold b (k.del w)).deep + 1 ≤ max a.deep b.deep + 1
      omega
theorem for_items {d : Addr} {o : Obj} {kvs : List (Key × V)} {g : TG} {tb : TS} {D : Ends} {σ : L2.St} {H : Hp} (Pv : Nat → L2.St → Hp → Prop) (h0 : Pv 0 σ H) (hf : ∀ i σ H, i ≤ kvs.length → Pv i σ H → H d = some (.frz o (.dK kvs)))
    (hs : ∀ i k v T σ H, kvs[i]? = some (k, v) → Pv i σ H → H T = none → g (.ref T) σ (upd H T (.tup [kV k, v])) fun σ2 H2 => tb { D with nx := Pv (i + 1), ct := Pv (i + 1), bk := D.nx } σ2 H2) (hd : ∀ σ H, Pv kvs.length σ H → D.nx σ H) :
    ∃ W : Nat → Nat → L2.St → Hp → Prop, (∃ m, W 0 m σ H) ∧ ∀ i m σ H, W i m σ H →
      ((Iti d o kvs).stop i H ∧ D.nx σ H) ∨ ((Iti d o kvs).go i H ∧ ∃ N : L2.St → Hp → Prop, (∀ σ' H', N σ' H' → ∃ m', m' < m ∧ W (i + 1) m' σ' H') ∧ ∀ v H', (Iti d o kvs).yld i H v H' → g v σ H' fun σ2 H2 => tb { D with nx := N, ct := N, bk := D.nx } σ2 H2) := by
  refine ⟨fun i m σ H => m = kvs.length - i ∧ i ≤ kvs.length ∧ Pv i σ H, ⟨kvs.length, by simp, Nat.zero_le _, h0⟩, ?_⟩
  rintro i m σ H ⟨rfl, hi, p⟩
  by_cases h : i < kvs.length
  · refine .inr ⟨⟨hf i σ H hi p, h⟩, Pv (i + 1), fun σ' H' q => ⟨kvs.length - (i + 1), by omega, rfl, by omega, q⟩, ?_⟩
    rintro v H' ⟨T, k, v', hk, rfl, hT, rfl⟩
    exact hs i k v' T σ H hk p hT
  · have e : i = kvs.length := by omega
    subst e
    exact .inl ⟨⟨hf _ σ H hi p, Nat.le_refl _⟩, hd σ H p⟩
def delS (l : AL) (x : Str) : AL := l.filter fun p => !decide (p.1 = x)
theorem find_del (x y : Str) : ∀ l : AL, ((delS l x).find? fun p => decide (p.1 = y)) = if y = x then none else l.find? fun p => decide (p.1 = y)
  | [] => by unfold delS; simp
  | p :: r => by
    have ih := find_del x y r
    by_cases hp : p.1 = x
    · have e : delS (p :: r) x = delS r x := by unfold delS; rw [List.filter_cons_of_neg (by simp [hp])]
      rw [e, ih]
      by_cases hy : y = x
      · rw [if_pos hy, if_pos hy]
      · rw [if_neg hy, if_neg hy, List.find?_cons, decide_eq_false (show ¬ p.1 = y from fun z => hy (by rw [← z, hp]))]
    · have e : delS (p :: r) x = p :: delS r x := by unfold delS; rw [List.filter_cons_of_pos (by simp [hp])]
      rw [e, List.find?_cons, List.find?_cons]
      by_cases hy : p.1 = y
      · rw [decide_eq_true hy, if_neg (fun z => hp (hy.trans z))]
      · rw [decide_eq_false hy]
        exact ih
theorem stg_del (l : AL) (x : Str) : stg (delS l x) = (stg l).del x := by
  funext y
  show ((delS l x).find? fun p => decide (p.1 = y)).map (·.2) = if y = x then none else (l.find? fun p => decide (p.1 = y)).map (·.2)
  rw [find_del]
  split <;> rfl
theorem put_del (s : Stg) (x : Str) (n : Int) : (s.del x).put x n = s.put x n := by
  funext y
  unfold Stg.put Stg.del
  by_cases h : y = x
  · rw [if_pos h, if_pos h]
  · rw [if_neg h, if_neg h, if_neg h]
theorem dS_get {l : AL} {i : Nat} {k : Key} {u : V} (h : (dS l)[i]? = some (k, u)) : ∃ p, l[i]? = some p ∧ k = Sum.inr p.1 ∧ u = .int p.2 := by
  unfold dS at h
  rw [List.getElem?_map] at h
  obtain ⟨p, hp, e⟩ := Option.map_eq_some_iff.mp h
  cases e
  exact ⟨p, hp, rfl, rfl⟩
theorem delS_len (l : AL) (x : Str) : (delS l x).length ≤ l.length := List.length_filter_le _ _
theorem AOk.del {l : AL} (h : AOk l) (x : Str) : AOk (delS l x) := by
  refine ⟨?_, fun p hp => h.nm p (List.mem_filter.mp hp).1⟩
  have : ((delS l x).map (·.1)).Sublist (l.map (·.1)) := List.Sublist.map _ List.filter_sublist
  exact this.nodup h.nd
theorem putS_new {l : AL} {x : Str} {n : Int} (h : x ∉ l.map (·.1)) : putS l x n = l ++ [(x, n)] := by
  unfold putS
  rw [if_neg]
  intro z
  obtain ⟨p, hp, e⟩ := List.any_eq_true.mp z
  exact h (List.mem_map.mpr ⟨p, hp, of_decide_eq_true e⟩)
/-- the items but one name's, put one by one -/
theorem del_step {l : AL} (h : (l.map (·.1)).Nodup) {i : Nat} {p : Str × Int} (x : Str) (hp : l[i]? = some p) : delS (l.take (i + 1)) x = if p.1 = x then delS (l.take i) x else putS (delS (l.take i) x) p.1 p.2 := by
  have e1 : l.take (i + 1) = l.take i ++ [p] := by rw [List.take_add_one, hp]; rfl
  have e2 : delS (l.take (i + 1)) x = delS (l.take i) x ++ delS [p] x := by rw [e1]; unfold delS; rw [List.filter_append]
  rw [e2]
  by_cases hx : p.1 = x
  · rw [if_pos hx]
    have : delS [p] x = [] := by unfold delS; rw [List.filter_cons_of_neg (by simp [hx])]; rfl
    rw [this, List.append_nil]
  · rw [if_neg hx]
    have : delS [p] x = [p] := by unfold delS; rw [List.filter_cons_of_pos (by simp [hx])]; rfl
    rw [this, putS_new]
    intro hm
    obtain ⟨q, hq, eq⟩ := List.mem_map.mp hm
    have hq' : q ∈ l.take i := (List.mem_filter.mp hq).1
    have nd : ((l.take (i + 1)).map (·.1)).Nodup := ((List.take_sublist _ _).map _).nodup h
    rw [e1, List.map_append] at nd
    have := (List.nodup_append.mp nd).2.2 q.1 (List.mem_map.mpr ⟨q, hq', rfl⟩) p.1 (by simp)
    exact this eq
/-- the contract of a fold: the law's and the program's -/
def spFold (n : Nat) : Sp := fun vs H Q _ => ∃ (v : V) (e : Ex) (d : Addr) (l : AL), vs = [v, .ref d] ∧ Bears H v e ∧ e.ok ∧ e.deep ≤ n ∧ H d = some (.dK (dS l)) ∧ AOk l ∧ l.length + e.deep ≤ 1000 ∧
  ∀ (H' : Hp) (r : V), Same H H' → Bears H' r (fold e (stg l)) → Q r H'
theorem spLFold0 : FnOk P w K mg base CX0 0 f fd ["_law_expr", "_law_known"] (spFold 0) := by
  have no : ∀ vs H Q E, ¬ spFold 0 vs H Q E := fun vs H Q E h => by
    obtain ⟨v, e, _, _, _, _, _, h1, _⟩ := h
    have := e.deep_pos
    omega
  exact ⟨fun vs H Q E h => absurd h (no vs H Q E), fun A outer s H args us vs Q E _ _ _ _ h => absurd h (no vs H Q E)⟩
theorem op_let' (o : Op) : (!decide (V.str o.str = V.str "let")) = true := by rw [op_let]; rfl
def rDUpd : V → List V → Hp → VK → Prop := fun x vs H Q => ∃ (a b : Addr) (ks ls : List (Key × V)), x = .ref a ∧ vs = [.ref b] ∧ a ≠ b ∧ H a = some (.dK ks) ∧ H b = some (.dK ls) ∧ ks.length + ls.length ≤ sizeLine ∧ Q .non (upd H a (.dK (mergeK ks ls)))
theorem mtd_update {X : Cx} : MtR X "dict.update" rDUpd := by
  intro pins s σ H x vs v us Q I rx rv h
  obtain ⟨a, b, ks, ls, ex, ev, ne, ea, eb, hz, q⟩ := h
  subst ex
  subst ev
  obtain rfl : v = Value.ref a := rx
  obtain ⟨u, rfl, ru⟩ := rv.one
  obtain rfl : u = Value.ref b := ru
  obtain ⟨_, hda, va, ra, da⟩ := dk_of I.hok ea
  obtain ⟨_, hdb, vb, rb, db⟩ := dk_of I.hok eb
  refine call_meetsIn PySem.F.slot_dict_update da.typeIs PySem.F.entry_dict_update (PySem.F.args_dict_update_2 _ _) (meets_dict_update (mixKind X.prog X.w) a b ne hdb) ⟨va, vb, da, db, by rw [← ra.length, ← rb.length]; exact hz, fun h' dd' _ hs => ?_⟩
  have he : ∃ q, h'.get? a = some q := let ⟨q, _, _, hq, _⟩ := dd'; ⟨q, hq⟩
  have hl := length_mergeK ls ks
  exact ⟨.non, _, d_write (t' := s.toks) I (by rw [ea]; exact True.intro) hs he (dk_new (by omega) hda (KV.merge rb ra) dd'), rfl, q⟩
theorem merge_dS : ∀ (b a : AL), ((a ++ b).map (·.1)).Nodup → mergeK (dS a) (dS b) = dS (a ++ b)
  | [], a, _ => by rw [List.append_nil]; rfl
  | p :: r, a, h => by
    have hp : p.1 ∉ a.map (·.1) := fun z => by
      rw [List.map_append] at h
      exact (List.nodup_append.mp h).2.2 p.1 z p.1 List.mem_cons_self rfl
    have e : mergeK (dS a) (dS (p :: r)) = mergeK (putK (dS a) (Sum.inr p.1 : Key) (.int p.2)) (dS r) := rfl
    rw [e, dS_put, putS_new hp, merge_dS r (a ++ [(p.1, p.2)]) (by rw [List.append_assoc]; exact h), List.append_assoc]
    rfl
theorem merge_nil {l : AL} (h : AOk l) : mergeK [] (dS l) = dS l := merge_dS l [] h.nd
theorem stg_of : ∀ {l : AL} {p : Str × Int}, (l.map (·.1)).Nodup → p ∈ l → stg l p.1 = some p.2
  | q :: r, p, h, hp => by
    rw [List.map_cons, List.nodup_cons] at h
    unfold stg
    rw [List.find?_cons]
    rcases List.mem_cons.mp hp with e | hr
    · rw [e, decide_eq_true rfl]
      rfl
    · have ne : q.1 ≠ p.1 := fun z => h.1 (by rw [z]; exact List.mem_map.mpr ⟨p, hr, rfl⟩)
      rw [decide_eq_false ne]
      exact stg_of h.2 hr
theorem dS_self {l : AL} (h : AOk l) : ∀ p ∈ dS l, valV (dS l) p.1 = some p.2 ∧ flatB p.2 = true := fun p hp => by
  obtain ⟨q, hq, rfl⟩ := List.mem_map.mp hp
  exact ⟨(dS_val l q.1).trans (by rw [stg_of h.nd hq]; rfl), rfl⟩
end
end FC
namespace FC
open PySem L2 StX PyProof.Rows
/-! ### what is told of a value: its kinds, and compared -/
def Rs.ok : Rs → Prop
  | .is n => NumOk n
  | .unset x => NameOk x
  | _ => True
theorem made_unset (o : Op) (x y : Int) (w : Str) : made o x y ≠ .unset w := by
  unfold made
  intro h
  split at h
  · cases h
  · split at h <;> cases h
theorem made_rok (o : Op) (x y : Int) : (made o x y).ok := by
  cases h : made o x y with
  | is k => exact made_ok h
  | unset w => exact absurd h (made_unset o x y w)
  | nought => exact True.intro
  | great => exact True.intro
theorem Rs.ok.bind {r : Rs} {f : Int → Rs} (h : r.ok) (hf : ∀ n, r = .is n → (f n).ok) : (r.bind f).ok := by
  cases r with
  | is n => exact hf n rfl
  | unset w => exact h
  | nought => exact True.intro
  | great => exact True.intro
theorem value_rok : ∀ (e : Ex) {s : Stg}, e.ok → s.ok → (value e s).ok
  | .num n, s, ok, _ => ok
  | .nam w, s, ok, hs => by
    unfold value
    cases h : s w with
    | none => exact ok
    | some n => exact hs w n h
  | .two o a b, s, ok, hs => (value_rok a ok.1 hs).bind fun x _ => (value_rok b ok.2 hs).bind fun y _ => made_rok o x y
  | .whn c a b, s, ok, hs => (value_rok c ok.1 hs).bind fun n _ => by
    split
    · exact value_rok a ok.2.1 hs
    · exact value_rok b ok.2.2 hs
  | .lett w a b, s, ok, hs => (value_rok a ok.2.1 hs).bind fun n h => value_rok b ok.2.2 (hs.put w (value_ok a ok.2.1 hs h))
def rsD : Rs → PyData
  | .is n => .tuple [.str "is", .int n]
  | .unset x => .tuple [.str "unset", .str x]
  | .nought => .tuple [.str "nought", .str ""]
  | .great => .tuple [.str "great", .str ""]
/-- a reference to the tuple of what is told -/
def HasR (H : Hp) (v : V) (r : Rs) : Prop := ∃ p, v = .ref p ∧ H p = some (.tup (rsL r))
theorem HasR.mono {H H' : Hp} {v : V} {r : Rs} (h : HasR H v r) (g : Tups H H') : HasR H' v r := by
  obtain ⟨p, e, hp⟩ := h
  exact ⟨p, e, g _ _ hp⟩
theorem HasR.dp {K : PySem.W.Frag} {H : Hp} {v : V} {r : Rs} (h : HasR H v r) : Dp K H v (rsD r) := by
  obtain ⟨p, rfl, hp⟩ := h
  cases r with
  | is n => exact .tup (.inl (.inl hp)) (.cons (.str _) (.cons (.int _) .nil))
  | unset x => exact .tup (.inl (.inl hp)) (.cons (.str _) (.cons (.str _) .nil))
  | nought => exact .tup (.inl (.inl hp)) (.cons (.str _) (.cons (.str _) .nil))
  | great => exact .tup (.inl (.inl hp)) (.cons (.str _) (.cons (.str _) .nil))
theorem NameOk.strOk {x : Str} (h : NameOk x) : PyData.strOk x = true := h.2.2.strOk
theorem rsD_lay (r : Rs) (h : r.ok) : (rsD r).canLay0 = true := by
  have c1 : PyData.strOk "is" = true := by decide +kernel
  have c2 : PyData.strOk "unset" = true := by decide +kernel
  have c3 : PyData.strOk "nought" = true := by decide +kernel
  have c4 : PyData.strOk "great" = true := by decide +kernel
  have c5 : PyData.strOk "" = true := by decide +kernel
  cases r with
  | is n => simp [rsD, PyData.canLay0, PyData.canLayAll0, c1]
  | unset x => simp [rsD, PyData.canLay0, PyData.canLayAll0, c2, NameOk.strOk h]
  | nought => simp [rsD, PyData.canLay0, PyData.canLayAll0, c3, c5]
  | great => simp [rsD, PyData.canLay0, PyData.canLayAll0, c4, c5]
theorem rsD_depth (r : Rs) : (rsD r).depth ≤ 1 := by
  cases r <;> simp [rsD, PyData.depth, PyData.depthAll]
theorem rsD_eq (a b : Rs) : PyData.eqv (rsD a) (rsD b) = decide (a = b) := by
  have n1 : ¬ (Str.ofString "is" = Str.ofString "unset") := by decide
  have n2 : ¬ (Str.ofString "is" = Str.ofString "nought") := by decide
  have n3 : ¬ (Str.ofString "is" = Str.ofString "great") := by decide
  have n4 : ¬ (Str.ofString "unset" = Str.ofString "nought") := by decide
  have n5 : ¬ (Str.ofString "unset" = Str.ofString "great") := by decide
  have n6 : ¬ (Str.ofString "nought" = Str.ofString "great") := by decide
  cases a <;> cases b <;> simp [rsD, PyData.eqv, PyData.eqvAll, n1, n2, n3, n4, n5, n6, Ne.symm n1, Ne.symm n2, Ne.symm n3, Ne.symm n4, Ne.symm n5, Ne.symm n6]
  all_goals rfl
def rEqR (neg : Bool) : R2 := fun x y H Q => ∃ a b : Rs, HasR H x a ∧ HasR H y b ∧ a.ok ∧ b.ok ∧ Q (.bl (if neg = true then !decide (a = b) else decide (a = b))) H
theorem op_eqR {X : Cx} (hu : X.A.units + 200 < cLine) : OpR X (compareOp .Eq) (rEqR false) := by
  intro pins s σ H x y v u Q I rx ry h
  obtain ⟨a, b, ba, bb, oa, ob, q⟩ := h
  obtain ⟨as, r1⟩ := Dp.reads I (rsD a) x v ba.dp rx
  obtain ⟨bs, r2⟩ := Dp.reads I (rsD b) y u bb.dp ry
  have h1 := rsD_depth a
  have h2 := rsD_depth b
  exact SeqAt.compareEq_reads r1 r2 (rsD_lay a oa) (rsD_lay b ob) (by omega) ⟨.bl _, H, I, by rw [rsD_eq]; rfl, q⟩
theorem op_neR {X : Cx} (hu : X.A.units + 200 < cLine) : OpR X (compareOp .NotEq) (rEqR true) := by
  intro pins s σ H x y v u Q I rx ry h
  obtain ⟨a, b, ba, bb, oa, ob, q⟩ := h
  obtain ⟨as, r1⟩ := Dp.reads I (rsD a) x v ba.dp rx
  obtain ⟨bs, r2⟩ := Dp.reads I (rsD b) y u bb.dp ry
  have h1 := rsD_depth a
  have h2 := rsD_depth b
  exact SeqAt.compareNe_reads r1 r2 (rsD_lay a oa) (rsD_lay b ob) (by omega) ⟨.bl _, H, I, by rw [rsD_eq]; rfl, q⟩
/-! ### one dict laid over another -/
def putAll (a b : AL) : AL := b.foldl (fun acc p => putS acc p.1 p.2) a
theorem merge_all : ∀ (b a : AL), mergeK (dS a) (dS b) = dS (putAll a b)
  | [], a => rfl
  | p :: r, a => by
    have e : mergeK (dS a) (dS (p :: r)) = mergeK (putK (dS a) (Sum.inr p.1 : Key) (.int p.2)) (dS r) := rfl
    rw [e, dS_put, merge_all r]
    rfl
theorem AOk.putAll : ∀ {b a : AL}, AOk a → (∀ p ∈ b, NameOk p.1 ∧ NumOk p.2) → AOk (putAll a b)
  | [], a, h, _ => h
  | p :: r, a, h, hb => by
    have hp := hb p List.mem_cons_self
    exact AOk.putAll (b := r) (h.put hp.1 hp.2) fun q hq => hb q (List.mem_cons_of_mem _ hq)
theorem putAll_len : ∀ (b a : AL), (putAll a b).length ≤ a.length + b.length
  | [], a => Nat.le_refl _
  | p :: r, a => by
    have h1 := putAll_len r (putS a p.1 p.2)
    have h2 := putS_len a p.1 p.2
    show (putAll (putS a p.1 p.2) r).length ≤ _
    rw [List.length_cons]
    omega
theorem stg_cons (p : Str × Int) (r : AL) (x : Str) : stg (p :: r) x = if p.1 = x then some p.2 else stg r x := by
  unfold stg
  rw [List.find?_cons]
  by_cases h : p.1 = x
  · rw [decide_eq_true h, if_pos h]
    rfl
  · rw [decide_eq_false h, if_neg h]
theorem stg_none {l : AL} {x : Str} (h : x ∉ l.map (·.1)) : stg l x = none := by
  unfold stg
  rw [List.find?_eq_none.mpr]
  · rfl
  · intro p hp z
    exact h (List.mem_map.mpr ⟨p, hp, of_decide_eq_true z⟩)
theorem stg_putAll : ∀ (b a : AL) (x : Str), (b.map (·.1)).Nodup → stg (putAll a b) x = match stg b x with | some n => some n | none => stg a x
  | [], a, x, _ => rfl
  | p :: r, a, x, h => by
    rw [List.map_cons, List.nodup_cons] at h
    show stg (putAll (putS a p.1 p.2) r) x = _
    rw [stg_putAll r _ x h.2, stg_put, stg_cons]
    unfold Stg.put
    by_cases e : p.1 = x
    · subst e
      rw [stg_none h.1, if_pos rfl, if_pos rfl]
    · rw [if_neg e, if_neg (Ne.symm e)]
end FC
namespace FC
open PySem L2 StX PyProof.Rows
theorem stg_mem {l : AL} {x : Str} {n : Int} (h : stg l x = some n) : (x, n) ∈ l := by
  unfold stg at h
  obtain ⟨p, hp, e⟩ := Option.map_eq_some_iff.mp h
  have h1 := List.mem_of_find?_eq_some hp
  have h2 : p.1 = x := by have := List.find?_some hp; simpa using this
  have : p = (x, n) := Prod.ext h2 e
  rw [← this]
  exact h1
/-! ### known numbers dealt out -/
structure Dealt (l0 l1 l : AL) (i : Nat) : Prop where
  a0 : AOk l0
  a1 : AOk l1
  n0 : l0.length ≤ i
  n1 : l1.length ≤ i
  le0 : (stg l0).le (stg l)
  le1 : (stg l1).le (stg l)
  cov : ∀ q ∈ l.take i, stg l0 q.1 = some q.2 ∨ stg l1 q.1 = some q.2
theorem Dealt.sym {l0 l1 l : AL} {i : Nat} (h : Dealt l0 l1 l i) : Dealt l1 l0 l i := ⟨h.a1, h.a0, h.n1, h.n0, h.le1, h.le0, fun q hq => (h.cov q hq).symm⟩
theorem Dealt.nil (l : AL) : Dealt [] [] l 0 := ⟨.nil, .nil, Nat.le_refl _, Nat.le_refl _, fun _ _ z => (by cases z), fun _ _ z => (by cases z), fun q hq => (by simp at hq)⟩
theorem Dealt.put {l0 l1 l : AL} {i : Nat} {p : Str × Int} (h : Dealt l0 l1 l i) (hA : AOk l) (hp : l[i]? = some p) : Dealt (putS l0 p.1 p.2) l1 l (i + 1) := by
  have hm := List.mem_of_getElem? hp
  have hs := stg_of hA.nd hm
  have e1 : l.take (i + 1) = l.take i ++ [p] := by rw [List.take_add_one, hp]; rfl
  have same : ∀ q ∈ l, q.1 = p.1 → q.2 = p.2 := fun q hq e => by
    have h1 := stg_of hA.nd hq
    rw [e, hs] at h1
    exact (Option.some.inj h1).symm
  refine ⟨h.a0.put (hA.nm p hm).1 (hA.nm p hm).2, h.a1, ?_, by have := h.n1; omega, fun w n e => ?_, h.le1, fun q hq => ?_⟩
  · have h1 := putS_len l0 p.1 p.2
    have h2 := h.n0
    omega
  · rw [stg_put] at e
    unfold Stg.put at e
    split at e
    · rename_i hw
      cases e
      rw [hw]
      exact hs
    · exact h.le0 w n e
  · rw [stg_put]
    unfold Stg.put
    by_cases e : q.1 = p.1
    · refine .inl ?_
      have hq' : q ∈ l := List.mem_of_mem_take hq
      rw [if_pos e, same q hq' e]
    · rw [if_neg e]
      rw [e1] at hq
      rcases List.mem_append.mp hq with hq | hq
      · exact h.cov q hq
      · rw [List.mem_singleton.mp hq] at e
        exact absurd rfl e
/-- what is known is known to one of the two -/
theorem Dealt.known {l0 l1 l : AL} (h : Dealt l0 l1 l l.length) {x : Str} (h0 : stg l0 x = none) (h1 : stg l1 x = none) : stg l x = none := by
  cases e : stg l x with
  | none => rfl
  | some n =>
    have hm := stg_mem e
    rcases h.cov (x, n) (by rw [List.take_length]; exact hm) with z | z
    · rw [h0] at z; cases z
    · rw [h1] at z; cases z
end FC
namespace FC
open PySem L2 StX PySem.Spec PyProof.Rows
/-- a class B of the program over ValueError, its __init__ the one that it inherits -/
structure InitB (K : PySem.W.Frag) (mg : Str → Option Value) (x : Str) (B : Addr) (mc : Value) : Prop where
  m : mg x = some (.ref B)
  rd : ClX.CRead K B mc
  at_ : PySem.W.findCls K (.ref B) mc "__init__" = some (.val (.builtin "ValueError.__init__"))
  dbg : (x == ("__debug__" : Str)) = false
/-- B.__init__(self, ..) within the __init__ of a class below B -/
theorem pe_base_init {X : Cx} {a : Expr} {as : List Expr} {ta : TA} {q1 q2 q : Pos} {pl : Sem Bool} {x : Str} {B : Addr} {mc : Value} (b : InitB X.K X.mg x B mc) (hg : Gl X x) (ha : PA X (a :: as) ta)
    (way : eval (.Call (.Attribute (.Name x q1) "__init__" q2) (a :: as) [] q) X.env = (eval (.Name x q1) X.env >>= fun o => standAt q2.atName >>= fun _ => holding [o] (getMethod o "__init__" pl) >>= fun r => callWith q r.1 r.2 (backTo q (starEach (a :: as) X.env)) (backToKw q (keywordEach [] X.env))) := by rfl)
    (one : starEach (a :: as) X.env = (false, eval a X.env) :: starEach as X.env := by rfl) (plain : (backTo q (starEach as X.env)).any (·.1) = false := by rfl) :
    PE X (.Call (.Attribute (.Name x q1) "__init__" q2) (a :: as) [] q) (tVeI X.K ta) := by
  constructor
  intro pins s σ H Q I wish
  have attr := fun (s1 : Shared) (J : Inv X pins σ H s1) (R : Value × List Value → Shared → Prop) (E : Value → Shared → Prop) (A : Around) (k : ∀ s2, Inv X pins σ H s2 → R (.builtin "ValueError.__init__", []) s2) =>
    PySem.W.method_cls (prog := X.prog) (w := X.w) (A := A) (E := E) (pl := pl) (Q := R) J.kIn b.rd.ga (PySem.W.cls_value J.kIn b.rd.rd b.at_ (by decide +kernel) (k _ (J.tok _)))
  refine PySem.W.methodCall_KW (ld_glob I hg b.m (attr s I _ _ _ fun s2 J => ?_) b.dbg) way
  refine callWith_method1 (thn (ha.run q pins _ σ H _ J wish) ?_) one plain
  rintro us s3 ⟨vs, H3, J3, rel, x0, C, ws, rfl, few, T, at0, done⟩
  rcases rel with _ | ⟨r0, rs⟩
  rw [show _ = Value.ref x0 from r0]
  have room := Paired.length rs
  exact oinit_ok T J3 at0 (by rw [← room, sizeLine_eq]; omega) fun s4 J4 => ⟨.non, H3, J4, rfl, done⟩
end FC
namespace FC
open PySem L2
def top (i : Nat) : Stmt := PySem.Challenge.pw_foldercode_k07_read.main.body.getD i (.Pass ⟨0, 0, 0, 0⟩)
abbrev c_FoldError : Stmt := top 1
abbrev c_Unset : Stmt := top 2
abbrev c_ByNought : Stmt := top 3
abbrev c_TooGreat : Stmt := top 4
abbrev c_BadText : Stmt := top 5
abbrev s_read : Stmt := top 13
abbrev s_expression : Stmt := top 14
abbrev s_bracket : Stmt := top 15
abbrev s_end : Stmt := top 16
abbrev s_past : Stmt := top 17
abbrev s_plain : Stmt := top 18
abbrev s_name : Stmt := top 19
abbrev s_number : Stmt := top 20
abbrev s_all_of : Stmt := top 21
abbrev sMixed : Stmt := top 23
abbrev sCellAt : Stmt := top 24
abbrev sWhole : Stmt := top 25
abbrev sNumBy : Stmt := top 26
abbrev sNameBy : Stmt := top 27
abbrev sStep : Stmt := top 28
abbrev sTreeBy : Stmt := top 29
abbrev sLink : Stmt := top 30
abbrev sManyBy : Stmt := top 31
abbrev sExprBy : Stmt := top 32
abbrev s_law_is_name : Stmt := top 33
abbrev s_law_is_expr : Stmt := top 34
abbrev s_law_shown : Stmt := top 35
abbrev s_law_end : Stmt := top 36
abbrev s_law_atom : Stmt := top 37
abbrev s_law_head : Stmt := top 38
abbrev s_law_read : Stmt := top 39
abbrev s_law_due_of : Stmt := top 40
abbrev s_law_odd : Stmt := top 41
abbrev s_law_mended : Stmt := top 42
abbrev s_law_nested : Stmt := top 43
abbrev s_law_long : Stmt := top 44
abbrev s_law_line_by : Stmt := top 45
abbrev s_law_refused_by_any : Stmt := top 46
abbrev s_law_read_right : Stmt := top 47
abbrev sLaw : Stmt := top 48
end FC
namespace FC
open PySem L2 StX PyProof.Rows
section
variable {P : Program} {w : World} {K : PySem.W.Frag} {mg : Str → Option Value} {base : Heap} {t1 t2 : Tok} {f g f1 f2 f3 f4 f5 f6 f7 f8 f9 : Addr} {fd gd fd1 fd2 fd3 fd4 fd5 fd6 fd7 fd8 fd9 : FuncData}
theorem scMixed : FnScope ["_law_script", "_law_found", "_law_more", "_law_cell"] ["_law_script"] (defScope sMixed) := ⟨rfl, rfl, rfl, by decide +kernel, rfl, by decide +kernel, by decide +kernel⟩
theorem ok_mixed (d : Df K mg "_law_mixed" sMixed ["_law_script"] f fd) : FnOk P w K mg base CX0 1 f fd ["_law_script"] (spMixed K) := by
  refine d.F.ok scMixed (fun vs H Q E h => ?_) (fun cdv A outer s H vs Q E hr h => ?_)
  · obtain ⟨v, e, rfl, _⟩ := h
    rfl
  obtain ⟨a, ns, rfl, hS, h63, q⟩ := h
  refine ⟨_, pss_cons (ps_set (i := 1) scMixed.nd rfl (.inl rfl) (pe_lst pa_nil))
    (pss_cons (ps_set (i := 2) scMixed.nd rfl (.inl rfl) pe_int)
    (pss_cons (ps_for PassesOwn.never rfl (pi_list (pv 0)) (pg_name (i := 3) scMixed.nd rfl (.inl rfl))
      (pss_cons (ps_set (i := 2) scMixed.nd rfl (.inl rfl) (pe_op op_mod (pe_op op_add (pe_op op_add (pe_op op_mul (pv 2) pe_int) (pv 3)) pe_int) pe_int))
      (pss_one (ps_expr (pe_bm PySem.F.plainAttrs_list PySem.F.slot_list_append PySem.F.type_list_append mt_append (pv 1) (pa_cons (pv 2) pa_nil))))))
    (pss_one (ps_ret (pv 1))))), ?_⟩
  refine ⟨(by show 0 ≤ sizeLine; decide), fun F hF => ?_⟩
  refine ⟨_, rfl, a, rfl, ⟨_, (same_new hF _).seq hS⟩, ?_⟩
  refine for_list (K := K) (a := a) (xs := ns.map V.int) (fun i σ H2 => Same H H2 ∧ ∃ (ms : List Int) (m : Int) (z : Option V), H2 F = some (.lst (ms.map V.int)) ∧ ms.length = i ∧ (∀ x ∈ ms, 0 ≤ x) ∧ 0 ≤ m ∧ m < 1000000000000000003 ∧ σ = [some (.ref a), some (.ref F), some (.int m), z])
    ⟨same_new hF _, [], 1, none, upd_same, rfl, (fun _ z => nomatch z), by decide, by decide, rfl⟩ (fun i σ H2 _ h => h.1.seq hS) (fun i x σ H2 hx h => ?_) (fun σ H2 h => ?_)
  · obtain ⟨g2, ms, m, z, hF2, hl, hp, h0, h1, rfl⟩ := h
    rw [List.getElem?_map] at hx
    obtain ⟨y, hy, rfl⟩ := Option.map_eq_some_iff.mp hx
    have hi : i < ns.length := (List.getElem?_eq_some_iff.mp hy).1
    have hmod := Int.emod_nonneg (m * 6364136223846793005 + y + 1442695040888963407) (show (1000000000000000003 : Int) ≠ 0 by decide)
    have hmod2 := Int.emod_lt_of_pos (m * 6364136223846793005 + y + 1442695040888963407) (show (0 : Int) < 1000000000000000003 by decide)
    refine ⟨_, rfl, _, _, rfl, rfl, .inl ⟨by omega, by omega⟩, _, rfl, _, _, rfl, rfl, _, _, rfl, rfl, _, _, rfl, rfl, (show (0 : Int) < 1000000000000000003 by decide), ?_⟩
    refine ⟨_, rfl, .inl ⟨rfl, _, .inl (.inl hF2)⟩, _, rfl, F, _, _, rfl, rfl, hF2, ?_, same_put g2 hF, ms ++ [(m * 6364136223846793005 + y + 1442695040888963407) % 1000000000000000003], (m * 6364136223846793005 + y + 1442695040888963407) % 1000000000000000003, _, ?_, ?_, fun x hx => ?_, hmod, hmod2, rfl⟩
    · rw [List.length_map]
      exact small1000 (by omega)
    · rw [upd_same, List.map_append]
      rfl
    · rw [List.length_append, hl]
      rfl
    · rcases List.mem_append.mp hx with hx | hx
      · exact hp x hx
      · rw [List.mem_singleton.mp hx]
        exact hmod
  · obtain ⟨g2, ms, m, z, hF2, hl, hp, h0, h1, rfl⟩ := h
    exact ⟨_, rfl, q H2 F ms g2 hF2 (by rw [hl, List.length_map]) hp⟩
theorem scCellAt : FnScope ["_law_script", "_law_k"] ["_law_script", "_law_k"] (defScope sCellAt) := ⟨rfl, rfl, rfl, by decide +kernel, rfl, by decide +kernel, by decide +kernel⟩
theorem ok_cellAt (d : Df K mg "_law_cell_at" sCellAt ["_law_script", "_law_k"] f fd) (z : Bl mg) : FnOk P w K mg base CX0 1 f fd ["_law_script", "_law_k"] (spCellAt K) := by
  refine d.F.ok scCellAt (fun vs H Q E h => ?_) (fun cdv A outer s H vs Q E hr h => ?_)
  · obtain ⟨v, e, k, rfl, _⟩ := h
    rfl
  obtain ⟨a, ms, k, rfl, hS, hk, hp, q⟩ := h
  refine ⟨_, pss_cons (ps_if (pt_cmpR op_lt (pv 1) (pe_callB call_len_seq (by rfl) z.len PySem.boot_len (pa_cons (pv 0) pa_nil)) (nomark _)) (pss_one (ps_ret (pe_ix ix_list (pv 0) (pv 1) (fun _ _ => rfl)))) pss_nil)
    (pss_one (ps_ret pe_int)), ?_⟩
  refine ⟨_, rfl, _, rfl, a, _, rfl, .inl hS, _, _, rfl, rfl, _, rfl, ?_⟩
  refine ite2 (fun c => ?_) (fun c => ?_)
  · have c' : k < (((ms.map V.int).length : Nat) : Int) := of_decide_eq_true c
    rw [List.length_map] at c'
    have hj : k.toNat < ms.length := by omega
    refine ⟨_, rfl, _, rfl, a, _, _, _, rfl, rfl, hS, at_of (j := k.toNat) (v := .int ms[k.toNat]) (by omega) ?_, q _ (hp _ (List.getElem_mem hj))⟩
    rw [List.getElem?_map, List.getElem?_eq_getElem hj]
    rfl
  · exact q 0 (by decide)
theorem scWhole : FnScope ["_law_found"] ["_law_found"] (defScope sWhole) := ⟨rfl, rfl, rfl, by decide +kernel, rfl, by decide +kernel, by decide +kernel⟩
theorem ok_whole (d : Df K mg "_law_whole" sWhole ["_law_found"] f fd) (z : Bl mg) : FnOk P w K mg base CX0 1 f fd ["_law_found"] spWhole := by
  refine d.F.ok scWhole (fun vs H Q E h => ?_) (fun cdv A outer s H vs Q E hr h => ?_)
  · obtain ⟨i, rfl, _⟩ := h
    rfl
  obtain ⟨i, rfl, q⟩ := h
  refine ⟨_, pss_one (ps_ret (pe_and (pe_callB call_isi (by rfl) z.isi (by decide +kernel) (pa_cons (pv 0) (pa_cons (pe_bltn (by rfl) z.int (by decide +kernel) (v := .ty "int") rfl) pa_nil)))
    (pe_one (pe_not (pe_callB call_isi (by rfl) z.isi (by decide +kernel) (pa_cons (pv 0) (pa_cons (pe_bltn (by rfl) z.bool (by decide +kernel) (v := .ty "bool") rfl) pa_nil))))))), ?_⟩
  refine ⟨_, rfl, .int i, .ty "int", .type "int", .type "int", true, rfl, .ty _, .base (.int i), kit_ty (by decide +kernel), true, rfl, iteT ?_⟩
  exact ⟨_, rfl, .int i, .ty "bool", .type "int", .type "bool", false, rfl, .ty _, .base (.int i), kit_ty (by decide +kernel), false, rfl, q⟩
theorem scNumBy : FnScope ["_law_cell", "_law_way", "_law_more"] ["_law_cell"] (defScope sNumBy) := ⟨rfl, rfl, rfl, by decide +kernel, rfl, by decide +kernel, by decide +kernel⟩
theorem ok_numBy (d : Df K mg "_law_number_by" sNumBy ["_law_cell"] f fd) : FnOk P w K mg base CX0 1 f fd ["_law_cell"] spNumBy := by
  refine d.F.ok scNumBy (fun vs H Q E h => ?_) (fun cdv A outer s H vs Q E hr h => ?_)
  · obtain ⟨i, rfl, _⟩ := h
    rfl
  obtain ⟨c, rfl, hc, q⟩ := h
  refine ⟨_, pss_cons (ps_set (i := 1) scNumBy.nd rfl (.inl rfl) (pe_op op_mod (pv 0) pe_int))
    (pss_cons (ps_set (i := 2) scNumBy.nd rfl (.inl rfl) (pe_op op_fdiv (pv 0) pe_int))
    (pss_cons (ps_if (pt_cmpR op_eq (pv 1) pe_int (nomark _)) (pss_one (ps_ret (pe_op op_sub (pe_op op_mod (pv 2) pe_int) pe_int))) pss_nil)
    (pss_cons (ps_if (pt_cmpR op_eq (pv 1) pe_int (nomark _)) (pss_one (ps_ret (pe_ix ix_list (pe_lst (pa_cons pe_int (pa_cons (pe_un un_neg pe_int) (pa_cons pe_int (pa_cons (pe_un un_neg pe_int) pa_nil))))) (pe_op op_mod (pv 2) pe_int) (fun _ _ => rfl)))) pss_nil)
    (pss_cons (ps_if (pt_cmpR op_eq (pv 1) pe_int (nomark _)) (pss_one (ps_ret (pe_op op_sub (pe_op op_mod (pv 2) pe_int) pe_int))) pss_nil)
    (pss_cons (ps_if (pt_cmpR op_lt (pv 1) pe_int (nomark _)) (pss_one (ps_ret (pe_ix ix_list (pe_lst (pa_cons pe_int (pa_cons pe_int (pa_cons (pe_un un_neg pe_int) (pa_cons pe_int (pa_cons pe_int (pa_cons pe_int (pa_cons pe_int (pa_cons pe_int (pa_cons pe_int (pa_cons pe_int (pa_cons (pe_un un_neg pe_int) (pa_cons (pe_un un_neg pe_int) (pa_cons pe_int (pa_cons pe_int (pa_cons pe_int (pa_cons pe_int (pa_cons pe_int pa_nil)))))))))))))))))) (pe_op op_mod (pv 2) pe_int) (fun _ _ => rfl)))) pss_nil)
    (pss_one (ps_ret (pe_op op_sub (pe_op op_mod (pv 2) pe_int) pe_int)))))))), ?_⟩
  refine ⟨_, rfl, _, _, rfl, rfl, (show (0 : Int) < 8 by decide), _, rfl, _, _, rfl, rfl, ⟨by decide, by decide⟩, ?_⟩
  refine ⟨_, rfl, rfl, _, rfl, ?_⟩
  refine ite2 (fun _ => ?_) (fun _ => ?_)
  · refine ⟨_, rfl, _, _, rfl, rfl, (show (0 : Int) < 2000000001 by decide), _, _, rfl, rfl, q H _ (Same.refl _) ?_⟩
    have h1 := Int.emod_nonneg (c / 8) (show (2000000001 : Int) ≠ 0 by decide)
    have h2 := Int.emod_lt_of_pos (c / 8) (show (0 : Int) < 2000000001 by decide)
    exact ⟨by omega, by omega⟩
  refine ⟨_, rfl, rfl, _, rfl, ?_⟩
  refine ite2 (fun _ => ?_) (fun _ => ?_)
  · refine ⟨_, rfl, _, rfl, (by show 4 ≤ sizeLine; decide), fun p hp => ?_⟩
    obtain ⟨v, hv, hm⟩ := at_mod (xs := [.int 1000000000, .int (-1000000000), .int 999999999, .int (-999999999)]) (m := c / 8) 4 rfl (by decide)
    obtain ⟨n, rfl, hn⟩ := numV_out (List.all_eq_true.mp (show ([.int 1000000000, .int (-1000000000), .int 999999999, .int (-999999999)] : List V).all numV = true by decide) v hm)
    exact ⟨_, rfl, _, _, rfl, rfl, (show (0 : Int) < 4 by decide), p, _, _, _, rfl, rfl, .inl (.inl upd_same), hv, q _ n (same_new hp _) hn⟩
  refine ⟨_, rfl, rfl, _, rfl, ?_⟩
  refine ite2 (fun _ => ?_) (fun _ => ?_)
  · refine ⟨_, rfl, _, _, rfl, rfl, (show (0 : Int) < 60001 by decide), _, _, rfl, rfl, q H _ (Same.refl _) ?_⟩
    have h1 := Int.emod_nonneg (c / 8) (show (60001 : Int) ≠ 0 by decide)
    have h2 := Int.emod_lt_of_pos (c / 8) (show (0 : Int) < 60001 by decide)
    exact ⟨by omega, by omega⟩
  refine ⟨_, rfl, _, _, rfl, rfl, _, rfl, ?_⟩
  refine ite2 (fun _ => ?_) (fun _ => ?_)
  · refine ⟨_, rfl, _, rfl, _, rfl, (by show 17 ≤ sizeLine; decide), fun p hp => ?_⟩
    obtain ⟨v, hv, hm⟩ := at_mod (xs := [.int 0, .int 1, .int (-1), .int 2, .int 3, .int 4, .int 6, .int 8, .int 12, .int 24, .int (-2), .int (-1), .int 5, .int 1, .int 50000, .int 30000, .int 2000]) (m := c / 8) 17 rfl (by decide)
    obtain ⟨n, rfl, hn⟩ := numV_out (List.all_eq_true.mp (show ([.int 0, .int 1, .int (-1), .int 2, .int 3, .int 4, .int 6, .int 8, .int 12, .int 24, .int (-2), .int (-1), .int 5, .int 1, .int 50000, .int 30000, .int 2000] : List V).all numV = true by decide) v hm)
    exact ⟨_, rfl, _, _, rfl, rfl, (show (0 : Int) < 17 by decide), p, _, _, _, rfl, rfl, .inl (.inl upd_same), hv, q _ n (same_new hp _) hn⟩
  · refine ⟨_, rfl, _, _, rfl, rfl, (show (0 : Int) < 13 by decide), _, _, rfl, rfl, q H _ (Same.refl _) ?_⟩
    have h1 := Int.emod_nonneg (c / 8) (show (13 : Int) ≠ 0 by decide)
    have h2 := Int.emod_lt_of_pos (c / 8) (show (0 : Int) < 13 by decide)
    exact ⟨by omega, by omega⟩
theorem scNameBy : FnScope ["_law_seed", "_law_k", "_law_signs", "_law_words", "_law_more", "_law_name", "_law_at", "_law_turn", "_law_spot", "_law_two", "_law_sign"] ["_law_seed", "_law_k"] (defScope sNameBy) := ⟨rfl, rfl, rfl, by decide +kernel, rfl, by decide +kernel, by decide +kernel⟩
theorem ok_nameBy (d : Df K mg "_law_name_by" sNameBy ["_law_seed", "_law_k"] f fd) (z : Bl mg) : FnOk P w K mg base CX0 1 f fd ["_law_seed", "_law_k"] spNameBy := by
  refine d.F.ok scNameBy (fun vs H Q E h => ?_) (fun cdv A outer s H vs Q E hr h => ?_)
  · obtain ⟨i, k, rfl, _⟩ := h
    rfl
  obtain ⟨c, k, rfl, hc, hk0, hk1, q⟩ := h
  refine ⟨_, (pss_cons (ps_set (i := 2) scNameBy.nd rfl (.inl rfl) pe_str)
    (pss_cons (ps_set (i := 3) scNameBy.nd rfl (.inl rfl) (pe_lst (pa_cons pe_str (pa_cons pe_str (pa_cons pe_str (pa_cons pe_str (pa_cons pe_str (pa_cons pe_str (pa_cons pe_str (pa_cons pe_str (pa_cons pe_str (pa_cons pe_str (pa_cons pe_str pa_nil)))))))))))))
    (pss_cons (ps_set (i := 4) scNameBy.nd rfl (.inl rfl) (pe_op op_fdiv (pv 0) pe_int))
    (pss_cons (ps_if (PW.pt (pw_and (pt_cmpR op_eq (pe_op op_mod (pv 0) pe_int) pe_int (nomark _)) (pw_and1 (pt_cmpR op_lt (pv 1) pe_int (nomark _))))) (pss_one (ps_ret (pe_ix ix_list (pv 3) (pe_op op_mod (pe_op op_add (pv 4) (pv 1)) pe_int) (fun _ _ => rfl)))) pss_nil)
    (pss_cons (ps_set (i := 5) scNameBy.nd rfl (.inl rfl) pe_str)
    (pss_cons (ps_set (i := 6) scNameBy.nd rfl (.inl rfl) (pe_op op_fdiv (pv 4) pe_int))
    (pss_cons (ps_for PassesOwn.never rfl (pi_range1 (by rfl) z.range (pa_cons (pe_op op_add pe_int (pe_op op_mod (pv 4) pe_int)) pa_nil)) (pg_name (i := 7) scNameBy.nd rfl (.inl rfl)) (pss_cons (ps_set (i := 6) scNameBy.nd rfl (.inl rfl) (pe_op op_add (pe_op op_add (pv 6) pe_int) (pe_op op_mod (pe_op op_fdiv (pv 4) pe_int) pe_int)))
    (pss_one (ps_set (i := 5) scNameBy.nd rfl (.inl rfl) (pe_op op_add_str (pv 5) (pe_ix ix_str (pv 2) (pe_op op_mod (pv 6) pe_int) (fun _ _ => rfl)))))))
    (pss_cons (ps_set (i := 8) scNameBy.nd rfl (.inl rfl) (pe_op op_mod (pe_op op_fdiv (pv 4) pe_int) (pe_callB call_len_str (by rfl) z.len PySem.boot_len (pa_cons (pv 5) pa_nil))))
    (pss_cons (ps_if (pt_cmpR op_gt (pv 1) pe_int (nomark _)) (pss_cons (ps_set (i := 8) scNameBy.nd rfl (.inl rfl) (pe_callB (call_min2 rfl) (by rfl) z.min (by decide +kernel) (pa_cons (pv 8) (pa_cons pe_int pa_nil))))
    (pss_cons (ps_set (i := 9) scNameBy.nd rfl (.inl rfl) (pe_op op_add_str (pe_ix ix_str (pv 2) (pe_op op_mod (pe_op op_add (pv 6) (pe_op op_fdiv (pv 1) pe_int)) pe_int) (fun _ _ => rfl)) (pe_ix ix_str (pv 2) (pe_op op_mod (pv 1) pe_int) (fun _ _ => rfl))))
    (pss_one (ps_ret (pe_op op_add_str (pe_op op_add_str (pe_slice sl_str (pv 5) po_none (po_some (pv 8))) (pv 9)) (pe_slice sl_str (pv 5) (po_some (pv 8)) (po_some pe_int))))))) pss_nil)
    (pss_cons (ps_if (pt_cmpR op_gt (pe_op op_mod (pv 0) pe_int) pe_int (nomark _)) (pss_one (ps_ret (pe_op op_add_str (pe_ix ix_str (pv 2) (pe_op op_mod (pe_op op_add (pe_op op_fdiv (pv 4) pe_int) (pv 1)) pe_int) (fun _ _ => rfl)) (pv 5)))) pss_nil)
    (pss_cons (ps_if (pt_cmpR op_eq (pv 1) pe_int (nomark _)) (pss_cons (ps_set (i := 10) scNameBy.nd rfl (.inl rfl) (pe_ix ix_str (pv 2) (pe_op op_mod (pe_op op_add (pe_m1 PySem.F.slot_str_find PySem.F.type_str_find mt_find (pv 2) (pe_ix ix_str (pv 5) (pv 8) (fun _ _ => rfl))) pe_int) pe_int) (fun _ _ => rfl)))
    (pss_one (ps_ret (pe_op op_add_str (pe_op op_add_str (pe_slice sl_str (pv 5) po_none (po_some (pv 8))) (pv 10)) (pe_slice sl_str (pv 5) (po_some (pe_op op_add (pv 8) pe_int)) po_none))))) pss_nil)
    (pss_one (ps_ret (pe_op op_add_str (pv 5) (pe_ix ix_list (pe_lst (pa_cons pe_str (pa_cons pe_str (pa_cons (pe_ix ix_str (pv 2) (pe_op op_mod (pv 6) pe_int) (fun _ _ => rfl)) (pa_cons (pe_ix ix_str (pv 2) (pe_op op_mod (pe_op op_add (pv 6) pe_int) pe_int) (fun _ _ => rfl)) pa_nil))))) (pv 1) (fun _ _ => rfl)))))))))))))))), ?_⟩
  refine ⟨(by show 11 ≤ sizeLine; decide), fun pw hpw => ?_⟩
  have g1 := same_new hpw (.lst [.str "num", .str "name", .str "sum", .str "less", .str "times", .str "part", .str "rest", .str "below", .str "same", .str "when", .str "let"])
  have hw1 : upd H pw (.lst [.str "num", .str "name", .str "sum", .str "less", .str "times", .str "part", .str "rest", .str "below", .str "same", .str "when", .str "let"]) pw = some (.lst [.str "num", .str "name", .str "sum", .str "less", .str "times", .str "part", .str "rest", .str "below", .str "same", .str "when", .str "let"]) := upd_same
  generalize upd H pw (.lst [.str "num", .str "name", .str "sum", .str "less", .str "times", .str "part", .str "rest", .str "below", .str "same", .str "when", .str "let"]) = H1 at *
  refine ⟨_, rfl, _, _, rfl, rfl, ⟨by decide, by decide⟩, ?_⟩
  dsimp only [gName, tNext]
  refine if_prop (c % 6 = 0 ∧ k < 4) (fun Q h1 h2 => ?_) (fun hc1 => ?_) (fun hc1 => ?_)
  · refine ⟨_, rfl, _, _, rfl, rfl, (show (0 : Int) < 6 by decide), rfl, _, rfl, ?_⟩
    refine ite2 (fun a => ⟨_, rfl, _, _, rfl, rfl, _, rfl, ?_⟩) (fun a => h2 fun z => a (decide_eq_true (congrArg V.int z.1)))
    have a' : c % 6 = 0 := by injection of_decide_eq_true a
    by_cases b : k < 4
    · rw [decide_eq_true b]; exact h1 ⟨a', b⟩
    · rw [decide_eq_false b]; exact h2 fun z => b z.2
  · obtain ⟨v, hv, hm⟩ := at_modA (xs := [V.str "num", .str "name", .str "sum", .str "less", .str "times", .str "part", .str "rest", .str "below", .str "same", .str "when", .str "let"]) (m := c / 6 + k) 11 rfl (by decide)
    obtain ⟨y, rfl, hy⟩ := nameV_out (List.all_eq_true.mp (show ([V.str "num", .str "name", .str "sum", .str "less", .str "times", .str "part", .str "rest", .str "below", .str "same", .str "when", .str "let"] : List V).all nameV = true by decide +kernel) v hm)
    exact ⟨_, rfl, _, rfl, _, rfl, _, _, rfl, rfl, _, _, rfl, rfl, (show (0 : Int) < 11 by decide), pw, _, _, _, rfl, rfl, .inl (.inl hw1), hv, q H1 y g1 hy⟩
  refine ⟨_, rfl, _, _, rfl, rfl, ⟨by decide, by decide⟩, ?_⟩
  have hm7 := Int.emod_nonneg (c / 6) (show (7 : Int) ≠ 0 by decide)
  have hm7' := Int.emod_lt_of_pos (c / 6) (show (0 : Int) < 7 by decide)
  refine ⟨_, rfl, _, _, rfl, rfl, (show (0 : Int) < 7 by decide), _, _, rfl, rfl, _, rfl, (by omega), (by omega), ?_⟩
  refine for_range (lo := 0) (n := (1 + c / 6 % 7).toNat) (fun i σ H2 => H2 = H1 ∧ ∃ (n : Str) (t : Int) (x : Option V), n.length = i ∧ Low n ∧ 0 ≤ t ∧ σ = [some (.int c), some (.int k), some (.str signs), some (.ref pw), some (.int (c / 6)), some (.str n), some (.int t), x, none, none, none])
    ⟨rfl, "", c / 6 / 7, none, rfl, (fun x hx => nomatch hx), by omega, rfl⟩ (fun i σ H2 hi hP => ?_) (fun σ H2 hP => ?_)
  · obtain ⟨rfl, n, t, x, hl, hlow, ht, rfl⟩ := hP
    have hm25 := Int.emod_nonneg (c / 6 / 182) (show (25 : Int) ≠ 0 by decide)
    refine ⟨_, rfl, _, _, rfl, rfl, _, rfl, _, _, rfl, rfl, ⟨by decide, by decide⟩, _, _, rfl, rfl, (show (0 : Int) < 25 by decide), _, _, rfl, rfl, ?_⟩
    obtain ⟨s, hs, hs2⟩ := sign_at (t + 1 + c / 6 / 182 % 25)
    refine ⟨_, rfl, _, rfl, _, rfl, _, _, rfl, rfl, (show (0 : Int) < 26 by decide), _, _, s, rfl, rfl, signs_len, hs, _, _, rfl, rfl, ?_, rfl, n ++ ⟨#[s]⟩, t + 1 + c / 6 / 182 % 25, _, ?_, hlow.app (Low.one hs2), by omega, rfl⟩
    · show n.length + 1 ≤ sizeLine
      exact sz (by omega)
    · rw [app_len, hl]
      rfl
  · obtain ⟨rfl, n, t, x, hl, hlow, ht, rfl⟩ := hP
    have hn1 : 1 ≤ n.length := by omega
    have hn7 : n.length ≤ 7 := by omega
    have hnz : n.length ≤ sizeLine := sz (by omega)
    refine ⟨_, rfl, _, _, rfl, rfl, ⟨by decide, by decide⟩, _, rfl, _, rfl, hnz, _, _, rfl, rfl, (show (0 : Int) < (n.length : Int) by omega), ?_⟩
    have hp0 := Int.emod_nonneg (c / 6 / 4550) (show (n.length : Int) ≠ 0 by omega)
    have hp1 := Int.emod_lt_of_pos (c / 6 / 4550) (show (0 : Int) < (n.length : Int) by omega)
    dsimp only [gName, tNext]
    refine if_prop (k > 3) (fun Q h1 h2 => ?_) (fun hc2 => ?_) (fun hc2 => ?_)
    · refine ⟨_, rfl, _, _, rfl, rfl, _, rfl, ?_⟩
      by_cases b : 3 < k
      · rw [decide_eq_true b]; exact h1 b
      · rw [decide_eq_false b]; exact h2 b
    · obtain ⟨s1, hs1, hs1'⟩ := sign_at (t + k / 26)
      obtain ⟨s2, hs2, hs2'⟩ := sign_at k
      refine ⟨_, rfl, _, _, rfl, ?_⟩
      have hsp6 : (if (6 : Int) < (c / 6 / 4550 % (n.length : Int)) then 6 else (c / 6 / 4550 % (n.length : Int))) = (c / 6 / 4550 % (n.length : Int)) := if_neg (by omega)
      refine ⟨_, rfl, _, rfl, _, rfl, _, _, rfl, rfl, ⟨by decide, by decide⟩, _, _, rfl, rfl, _, _, rfl, rfl, (show (0 : Int) < 26 by decide), _, _, s1, rfl, rfl, signs_len, hs1, ?_⟩
      refine ⟨_, rfl, _, rfl, _, _, rfl, rfl, (show (0 : Int) < 26 by decide), _, _, s2, rfl, rfl, signs_len, hs2, _, _, rfl, rfl, (by show 1 + 1 ≤ sizeLine; decide), ?_⟩
      have l1 := cut_len n none (some (if (6 : Int) < (c / 6 / 4550 % (n.length : Int)) then 6 else (c / 6 / 4550 % (n.length : Int))))
      have l2 := cut_len n (some (if (6 : Int) < (c / 6 / 4550 % (n.length : Int)) then 6 else (c / 6 / 4550 % (n.length : Int)))) (some 6)
      rw [hsp6, sIx_pos hp0] at l1 l2
      rw [HT.sIx_none] at l1
      rw [sIx_pos (by decide)] at l2
      have hl2 : ((⟨#[s1]⟩ : Str) ++ ⟨#[s2]⟩).length = 2 := by rw [app_len]; rfl
      refine ⟨_, rfl, _, rfl, _, rfl, n, rfl, hnz, _, rfl, _, _, rfl, rfl, ?_, ?_⟩
      · rw [hsp6, hl2]
        exact sz (by omega)
      have hl3 : (cutS n none (some (if (6 : Int) < (c / 6 / 4550 % (n.length : Int)) then 6 else (c / 6 / 4550 % (n.length : Int)))) ++ ((⟨#[s1]⟩ : Str) ++ ⟨#[s2]⟩)).length = (cutS n none (some (c / 6 / 4550 % (n.length : Int)))).length + 2 := by rw [hsp6, app_len, hl2]
      refine ⟨_, rfl, _, rfl, _, rfl, _, rfl, n, rfl, hnz, _, _, rfl, rfl, ?_, ?_⟩
      · rw [hl3, hsp6]
        exact sz (by omega)
      refine q _ _ g1 ⟨?_, ?_, ?_⟩
      · rw [app_len, hl3]; omega
      · rw [app_len, hl3, hsp6]; omega
      · exact ((hlow.cut _ _).app ((Low.one hs1').app (Low.one hs2'))).app (hlow.cut _ _)
    dsimp only [gName, tNext]
    refine if_prop (c % 6 > 3) (fun Q h1 h2 => ?_) (fun hc3 => ?_) (fun hc3 => ?_)
    · refine ⟨_, rfl, _, _, rfl, rfl, (show (0 : Int) < 6 by decide), _, _, rfl, rfl, _, rfl, ?_⟩
      by_cases b : 3 < c % 6
      · rw [decide_eq_true b]; exact h1 b
      · rw [decide_eq_false b]; exact h2 b
    · obtain ⟨s1, hs1, hs1'⟩ := sign_at (c / 6 / 7 + k)
      refine ⟨_, rfl, _, rfl, _, _, rfl, rfl, ⟨by decide, by decide⟩, _, rfl, _, _, rfl, rfl, _, _, rfl, rfl, (show (0 : Int) < 26 by decide), _, _, s1, rfl, rfl, signs_len, hs1, _, rfl, _, _, rfl, rfl, ?_, ?_⟩
      · show 1 + n.length ≤ sizeLine
        exact sz (by omega)
      refine q _ _ g1 ⟨?_, ?_, (Low.one hs1').app hlow⟩
      · rw [app_len]; omega
      · rw [app_len]
        show 1 + n.length ≤ 8
        omega
    dsimp only [gName, tNext]
    refine if_prop (k = 1) (fun Q h1 h2 => ?_) (fun hc4 => ?_) (fun hc4 => ?_)
    · refine ⟨_, rfl, rfl, _, rfl, ?_⟩
      by_cases b : k = 1
      · rw [decide_eq_true (congrArg V.int b)]; exact h1 b
      · rw [decide_eq_false (fun z => b (by injection z))]; exact h2 b
    · have hsl : (c / 6 / 4550 % (n.length : Int)).toNat < n.cps.toList.length := by
        have : n.cps.toList.length = n.length := Array.length_toList
        omega
      obtain ⟨u, hu, hu2⟩ := at_lt (xs := n.cps.toList) hp0 (by omega)
      obtain ⟨s1, hs1, hs1'⟩ := sign_at (Txt.find signs ⟨#[u]⟩ + 1)
      refine ⟨_, rfl, _, rfl, ⟨_, rfl⟩, _, rfl, _, rfl, n, _, u, rfl, rfl, hnz, hu, _, _, rfl, rfl, _, _, rfl, rfl, _, _, rfl, rfl, (show (0 : Int) < 26 by decide), _, _, s1, rfl, rfl, signs_len, hs1, ?_⟩
      have l1 := cut_len n none (some (c / 6 / 4550 % (n.length : Int)))
      have l2 := cut_len n (some ((c / 6 / 4550 % (n.length : Int)) + 1)) none
      rw [HT.sIx_none, sIx_pos hp0] at l1
      rw [HT.sIx_none, sIx_pos (by omega)] at l2
      refine ⟨_, rfl, _, rfl, _, rfl, n, rfl, hnz, _, rfl, _, _, rfl, rfl, ?_, ?_⟩
      · show (cutS n none (some (c / 6 / 4550 % (n.length : Int)))).length + 1 ≤ sizeLine
        exact sz (by omega)
      have hl3 : (cutS n none (some (c / 6 / 4550 % (n.length : Int))) ++ (⟨#[s1]⟩ : Str)).length = (cutS n none (some (c / 6 / 4550 % (n.length : Int)))).length + 1 := app_len _ _
      refine ⟨_, rfl, _, rfl, _, _, rfl, rfl, _, rfl, n, rfl, hnz, _, _, rfl, rfl, ?_, ?_⟩
      · rw [hl3]
        show (cutS n none (some (c / 6 / 4550 % (n.length : Int)))).length + 1 + (cutS n (some ((c / 6 / 4550 % (n.length : Int)) + 1)) none).length ≤ sizeLine
        exact sz (by omega)
      refine q _ _ g1 ⟨?_, ?_, ((hlow.cut _ _).app (Low.one hs1')).app (hlow.cut _ _)⟩
      · rw [app_len, hl3]; omega
      · rw [app_len, hl3]
        show (cutS n none (some (c / 6 / 4550 % (n.length : Int)))).length + 1 + (cutS n (some ((c / 6 / 4550 % (n.length : Int)) + 1)) none).length ≤ 8
        omega
    · obtain ⟨s1, hs1, hs1'⟩ := sign_at t
      obtain ⟨s2, hs2, hs2'⟩ := sign_at (t + 1)
      obtain ⟨v, hv, hm⟩ := at_lt (xs := [V.str "", .str "", .str ⟨#[s1]⟩, .str ⟨#[s2]⟩]) (k := k) hk0 (by simp; omega)
      have hz : ∃ y : Str, v = .str y ∧ y.length ≤ 1 ∧ Low y := by
        simp only [List.mem_cons, List.mem_nil_iff, or_false] at hm
        rcases hm with rfl | rfl | rfl | rfl
        · exact ⟨_, rfl, Nat.zero_le _, fun x hx => nomatch hx⟩
        · exact ⟨_, rfl, Nat.zero_le _, fun x hx => nomatch hx⟩
        · exact ⟨_, rfl, Nat.le_refl _, Low.one hs1'⟩
        · exact ⟨_, rfl, Nat.le_refl _, Low.one hs2'⟩
      obtain ⟨y, rfl, hy1, hy2⟩ := hz
      refine ⟨_, rfl, _, rfl, _, rfl, _, _, rfl, rfl, (show (0 : Int) < 26 by decide), _, _, s1, rfl, rfl, signs_len, hs1, _, rfl, _, rfl, _, _, rfl, rfl, _, _, rfl, rfl, (show (0 : Int) < 26 by decide), _, _, s2, rfl, rfl, signs_len, hs2, (by show 4 ≤ sizeLine; decide), fun p hp => ?_⟩
      refine ⟨_, rfl, p, _, _, _, rfl, rfl, .inl (.inl upd_same), hv, _, _, rfl, rfl, ?_, q _ _ (g1.trans (same_new hp _)) ⟨?_, ?_, hlow.app hy2⟩⟩
      · exact sz (by omega)
      · rw [app_len]; omega
      · rw [app_len]; omega
theorem scStep : FnScope ["_law_pile", "_law_kind", "_law_more", "_law_seed", "_law_words", "_law_word", "_law_number", "_law_cond", "_law_turn"] ["_law_pile", "_law_kind", "_law_more", "_law_seed"] (defScope sStep) := ⟨rfl, rfl, rfl, by decide +kernel, rfl, by decide +kernel, by decide +kernel⟩
theorem ok_step (d : Df K mg "_law_step" sStep ["_law_pile", "_law_kind", "_law_more", "_law_seed"] f fd) (z : Bl mg) (d_nameBy : Df K mg "_law_name_by" sNameBy ["_law_seed", "_law_k"] f1 fd1) (d_numBy : Df K mg "_law_number_by" sNumBy ["_law_cell"] f2 fd2) :
    FnOk P w K mg base CX0 2 f fd ["_law_pile", "_law_kind", "_law_more", "_law_seed"] spStep := by
  refine d.F.ok scStep (fun vs H Q E h => ?_) (fun cdv A outer s H vs Q E hr h => ?_)
  · obtain ⟨a, xs, es, kind, more, seed, rfl, _⟩ := h
    rfl
  obtain ⟨a, xs, es, kind, more, seed, rfl, h, b, hok, hm0, hs0, hlen, q⟩ := h
  have G_nameBy := ok_nameBy (P := P) (w := w) (base := base) d_nameBy z
  have G_numBy := ok_numBy (P := P) (w := w) (base := base) d_numBy
  refine ⟨_, (pss_cons (ps_set (i := 4) scStep.nd rfl (.inl rfl) (pe_lst (pa_cons pe_str (pa_cons pe_str (pa_cons pe_str (pa_cons pe_str (pa_cons pe_str (pa_cons pe_str (pa_cons pe_str pa_nil)))))))))
    (pss_cons (ps_set (i := 5) scStep.nd rfl (.inl rfl) (pe_ix ix_list (pv 4) (pe_op op_mod (pv 2) pe_int) (fun _ _ => rfl)))
    (pss_cons (ps_if (PW.pt (pw_and (PW.pt (pw_or (pt_cmpR op_eq (pv 1) pe_int (nomark _)) (pw_or1 (pt_cmpR op_gt (pv 1) pe_int (nomark _))))) (pw_and1 (pt_cmpR op_gt (pe_callB call_len_seq (by rfl) z.len PySem.boot_len (pa_cons (pv 0) pa_nil)) pe_int (nomark _))))) (pss_one (ps_ret (pe_op op_cat (pe_slice sl_list (pv 0) po_none (po_some (pe_un un_neg pe_int))) (pe_lst (pa_cons (pe_tup (pa_cons pe_str (pa_cons (pe_call G_nameBy (hr.mono (by omega)) (by rfl) d_nameBy.m d_nameBy.k d_nameBy.b .nil pass0 (pa_cons (pv 3) (pa_cons (pe_op op_mod (pv 2) pe_int) pa_nil))) (pa_cons (pe_ix ix_list (pv 0) (pe_un un_neg pe_int) (fun _ _ => rfl)) (pa_cons (pe_ix ix_list (pv 0) (pe_un un_neg pe_int) (fun _ _ => rfl)) pa_nil))))) pa_nil))))) pss_nil)
    (pss_cons (ps_if (PW.pt (pw_and (pt_cmpR op_gt (pv 1) pe_int (nomark _)) (pw_and1 (pt_cmpR op_gt (pe_callB call_len_seq (by rfl) z.len PySem.boot_len (pa_cons (pv 0) pa_nil)) pe_int (nomark _))))) (pss_cons (ps_if (PW.pt (pw_and (pt_cmpR op_eq (pv 1) pe_int (nomark _)) (pw_and1 (pt_cmpR op_in_seq (pe_ix ix_tup (pe_ix ix_list (pv 0) (pe_un un_neg pe_int) (fun _ _ => rfl)) pe_int (fun _ _ => rfl)) (pv 4) rfl)))) (pss_one (ps_set (i := 5) scStep.nd rfl (.inl rfl) (pe_ix ix_tup (pe_ix ix_list (pv 0) (pe_un un_neg pe_int) (fun _ _ => rfl)) pe_int (fun _ _ => rfl)))) pss_nil)
    (pss_cons (ps_set (i := 6) scStep.nd rfl (.inl rfl) (pe_tup (pa_cons pe_str (pa_cons (pe_call G_numBy (hr.mono (by omega)) (by rfl) d_numBy.m d_numBy.k d_numBy.b .nil pass0 (pa_cons (pe_op op_fdiv (pv 2) pe_int) pa_nil)) pa_nil))))
    (pss_cons (ps_if (pt_cmpR op_eq (pv 1) pe_int (nomark _)) (pss_one (ps_ret (pe_op op_cat (pe_slice sl_list (pv 0) po_none (po_some (pe_un un_neg pe_int))) (pe_lst (pa_cons (pe_tup (pa_cons (pv 5) (pa_cons (pv 6) (pa_cons (pe_ix ix_list (pv 0) (pe_un un_neg pe_int) (fun _ _ => rfl)) pa_nil)))) pa_nil))))) pss_nil)
    (pss_one (ps_ret (pe_op op_cat (pe_slice sl_list (pv 0) po_none (po_some (pe_un un_neg pe_int))) (pe_lst (pa_cons (pe_tup (pa_cons (pv 5) (pa_cons (pe_ix ix_list (pv 0) (pe_un un_neg pe_int) (fun _ _ => rfl)) (pa_cons (pv 6) pa_nil)))) pa_nil)))))))) pss_nil)
    (pss_cons (ps_if (PW.pt (pw_and (pt_cmpR op_eq (pv 1) pe_int (nomark _)) (pw_and1 (pt_cmpR op_gt (pe_callB call_len_seq (by rfl) z.len PySem.boot_len (pa_cons (pv 0) pa_nil)) pe_int (nomark _))))) (pss_cons (ps_set (i := 6) scStep.nd rfl (.inl rfl) (pe_tup (pa_cons pe_str (pa_cons (pe_call G_numBy (hr.mono (by omega)) (by rfl) d_numBy.m d_numBy.k d_numBy.b .nil pass0 (pa_cons (pe_op op_fdiv (pv 2) pe_int) pa_nil)) pa_nil))))
    (pss_one (ps_ret (pe_op op_cat (pe_slice sl_list (pv 0) po_none (po_some (pe_un un_neg pe_int))) (pe_lst (pa_cons (pe_tup (pa_cons pe_str (pa_cons (pe_call G_nameBy (hr.mono (by omega)) (by rfl) d_nameBy.m d_nameBy.k d_nameBy.b .nil pass0 (pa_cons (pv 3) (pa_cons (pe_op op_mod (pv 2) pe_int) pa_nil))) (pa_cons (pv 6) (pa_cons (pe_ix ix_list (pv 0) (pe_un un_neg pe_int) (fun _ _ => rfl)) pa_nil))))) pa_nil)))))) pss_nil)
    (pss_cons (ps_if (PW.pt (pw_and (pt_cmpR op_eq (pv 1) pe_int (nomark _)) (pw_and1 (pt_cmpR op_gt (pe_callB call_len_seq (by rfl) z.len PySem.boot_len (pa_cons (pv 0) pa_nil)) pe_int (nomark _))))) (pss_cons (ps_set (i := 7) scStep.nd rfl (.inl rfl) (pe_ix ix_list (pv 0) (pe_un un_neg pe_int) (fun _ _ => rfl)))
    (pss_cons (ps_for PassesOwn.never rfl (pi_range1 (by rfl) z.range (pa_cons (pe_op op_mod (pv 2) pe_int) pa_nil)) (pg_name (i := 8) scStep.nd rfl (.inl rfl)) (pss_one (ps_set (i := 7) scStep.nd rfl (.inl rfl) (pe_tup (pa_cons pe_str (pa_cons (pv 7) (pa_cons (pe_tup (pa_cons pe_str (pa_cons pe_int pa_nil))) pa_nil)))))))
    (pss_one (ps_ret (pe_op op_cat (pe_slice sl_list (pv 0) po_none (po_some (pe_un un_neg pe_int))) (pe_lst (pa_cons (pe_tup (pa_cons pe_str (pa_cons (pv 7) (pa_cons (pe_ix ix_list (pv 0) (pe_un un_neg pe_int) (fun _ _ => rfl)) (pa_cons (pe_ix ix_list (pv 0) (pe_un un_neg pe_int) (fun _ _ => rfl)) pa_nil))))) pa_nil))))))) pss_nil)
    (pss_cons (ps_if (PW.pt (pw_and (pt_cmpR op_gt (pv 1) pe_int (nomark _)) (pw_and1 (pt_cmpR op_gt (pe_callB call_len_seq (by rfl) z.len PySem.boot_len (pa_cons (pv 0) pa_nil)) pe_int (nomark _))))) (pss_one (ps_ret (pe_op op_cat (pe_slice sl_list (pv 0) po_none (po_some (pe_un un_neg pe_int))) (pe_lst (pa_cons (pe_tup (pa_cons (pv 5) (pa_cons (pe_ix ix_list (pv 0) (pe_un un_neg pe_int) (fun _ _ => rfl)) (pa_cons (pe_ix ix_list (pv 0) (pe_un un_neg pe_int) (fun _ _ => rfl)) pa_nil)))) pa_nil))))) pss_nil)
    (pss_cons (ps_if (pt_cmpR op_lt (pv 1) pe_int (nomark _)) (pss_one (ps_ret (pe_op op_cat (pv 0) (pe_lst (pa_cons (pe_tup (pa_cons pe_str (pa_cons (pe_call G_numBy (hr.mono (by omega)) (by rfl) d_numBy.m d_numBy.k d_numBy.b .nil pass0 (pa_cons (pv 2) pa_nil)) pa_nil))) pa_nil))))) pss_nil)
    (pss_one (ps_ret (pe_op op_cat (pv 0) (pe_lst (pa_cons (pe_tup (pa_cons pe_str (pa_cons (pe_call G_nameBy (hr.mono (by omega)) (by rfl) d_nameBy.m d_nameBy.k d_nameBy.b .nil pass0 (pa_cons (pv 3) (pa_cons (pe_op op_mod (pv 2) pe_int) pa_nil))) pa_nil))) pa_nil))))))))))))), ?_⟩
  have m3 := Int.emod_nonneg more (show (3 : Int) ≠ 0 by decide)
  have m3' := Int.emod_lt_of_pos more (show (0 : Int) < 3 by decide)
  refine ⟨(by show 7 ≤ sizeLine; decide), fun pw hpw => new_h hpw fun H1 g1 hw1 => ?_⟩
  have h1 := g1 _ _ h
  obtain ⟨v, hv, hmem⟩ := at_modA (xs := opsV) (m := more) 7 rfl (by decide)
  obtain ⟨o, rfl⟩ := ops_in hmem
  refine ⟨_, rfl, _, rfl, _, _, rfl, rfl, (show (0 : Int) < 7 by decide), pw, _, _, _, rfl, rfl, .inl (.inl hw1), hv, ?_⟩
  dsimp only [gName]
  refine if_two (1 < (xs.length : Int)) (fun Q k1 k2 => ?_) (fun hl => ?_) ?_
  · refine ⟨_, rfl, rfl, _, rfl, ite2 (fun _ => iteT ?_) (fun _ => ⟨_, rfl, _, _, rfl, rfl, _, rfl, ite2 (fun _ => ?_) (fun _ => k2)⟩)⟩
    all_goals
      refine ⟨_, rfl, a, _, rfl, .inl (.inl (.inl h1)), _, _, rfl, rfl, _, rfl, ?_⟩
      by_cases b : (1 : Int) < (xs.length : Int)
      · rw [decide_eq_true b]; exact k1 b
      · rw [decide_eq_false b]; exact k2
  · obtain ⟨pre, x, y, epre, ex, ey, rfl, rfl, bp, bx, by1⟩ := b.split2 (by omega)
    refine ⟨_, rfl, _, rfl, _, rfl, a, _, rfl, .inl (.inl h1), fun p1 hp1 => ?_⟩
    rw [show cutV (pre ++ [x, y]) none (some (-2)) = pre from cut_app pre [x, y] 2 rfl (by decide)]
    have g2' := same_new hp1 (.lst pre)
    have hA : upd H1 p1 (.lst pre) p1 = some (.lst pre) := upd_same
    generalize upd H1 p1 (.lst pre) = H2 at g2' hA ⊢
    have g2 := g1.trans g2'
    refine ⟨_, rfl, _, rfl, _, _, rfl, rfl, (show (0 : Int) < 3 by decide), seed, more % 3, rfl, hs0, m3, by omega, fun H3 nm g3 hnm => ?_⟩
    have g3' := g2.trans g3
    have h3 := g3' _ _ h
    refine ⟨_, rfl, _, rfl, a, _, _, x, rfl, rfl, .inl (.inl h3), at_neg 2 (by decide) (by simp) (by simp), _, rfl, _, rfl, a, _, _, y, rfl, rfl, .inl (.inl h3), at_neg 1 (by decide) (by simp) (by simp), (by show 4 ≤ sizeLine; decide), fun t ht => new_h ht fun H4 g4 ht4 => ?_⟩
    have bn : Bears H4 (.ref t) (.lett nm ex ey) := .lett ht4 (bx.mono (Tups.of (g3'.trans g4))) (by1.mono (Tups.of (g3'.trans g4)))
    refine ⟨(by show 1 ≤ sizeLine; decide), fun l hl0 => ?_⟩
    refine ⟨p1, l, _, _, rfl, rfl, same_new hl0 _ _ _ (g4 _ _ (g3 _ _ hA)), upd_same, ?_, fun p hp => ?_⟩
    · simp at hlen ⊢
      exact sz (by omega)
    obtain ⟨gF, bF⟩ := step_fin (g3'.trans g4) bp bn hl0 hp
    have o1 := hok ex (by simp)
    have o2 := hok ey (by simp)
    refine q _ p _ _ gF upd_same bF (hok.left.app (OkL.one ⟨hnm, o1, o2⟩)) (by simp) ?_ ?_
    · rw [sizeL_append, sizeL_append]
      show sizeL epre + ((ex.size + ey.size + 1) + 0) ≤ sizeL epre + (ex.size + (ey.size + 0)) + 5
      omega
    · rw [depS_append, depS_append]
      have d_ex := Ex.deep_pos ex
      have d_ey := Ex.deep_pos ey
      show depS epre + ((max ex.deep ey.deep + 1) + 0) ≤ depS epre + (ex.deep + (ey.deep + 0)) + 1
      omega
  dsimp only [tNext]
  refine if_two (0 < (xs.length : Int)) (fun Q k1 k2 => ?_) (fun hl => ?_) ?_
  · refine ⟨_, rfl, _, _, rfl, rfl, _, rfl, ite2 (fun _ => ?_) (fun _ => k2)⟩
    refine ⟨_, rfl, a, _, rfl, .inl (.inl (.inl h1)), _, _, rfl, rfl, _, rfl, ?_⟩
    by_cases b : (0 : Int) < (xs.length : Int)
    · rw [decide_eq_true b]; exact k1 b
    · rw [decide_eq_false b]; exact k2
  · obtain ⟨pre, y, epre, ey, rfl, rfl, bp, by1⟩ := b.split1 (by omega)
    have hat : atI (pre ++ [y]) (-1) = some y := at_neg 1 (by decide) (by simp) (by simp)
    obtain ⟨ay, ys, rfl, hy⟩ := by1.first
    have o2 := hok ey (by simp)
    refine if_set (∃ o' : Op, V.str ey.word = .str o'.str) (fun w H' => H' = H1 ∧ ∃ o' : Op, w = .str o'.str) (.str o.str) ⟨rfl, o, rfl⟩ rfl (fun Q k1 k2 => ?_) (fun hp Q k => ?_) (fun w H' hw => ?_)
    · refine ⟨_, rfl, rfl, _, rfl, ite2 (fun _ => ?_) (fun _ => k2)⟩
      refine ⟨_, rfl, _, rfl, a, _, _, _, rfl, rfl, .inl (.inl h1), hat, ay, _, 0, _, rfl, rfl, .inl (.inl (g1 _ _ hy)), at_of (j := 0) rfl rfl, _, rfl, pw, _, rfl, .inl (.inl (.inl hw1)), rfl, by decide, _, rfl, ?_⟩
      by_cases c : inV (.str ey.word) opsV = true
      · exact cast (congrArg (fun k => Q k H1) (show true = (if false = true then !inV (V.str ey.word) opsV else inV (V.str ey.word) opsV) from c.symm)) (k1 (word_op c))
      · exact cast (congrArg (fun k => Q k H1) (show false = (if false = true then !inV (V.str ey.word) opsV else inV (V.str ey.word) opsV) from (Bool.eq_false_iff.mpr c).symm)) k2
    · obtain ⟨o', ho'⟩ := hp
      exact ⟨_, rfl, _, rfl, a, _, _, _, rfl, rfl, .inl (.inl h1), hat, ay, _, 0, _, rfl, rfl, .inl (.inl (g1 _ _ hy)), at_of (j := 0) rfl rfl, k _ _ ⟨rfl, o', ho'⟩⟩
    obtain ⟨rfl, o', rfl⟩ := hw
    refine ⟨_, rfl, _, _, rfl, rfl, ⟨by decide, by decide⟩, more / 7, rfl, Int.ediv_nonneg hm0 (by decide), fun H2 n g2' hn => ?_⟩
    refine ⟨(by show 2 ≤ sizeLine; decide), fun tn htn => new_h htn fun H3 g3' htn3 => ?_⟩
    have g3 := g1.trans (g2'.trans g3')
    have bnum : Bears H3 (.ref tn) (.num n) := .num htn3
    have h3 := g3 _ _ h
    dsimp only [gName]
    refine if_two True (fun Q k1 k2 => ?_) (fun _ => ?_) ?_
    · exact ⟨_, rfl, rfl, _, rfl, any_b (k1 trivial) k2⟩
    · refine ⟨_, rfl, _, rfl, _, rfl, a, _, rfl, .inl (.inl h3), fun p1 hp1 => ?_⟩
      rw [show cutV (pre ++ [V.ref ay]) none (some (-1)) = pre from cut_app pre [V.ref ay] 1 rfl (by decide)]
      have g4' := same_new hp1 (.lst pre)
      have hA : upd H3 p1 (.lst pre) p1 = some (.lst pre) := upd_same
      generalize upd H3 p1 (.lst pre) = H4 at g4' hA ⊢
      have g4 := g3.trans g4'
      refine ⟨_, rfl, _, rfl, _, rfl, _, rfl, a, _, _, _, rfl, rfl, .inl (.inl (g4 _ _ h)), hat, (by show 3 ≤ sizeLine; decide), fun t ht => new_h ht fun H5 g5 ht5 => ?_⟩
      have bn : Bears H5 (.ref t) (.two o' (.num n) ey) := .two ht5 (bnum.mono (Tups.of (g4'.trans g5))) (by1.mono (Tups.of (g4.trans g5)))
      refine ⟨(by show 1 ≤ sizeLine; decide), fun l hl0 => ?_⟩
      refine ⟨p1, l, _, _, rfl, rfl, same_new hl0 _ _ _ (g5 _ _ hA), upd_same, ?_, fun p hp => ?_⟩
      · simp at hlen ⊢
        exact sz (by omega)
      obtain ⟨gF, bF⟩ := step_fin (g4.trans g5) bp bn hl0 hp
      refine q _ p _ _ gF upd_same bF (hok.left.app (OkL.one ⟨hn, o2⟩)) (by simp) ?_ ?_
      · rw [sizeL_append, sizeL_append]
        show sizeL epre + ((1 + ey.size + 1) + 0) ≤ sizeL epre + (ey.size + 0) + 5
        omega
      · rw [depS_append, depS_append]
        have d_ey := Ex.deep_pos ey
        show depS epre + ((max 1 ey.deep + 1) + 0) ≤ depS epre + (ey.deep + 0) + 1
        omega
    · dsimp only [tNext]
      refine ⟨_, rfl, _, rfl, _, rfl, a, _, rfl, .inl (.inl h3), fun p1 hp1 => ?_⟩
      rw [show cutV (pre ++ [V.ref ay]) none (some (-1)) = pre from cut_app pre [V.ref ay] 1 rfl (by decide)]
      have g4' := same_new hp1 (.lst pre)
      have hA : upd H3 p1 (.lst pre) p1 = some (.lst pre) := upd_same
      generalize upd H3 p1 (.lst pre) = H4 at g4' hA ⊢
      have g4 := g3.trans g4'
      refine ⟨_, rfl, _, rfl, _, rfl, a, _, _, _, rfl, rfl, .inl (.inl (g4 _ _ h)), hat, _, rfl, (by show 3 ≤ sizeLine; decide), fun t ht => new_h ht fun H5 g5 ht5 => ?_⟩
      have bn : Bears H5 (.ref t) (.two o' ey (.num n)) := .two ht5 (by1.mono (Tups.of (g4.trans g5))) (bnum.mono (Tups.of (g4'.trans g5)))
      refine ⟨(by show 1 ≤ sizeLine; decide), fun l hl0 => ?_⟩
      refine ⟨p1, l, _, _, rfl, rfl, same_new hl0 _ _ _ (g5 _ _ hA), upd_same, ?_, fun p hp => ?_⟩
      · simp at hlen ⊢
        exact sz (by omega)
      obtain ⟨gF, bF⟩ := step_fin (g4.trans g5) bp bn hl0 hp
      refine q _ p _ _ gF upd_same bF (hok.left.app (OkL.one ⟨o2, hn⟩)) (by simp) ?_ ?_
      · rw [sizeL_append, sizeL_append]
        show sizeL epre + ((ey.size + 1 + 1) + 0) ≤ sizeL epre + (ey.size + 0) + 5
        omega
      · rw [depS_append, depS_append]
        have d_ey := Ex.deep_pos ey
        show depS epre + ((max ey.deep 1 + 1) + 0) ≤ depS epre + (ey.deep + 0) + 1
        omega
  dsimp only [tNext]
  refine if_two (0 < (xs.length : Int)) (fun Q k1 k2 => ?_) (fun hl => ?_) ?_
  · refine ⟨_, rfl, rfl, _, rfl, ite2 (fun _ => ?_) (fun _ => k2)⟩
    refine ⟨_, rfl, a, _, rfl, .inl (.inl (.inl h1)), _, _, rfl, rfl, _, rfl, ?_⟩
    by_cases b : (0 : Int) < (xs.length : Int)
    · rw [decide_eq_true b]; exact k1 b
    · rw [decide_eq_false b]; exact k2
  · obtain ⟨pre, y, epre, ey, rfl, rfl, bp, by1⟩ := b.split1 (by omega)
    have hat : atI (pre ++ [y]) (-1) = some y := at_neg 1 (by decide) (by simp) (by simp)
    have o2 := hok ey (by simp)
    refine ⟨_, rfl, _, _, rfl, rfl, ⟨by decide, by decide⟩, more / 3, rfl, Int.ediv_nonneg hm0 (by decide), fun H2 n g2' hn => ?_⟩
    refine ⟨(by show 2 ≤ sizeLine; decide), fun tn htn => new_h htn fun H3 g3' htn3 => ?_⟩
    have g3 := g1.trans (g2'.trans g3')
    have bnum : Bears H3 (.ref tn) (.num n) := .num htn3
    have h3 := g3 _ _ h
    refine ⟨_, rfl, _, rfl, _, rfl, a, _, rfl, .inl (.inl h3), fun p1 hp1 => ?_⟩
    rw [show cutV (pre ++ [y]) none (some (-1)) = pre from cut_app pre [y] 1 rfl (by decide)]
    have g4' := same_new hp1 (.lst pre)
    have hA : upd H3 p1 (.lst pre) p1 = some (.lst pre) := upd_same
    generalize upd H3 p1 (.lst pre) = H4 at g4' hA ⊢
    have g4 := g3.trans g4'
    refine ⟨_, rfl, _, rfl, _, _, rfl, rfl, (show (0 : Int) < 3 by decide), seed, more % 3, rfl, hs0, m3, by omega, fun H5 nm g5' hnm => ?_⟩
    have g5 := g4.trans g5'
    refine ⟨_, rfl, _, rfl, _, rfl, a, _, _, _, rfl, rfl, .inl (.inl (g5 _ _ h)), hat, (by show 4 ≤ sizeLine; decide), fun t ht => new_h ht fun H6 g6 ht6 => ?_⟩
    have bn : Bears H6 (.ref t) (.lett nm (.num n) ey) := .lett ht6 (bnum.mono (Tups.of (g4'.trans (g5'.trans g6)))) (by1.mono (Tups.of (g5.trans g6)))
    refine ⟨(by show 1 ≤ sizeLine; decide), fun l hl0 => ?_⟩
    refine ⟨p1, l, _, _, rfl, rfl, same_new hl0 _ _ _ (g6 _ _ (g5' _ _ hA)), upd_same, ?_, fun p hp => ?_⟩
    · simp at hlen ⊢
      exact sz (by omega)
    obtain ⟨gF, bF⟩ := step_fin (g5.trans g6) bp bn hl0 hp
    refine q _ p _ _ gF upd_same bF (hok.left.app (OkL.one ⟨hnm, hn, o2⟩)) (by simp) ?_ ?_
    · rw [sizeL_append, sizeL_append]
      show sizeL epre + ((1 + ey.size + 1) + 0) ≤ sizeL epre + (ey.size + 0) + 5
      omega
    · rw [depS_append, depS_append]
      have d_ey := Ex.deep_pos ey
      show depS epre + ((max 1 ey.deep + 1) + 0) ≤ depS epre + (ey.deep + 0) + 1
      omega
  dsimp only [tNext]
  refine if_two (2 < (xs.length : Int)) (fun Q k1 k2 => ?_) (fun hl => ?_) ?_
  · refine ⟨_, rfl, rfl, _, rfl, ite2 (fun _ => ?_) (fun _ => k2)⟩
    refine ⟨_, rfl, a, _, rfl, .inl (.inl (.inl h1)), _, _, rfl, rfl, _, rfl, ?_⟩
    by_cases b : (2 : Int) < (xs.length : Int)
    · rw [decide_eq_true b]; exact k1 b
    · rw [decide_eq_false b]; exact k2
  · obtain ⟨pre, u, x, y, epre, eu, ex, ey, rfl, rfl, bp, bu, bx, by1⟩ := b.split3 (by omega)
    have hat3 : atI (pre ++ [u, x, y]) (-3) = some u := at_neg 3 (by decide) (by simp) (by simp)
    have hat2 : atI (pre ++ [u, x, y]) (-2) = some x := at_neg 2 (by decide) (by simp) (by simp)
    have hat1 : atI (pre ++ [u, x, y]) (-1) = some y := at_neg 1 (by decide) (by simp) (by simp)
    have o0 := hok eu (by simp)
    have o1 := hok ex (by simp)
    have o2 := hok ey (by simp)
    refine ⟨_, rfl, _, rfl, a, _, _, _, rfl, rfl, .inl (.inl h1), hat3, ?_⟩
    refine ⟨_, rfl, _, _, rfl, rfl, (show (0 : Int) < 3 by decide), _, rfl, (by omega), (by omega), ?_⟩
    refine for_range (lo := 0) (n := (more % 3).toNat) (fun i σ H2 => Same H1 H2 ∧ ∃ (vc : V) (ec : Ex) (zz : Option V), Bears H2 vc ec ∧ ec.ok ∧ ec.size = eu.size + 2 * i ∧ ec.deep = eu.deep + i ∧ σ = [some (.ref a), some (.int kind), some (.int more), some (.int seed), some (.ref pw), some (.str o.str), none, some vc, zz])
      ⟨Same.refl _, u, eu, _, bu.mono (Tups.of g1), o0, rfl, rfl, rfl⟩ (fun i σ H2 hi hP => ?_) (fun σ H2 hP => ?_)
    · obtain ⟨g2, vc, ec, zz, bc, oc, sc, dc, rfl⟩ := hP
      refine ⟨_, rfl, (by show 2 ≤ sizeLine; decide), fun t0 ht0 => new_h ht0 fun H3 g3 ht3 => ?_⟩
      refine ⟨(by show 3 ≤ sizeLine; decide), fun t ht => new_h ht fun H4 g4 ht4 => ?_⟩
      refine ⟨g2.trans (g3.trans g4), _, .two .same ec (.num 0), _, .two ht4 (bc.mono (Tups.of (g3.trans g4))) (.num (g4 _ _ ht3)), ⟨oc, (show NumOk 0 by decide)⟩, ?_, ?_, rfl⟩
      · show ec.size + 1 + 1 = _
        omega
      · have d_ec := Ex.deep_pos ec
        show max ec.deep 1 + 1 = _
        omega
    · obtain ⟨g2', vc, ec, zz, bc, oc, sc, dc, rfl⟩ := hP
      have g2 := g1.trans g2'
      have h2 := g2 _ _ h
      refine ⟨_, rfl, _, rfl, _, rfl, a, _, rfl, .inl (.inl h2), fun p1 hp1 => ?_⟩
      rw [show cutV (pre ++ [u, x, y]) none (some (-3)) = pre from cut_app pre [u, x, y] 3 rfl (by decide)]
      have g4' := same_new hp1 (.lst pre)
      have hA : upd H2 p1 (.lst pre) p1 = some (.lst pre) := upd_same
      generalize upd H2 p1 (.lst pre) = H4 at g4' hA ⊢
      have g4 := g2.trans g4'
      have h4 := g4 _ _ h
      refine ⟨_, rfl, _, rfl, _, rfl, a, _, _, _, rfl, rfl, .inl (.inl h4), hat2, _, rfl, _, rfl, a, _, _, _, rfl, rfl, .inl (.inl h4), hat1, (by show 4 ≤ sizeLine; decide), fun t ht => new_h ht fun H5 g5 ht5 => ?_⟩
      have bn : Bears H5 (.ref t) (.whn ec ex ey) := .whn ht5 (bc.mono (Tups.of (g4'.trans g5))) (bx.mono (Tups.of (g4.trans g5))) (by1.mono (Tups.of (g4.trans g5)))
      refine ⟨(by show 1 ≤ sizeLine; decide), fun l hl0 => ?_⟩
      refine ⟨p1, l, _, _, rfl, rfl, same_new hl0 _ _ _ (g5 _ _ hA), upd_same, ?_, fun p hp => ?_⟩
      · simp at hlen ⊢
        exact sz (by omega)
      obtain ⟨gF, bF⟩ := step_fin (g4.trans g5) bp bn hl0 hp
      refine q _ p _ _ gF upd_same bF (hok.left.app (OkL.one ⟨oc, o1, o2⟩)) (by simp) ?_ ?_
      · rw [sizeL_append, sizeL_append]
        show sizeL epre + ((ec.size + ex.size + ey.size + 1) + 0) ≤ sizeL epre + (eu.size + (ex.size + (ey.size + 0))) + 5
        omega
      · rw [depS_append, depS_append]
        have d_ex := Ex.deep_pos ex
        have d_ey := Ex.deep_pos ey
        have d_ec := Ex.deep_pos ec
        show depS epre + ((max (max ec.deep ex.deep) ey.deep + 1) + 0) ≤ depS epre + (eu.deep + (ex.deep + (ey.deep + 0))) + 1
        omega
  dsimp only [tNext]
  refine if_two (1 < (xs.length : Int)) (fun Q k1 k2 => ?_) (fun hl => ?_) ?_
  · refine ⟨_, rfl, _, _, rfl, rfl, _, rfl, ite2 (fun _ => ?_) (fun _ => k2)⟩
    refine ⟨_, rfl, a, _, rfl, .inl (.inl (.inl h1)), _, _, rfl, rfl, _, rfl, ?_⟩
    by_cases b : (1 : Int) < (xs.length : Int)
    · rw [decide_eq_true b]; exact k1 b
    · rw [decide_eq_false b]; exact k2
  · obtain ⟨pre, x, y, epre, ex, ey, rfl, rfl, bp, bx, by1⟩ := b.split2 (by omega)
    have hat2 : atI (pre ++ [x, y]) (-2) = some x := at_neg 2 (by decide) (by simp) (by simp)
    have hat1 : atI (pre ++ [x, y]) (-1) = some y := at_neg 1 (by decide) (by simp) (by simp)
    have o1 := hok ex (by simp)
    have o2 := hok ey (by simp)
    refine ⟨_, rfl, _, rfl, _, rfl, a, _, rfl, .inl (.inl h1), fun p1 hp1 => ?_⟩
    rw [show cutV (pre ++ [x, y]) none (some (-2)) = pre from cut_app pre [x, y] 2 rfl (by decide)]
    have g2' := same_new hp1 (.lst pre)
    have hA : upd H1 p1 (.lst pre) p1 = some (.lst pre) := upd_same
    generalize upd H1 p1 (.lst pre) = H2 at g2' hA ⊢
    have g2 := g1.trans g2'
    have h2 := g2 _ _ h
    refine ⟨_, rfl, _, rfl, _, rfl, a, _, _, _, rfl, rfl, .inl (.inl h2), hat2, _, rfl, _, rfl, a, _, _, _, rfl, rfl, .inl (.inl h2), hat1, (by show 3 ≤ sizeLine; decide), fun t ht => new_h ht fun H4 g4 ht4 => ?_⟩
    have bn : Bears H4 (.ref t) (.two o ex ey) := .two ht4 (bx.mono (Tups.of (g2.trans g4))) (by1.mono (Tups.of (g2.trans g4)))
    refine ⟨(by show 1 ≤ sizeLine; decide), fun l hl0 => ?_⟩
    refine ⟨p1, l, _, _, rfl, rfl, same_new hl0 _ _ _ (g4 _ _ hA), upd_same, ?_, fun p hp => ?_⟩
    · simp at hlen ⊢
      exact sz (by omega)
    obtain ⟨gF, bF⟩ := step_fin (g2.trans g4) bp bn hl0 hp
    refine q _ p _ _ gF upd_same bF (hok.left.app (OkL.one ⟨o1, o2⟩)) (by simp) ?_ ?_
    · rw [sizeL_append, sizeL_append]
      show sizeL epre + ((ex.size + ey.size + 1) + 0) ≤ sizeL epre + (ex.size + (ey.size + 0)) + 5
      omega
    · rw [depS_append, depS_append]
      have d_ex := Ex.deep_pos ex
      have d_ey := Ex.deep_pos ey
      show depS epre + ((max ex.deep ey.deep + 1) + 0) ≤ depS epre + (ex.deep + (ey.deep + 0)) + 1
      omega
  dsimp only [tNext]
  refine if_two True (fun Q k1 k2 => ?_) (fun _ => ?_) ?_
  · exact ⟨_, rfl, _, _, rfl, rfl, _, rfl, any_b (k1 trivial) k2⟩
  · refine ⟨_, rfl, _, rfl, more, rfl, hm0, fun H2 n g2' hn => ?_⟩
    refine ⟨(by show 2 ≤ sizeLine; decide), fun t ht => new_h ht fun H3 g3' ht3 => ?_⟩
    have g3 := g1.trans (g2'.trans g3')
    refine ⟨(by show 1 ≤ sizeLine; decide), fun l hl0 => ?_⟩
    refine ⟨a, l, _, _, rfl, rfl, same_new hl0 _ _ _ (g3 _ _ h), upd_same, ?_, fun p hp => ?_⟩
    · simp at hlen ⊢
      exact sz (by omega)
    obtain ⟨gF, bF⟩ := step_fin g3 b (.num (n := n) ht3) hl0 hp
    refine q _ p _ _ gF upd_same bF (hok.app (OkL.one hn)) (by simp) ?_ ?_
    · rw [sizeL_append]
      show sizeL es + (1 + 0) ≤ sizeL es + 5
      omega
    · rw [depS_append]
      show depS es + (1 + 0) ≤ depS es + 1
      omega
  · dsimp only [tNext]
    refine ⟨_, rfl, _, rfl, _, rfl, _, _, rfl, rfl, (show (0 : Int) < 3 by decide), seed, more % 3, rfl, hs0, m3, by omega, fun H2 nm g2' hnm => ?_⟩
    refine ⟨(by show 2 ≤ sizeLine; decide), fun t ht => new_h ht fun H3 g3' ht3 => ?_⟩
    have g3 := g1.trans (g2'.trans g3')
    refine ⟨(by show 1 ≤ sizeLine; decide), fun l hl0 => ?_⟩
    refine ⟨a, l, _, _, rfl, rfl, same_new hl0 _ _ _ (g3 _ _ h), upd_same, ?_, fun p hp => ?_⟩
    · simp at hlen ⊢
      exact sz (by omega)
    obtain ⟨gF, bF⟩ := step_fin g3 b (.nam (w := nm) ht3) hl0 hp
    refine q _ p _ _ gF upd_same bF (hok.app (OkL.one hnm)) (by simp) ?_ ?_
    · rw [sizeL_append]
      show sizeL es + (1 + 0) ≤ sizeL es + 5
      omega
    · rw [depS_append]
      show depS es + (1 + 0) ≤ depS es + 1
      omega
theorem scTreeBy : FnScope ["_law_cells", "_law_seed", "_law_pile", "_law_cell"] ["_law_cells", "_law_seed"] (defScope sTreeBy) := ⟨rfl, rfl, rfl, by decide +kernel, rfl, by decide +kernel, by decide +kernel⟩
theorem ok_treeBy (d : Df K mg "_law_tree_by" sTreeBy ["_law_cells", "_law_seed"] f fd) (z : Bl mg) (d_step : Df K mg "_law_step" sStep ["_law_pile", "_law_kind", "_law_more", "_law_seed"] f1 fd1)
    (d_nameBy : Df K mg "_law_name_by" sNameBy ["_law_seed", "_law_k"] f2 fd2) (d_numBy : Df K mg "_law_number_by" sNumBy ["_law_cell"] f3 fd3) :
    FnOk P w K mg base CX0 3 f fd ["_law_cells", "_law_seed"] (spTreeBy K) := by
  refine d.F.ok scTreeBy (fun vs H Q E h => ?_) (fun cdv A outer s H vs Q E hr h => ?_)
  · obtain ⟨a, ms, seed, rfl, _⟩ := h
    rfl
  obtain ⟨a, ms, seed, rfl, hS, hnn, h63, hs0, q⟩ := h
  have G_step := ok_step (P := P) (w := w) (base := base) d_step z d_nameBy d_numBy
  refine ⟨_, (pss_cons (ps_set (i := 2) scTreeBy.nd rfl (.inl rfl) (pe_lst pa_nil))
    (pss_cons (ps_for PassesOwn.never rfl (pi_list (pv 0)) (pg_name (i := 3) scTreeBy.nd rfl (.inl rfl)) (pss_one (ps_set (i := 2) scTreeBy.nd rfl (.inl rfl) (pe_call G_step (hr.mono (by omega)) (by rfl) d_step.m d_step.k d_step.b .nil pass0 (pa_cons (pv 2) (pa_cons (pe_op op_mod (pv 3) pe_int) (pa_cons (pe_op op_fdiv (pv 3) pe_int) (pa_cons (pv 1) pa_nil))))))))
    (pss_cons (ps_while PassesOwn.never (pt_cmpR op_gt (pe_callB call_len_seq (by rfl) z.len PySem.boot_len (pa_cons (pv 2) pa_nil)) pe_int (nomark _)) (pss_one (ps_set (i := 2) scTreeBy.nd rfl (.inl rfl) (pe_op op_cat (pe_slice sl_list (pv 2) po_none (po_some (pe_un un_neg pe_int))) (pe_lst (pa_cons (pe_tup (pa_cons pe_str (pa_cons (pe_ix ix_list (pv 2) (pe_un un_neg pe_int) (fun _ _ => rfl)) (pa_cons (pe_ix ix_list (pv 2) (pe_un un_neg pe_int) (fun _ _ => rfl)) pa_nil)))) pa_nil))))))
    (pss_cons (ps_if (pt_cmpR (op_eqLen hr.units0) (pv 2) (pe_lst pa_nil) (nomark _)) (pss_one (ps_ret (pe_tup (pa_cons pe_str (pa_cons pe_int pa_nil))))) pss_nil)
    (pss_one (ps_ret (pe_ix ix_list (pv 2) pe_int (fun _ _ => rfl)))))))), ?_⟩
  refine ⟨(by show 0 ≤ sizeLine; decide), fun p0 hp0 => ?_⟩
  refine ⟨_, rfl, a, rfl, ⟨_, (same_new hp0 _).seq hS⟩, ?_⟩
  refine for_list (K := K) (a := a) (xs := ms.map V.int) (fun i σ H2 => Same H H2 ∧ ∃ (p : Addr) (xs : List V) (es : List Ex) (zz : Option V), H2 p = some (.lst xs) ∧ BearsL H2 xs es ∧ OkL es ∧ es.length ≤ i ∧ sizeL es ≤ 5 * i ∧ depS es ≤ i ∧ σ = [some (.ref a), some (.int seed), some (.ref p), zz])
    ⟨same_new hp0 _, p0, [], [], none, upd_same, .nil, (fun _ z => nomatch z), Nat.le_refl _, Nat.le_refl _, Nat.le_refl _, rfl⟩ (fun i σ H2 _ h => h.1.seq hS) (fun i x σ H2 hx hP => ?_) (fun σ H2 hP => ?_)
  · obtain ⟨g2, p, xs, es, zz, hp, b, ok, hl, hsz, hdp, rfl⟩ := hP
    rw [List.getElem?_map] at hx
    obtain ⟨c, hc, rfl⟩ := Option.map_eq_some_iff.mp hx
    have hi : i < ms.length := (List.getElem?_eq_some_iff.mp hc).1
    have hc0 := hnn c (List.mem_of_getElem? hc)
    have hbl := b.len
    refine ⟨_, rfl, _, rfl, _, _, rfl, rfl, (show (0 : Int) < 20 by decide), _, rfl, _, _, rfl, rfl, ⟨by decide, by decide⟩, _, rfl, p, xs, es, c % 20, c / 20, seed, rfl, hp, b, ok, Int.ediv_nonneg hc0 (by decide), hs0, by omega, fun H3 p' xs' es' g3 hp' b' ok' hl' hsz' hdp' => ?_⟩
    exact ⟨g2.trans g3, p', xs', es', _, hp', b', ok', by omega, by omega, by omega, rfl⟩
  · obtain ⟨g2, p, xs, es, zz, hp, b, ok, hl, hsz, hdp, rfl⟩ := hP
    rw [List.length_map] at hl hsz hdp
    refine ⟨fun m σ H3 => Same H H3 ∧ ∃ (p : Addr) (xs : List V) (es : List Ex), H3 p = some (.lst xs) ∧ BearsL H3 xs es ∧ OkL es ∧ es.length = m ∧ m ≤ ms.length ∧ sizeL es + m ≤ 6 * ms.length ∧ depS es ≤ ms.length ∧ σ = [some (.ref a), some (.int seed), some (.ref p), zz],
      ⟨_, g2, p, xs, es, hp, b, ok, rfl, hl, by omega, hdp, rfl⟩, fun m σ H3 hW => ?_⟩
    obtain ⟨g3, p, xs, es, hp, b, ok, hm, hml, hsz2, hdp2, rfl⟩ := hW
    have hbl := b.len
    refine ⟨_, rfl, p, _, rfl, .inl (.inl (.inl hp)), _, _, rfl, rfl, _, rfl, ?_⟩
    by_cases c : (1 : Int) < (xs.length : Int)
    · rw [decide_eq_true c]
      refine iteT ?_
      obtain ⟨pre, x, y, epre, ex, ey, rfl, rfl, bp, bx, by1⟩ := b.split2 (by omega)
      have o1 := ok ex (by simp)
      have o2 := ok ey (by simp)
      refine ⟨fun σ' H' => ∃ m', m' < m ∧ (Same H H' ∧ ∃ (p : Addr) (xs : List V) (es : List Ex), H' p = some (.lst xs) ∧ BearsL H' xs es ∧ OkL es ∧ es.length = m' ∧ m' ≤ ms.length ∧ sizeL es + m' ≤ 6 * ms.length ∧ depS es ≤ ms.length ∧ σ' = [some (.ref a), some (.int seed), some (.ref p), zz]), fun _ _ h => h, ?_⟩
      refine ⟨_, rfl, _, rfl, _, rfl, p, _, rfl, .inl (.inl hp), fun p1 hp1 => ?_⟩
      rw [show cutV (pre ++ [x, y]) none (some (-2)) = pre from cut_app pre [x, y] 2 rfl (by decide)]
      have g4 := same_new hp1 (.lst pre)
      have hA : upd H3 p1 (.lst pre) p1 = some (.lst pre) := upd_same
      generalize upd H3 p1 (.lst pre) = H4 at g4 hA ⊢
      have h4 := g4 _ _ hp
      refine ⟨_, rfl, _, rfl, p, _, _, x, rfl, rfl, .inl (.inl h4), at_neg 2 (by decide) (by simp) (by simp), _, rfl, _, rfl, p, _, _, y, rfl, rfl, .inl (.inl h4), at_neg 1 (by decide) (by simp) (by simp), (by show 3 ≤ sizeLine; decide), fun t ht => new_h ht fun H5 g5 ht5 => ?_⟩
      have bn : Bears H5 (.ref t) (.two .sum ex ey) := .two ht5 (bx.mono (Tups.of (g4.trans g5))) (by1.mono (Tups.of (g4.trans g5)))
      refine ⟨(by show 1 ≤ sizeLine; decide), fun l hl0 => ?_⟩
      refine ⟨p1, l, _, _, rfl, rfl, same_new hl0 _ _ _ (g5 _ _ hA), upd_same, ?_, fun p9 hp9 => ?_⟩
      · simp at hbl hm ⊢
        exact sz (by omega)
      obtain ⟨gF, bF⟩ := step_fin (g4.trans g5) bp bn hl0 hp9
      refine ⟨m - 1, ?_, g3.trans gF, p9, _, _, upd_same, bF, ok.left.app (OkL.one ⟨o1, o2⟩), ?_, ?_, ?_, ?_, rfl⟩
      · simp at hm
        omega
      · simp at hm ⊢
        omega
      · omega
      · rw [sizeL_append] at hsz2 ⊢
        have hsz2' : sizeL epre + (ex.size + (ey.size + 0)) + m ≤ 6 * ms.length := hsz2
        show sizeL epre + ((ex.size + ey.size + 1) + 0) + (m - 1) ≤ 6 * ms.length
        simp at hm
        omega
      · rw [depS_append] at hdp2 ⊢
        have hdp3 : depS epre + (ex.deep + (ey.deep + 0)) ≤ ms.length := hdp2
        have d_ex := Ex.deep_pos ex
        have d_ey := Ex.deep_pos ey
        show depS epre + ((max ex.deep ey.deep + 1) + 0) ≤ ms.length
        omega
    · rw [decide_eq_false c]
      refine iteF ?_
      refine ⟨_, rfl, (by show 0 ≤ sizeLine; decide), fun e0 he0 => ?_⟩
      have g5 := same_new he0 (.lst [])
      cases b with
      | nil =>
        refine ⟨p, e0, _, _, rfl, rfl, .inl (.inl (g5 _ _ hp)), .inl (.inl upd_same), .inr ⟨rfl, rfl, _, rfl, iteT ?_⟩⟩
        refine ⟨(by show 2 ≤ sizeLine; decide), fun t ht => new_h ht fun H5 g6 ht5 => ?_⟩
        exact q _ _ (.num 0) (g3.trans (g5.trans g6)) (.num ht5) (show NumOk 0 by decide) (Nat.le_add_left _ _) (Nat.le_add_left _ _)
      | @cons x e xr er bx br =>
        cases br with
        | cons _ _ =>
          simp at c
          omega
        | nil =>
          refine ⟨p, e0, _, _, rfl, rfl, .inl (.inl (g5 _ _ hp)), .inl (.inl upd_same), .inl ⟨by simp, _, rfl, iteF ?_⟩⟩
          refine ⟨_, rfl, p, _, 0, x, rfl, rfl, .inl (.inl (g5 _ _ hp)), rfl, ?_⟩
          have hsz3 : (e.size + 0) + m ≤ 6 * ms.length := hsz2
          have hdp3 : e.deep + 0 ≤ ms.length := hdp2
          exact q _ _ e (g3.trans g5) (bx.mono (Tups.of g5)) (ok e List.mem_cons_self) (by omega) (by omega)
theorem scLink : FnScope ["_law_word", "_law_code", "_law_row"] ["_law_word", "_law_code"] (defScope sLink) := ⟨rfl, rfl, rfl, by decide +kernel, rfl, by decide +kernel, by decide +kernel⟩
theorem ok_link (d : Df K mg "_law_link" sLink ["_law_word", "_law_code"] f fd) : FnOk P w K mg base CX0 1 f fd ["_law_word", "_law_code"] spLink := by
  refine d.F.ok scLink (fun vs H Q E h => ?_) (fun cdv A outer s H vs Q E hr h => ?_)
  · obtain ⟨x, c, rfl, _⟩ := h
    rfl
  obtain ⟨x, c, rfl, q⟩ := h
  refine ⟨_, (pss_cons (ps_set (i := 2) scLink.nd rfl (.inl rfl) (pe_lst (pa_cons pe_int (pa_cons pe_int (pa_cons (pe_un un_neg pe_int) (pa_cons pe_int (pa_cons (pe_un un_neg pe_int) (pa_cons pe_int (pa_cons pe_int (pa_cons pe_int (pa_cons (pe_un un_neg pe_int) pa_nil)))))))))))
    (pss_cons (ps_if (pt_cmpR op_eq (pv 0) pe_str (nomark _)) (pss_one (ps_set (i := 2) scLink.nd rfl (.inl rfl) (pe_lst (pa_cons (pe_un un_neg pe_int) (pa_cons pe_int (pa_cons (pe_un un_neg pe_int) (pa_cons pe_int (pa_cons pe_int (pa_cons pe_int (pa_cons pe_int (pa_cons (pe_un un_neg pe_int) (pa_cons (pe_un un_neg pe_int) pa_nil)))))))))))) pss_nil)
    (pss_cons (ps_if (pt_cmpR op_eq (pv 0) pe_str (nomark _)) (pss_one (ps_set (i := 2) scLink.nd rfl (.inl rfl) (pe_lst (pa_cons pe_int (pa_cons (pe_un un_neg pe_int) (pa_cons pe_int (pa_cons pe_int (pa_cons pe_int (pa_cons (pe_un un_neg pe_int) (pa_cons pe_int (pa_cons pe_int (pa_cons pe_int pa_nil)))))))))))) pss_nil)
    (pss_cons (ps_if (pt_cmpR op_eq (pv 0) pe_str (nomark _)) (pss_one (ps_set (i := 2) scLink.nd rfl (.inl rfl) (pe_lst (pa_cons pe_int (pa_cons pe_int (pa_cons pe_int (pa_cons pe_int (pa_cons pe_int (pa_cons pe_int (pa_cons pe_int (pa_cons pe_int (pa_cons pe_int pa_nil)))))))))))) pss_nil)
    (pss_one (ps_ret (pe_ix ix_list (pv 2) (pe_op op_mod (pv 1) pe_int) (fun _ _ => rfl)))))))), ?_⟩
  refine ⟨_, rfl, _, rfl, _, rfl, (by show 9 ≤ sizeLine; decide), fun p hp => ?_⟩
  dsimp only [gName]
  refine if_set (i := 2) True (fun w H' => Same H H' ∧ ∃ p xs, w = .ref p ∧ H' p = some (.lst xs) ∧ xs.length = 9 ∧ xs.all numV = true) (.ref p) ⟨same_new hp _, p, _, rfl, upd_same, rfl, by decide⟩ rfl (fun Q k1 k2 => ⟨_, rfl, rfl, _, rfl, any_b (k1 trivial) k2⟩)
    (fun _ Q k => ?_) (fun w H1 hw => ?_)
  · exact ⟨_, rfl, _, rfl, _, rfl, _, rfl, (by show 9 ≤ sizeLine; decide), fun p2 hp2 => k _ _ ⟨(same_new hp _).trans (same_new hp2 _), p2, _, rfl, upd_same, rfl, by decide⟩⟩
  obtain ⟨g1, p, xs, rfl, h1, hl, ha⟩ := hw
  refine if_set (i := 2) True (fun w H' => Same H H' ∧ ∃ p xs, w = .ref p ∧ H' p = some (.lst xs) ∧ xs.length = 9 ∧ xs.all numV = true) (.ref p) ⟨g1, p, _, rfl, h1, hl, ha⟩ rfl (fun Q k1 k2 => ⟨_, rfl, rfl, _, rfl, any_b (k1 trivial) k2⟩)
    (fun _ Q k => ?_) (fun w H2 hw => ?_)
  · exact ⟨_, rfl, _, rfl, (by show 9 ≤ sizeLine; decide), fun p2 hp2 => k _ _ ⟨g1.trans (same_new hp2 _), p2, _, rfl, upd_same, rfl, by decide⟩⟩
  obtain ⟨g2, p, xs, rfl, h2, hl, ha⟩ := hw
  refine if_set (i := 2) True (fun w H' => Same H H' ∧ ∃ p xs, w = .ref p ∧ H' p = some (.lst xs) ∧ xs.length = 9 ∧ xs.all numV = true) (.ref p) ⟨g2, p, _, rfl, h2, hl, ha⟩ rfl (fun Q k1 k2 => ⟨_, rfl, rfl, _, rfl, any_b (k1 trivial) k2⟩)
    (fun _ Q k => ?_) (fun w H3 hw => ?_)
  · exact ⟨(by show 9 ≤ sizeLine; decide), fun p2 hp2 => k _ _ ⟨g2.trans (same_new hp2 _), p2, _, rfl, upd_same, rfl, by decide⟩⟩
  obtain ⟨g3, p, xs, rfl, h3, hl, ha⟩ := hw
  obtain ⟨v, hv, hm⟩ := at_modA (xs := xs) (m := c) 9 hl (by decide)
  obtain ⟨n, rfl, hn⟩ := numV_out (List.all_eq_true.mp ha v hm)
  exact ⟨_, rfl, _, rfl, _, _, rfl, rfl, (show (0 : Int) < 9 by decide), p, _, _, _, rfl, rfl, .inl (.inl h3), hv, q _ n g3 hn⟩
theorem scManyBy : FnScope ["_law_seed", "_law_cell", "_law_words", "_law_expr", "_law_k", "_law_word"] ["_law_seed", "_law_cell"] (defScope sManyBy) := ⟨rfl, rfl, rfl, by decide +kernel, rfl, by decide +kernel, by decide +kernel⟩
theorem ok_manyBy (d : Df K mg "_law_many_by" sManyBy ["_law_seed", "_law_cell"] f fd) (z : Bl mg) (d_nameBy : Df K mg "_law_name_by" sNameBy ["_law_seed", "_law_k"] f1 fd1) : FnOk P w K mg base CX0 2 f fd ["_law_seed", "_law_cell"] spManyBy := by
  refine d.F.ok scManyBy (fun vs H Q E h => ?_) (fun cdv A outer s H vs Q E hr h => ?_)
  · obtain ⟨x, c, rfl, _⟩ := h
    rfl
  obtain ⟨seed, c, rfl, hs0, hc0, q⟩ := h
  have G_nameBy := ok_nameBy (P := P) (w := w) (base := base) d_nameBy z
  refine ⟨_, (pss_cons (ps_set (i := 2) scManyBy.nd rfl (.inl rfl) (pe_lst (pa_cons pe_str (pa_cons pe_str (pa_cons pe_str (pa_cons pe_str (pa_cons pe_str (pa_cons pe_str (pa_cons pe_str pa_nil)))))))))
    (pss_cons (ps_set (i := 3) scManyBy.nd rfl (.inl rfl) (pe_tup (pa_cons pe_str (pa_cons (pe_call G_nameBy (hr.mono (by omega)) (by rfl) d_nameBy.m d_nameBy.k d_nameBy.b .nil pass0 (pa_cons (pv 0) (pa_cons (pe_op op_mod (pv 1) pe_int) pa_nil))) pa_nil))))
    (pss_cons (ps_for PassesOwn.never rfl (pi_range1 (by rfl) z.range (pa_cons (pe_op op_add pe_int (pe_op op_mod (pe_op op_fdiv (pv 1) pe_int) pe_int)) pa_nil)) (pg_name (i := 4) scManyBy.nd rfl (.inl rfl)) (pss_cons (ps_set (i := 5) scManyBy.nd rfl (.inl rfl) (pe_ix ix_list (pv 2) (pe_op op_mod (pe_op op_fdiv (pv 1) pe_int) pe_int) (fun _ _ => rfl)))
    (pss_cons (ps_if (pt_cmpR op_eq (pe_op op_mod (pe_op op_fdiv (pv 1) pe_int) pe_int) pe_int (nomark _)) (pss_one (ps_set (i := 5) scManyBy.nd rfl (.inl rfl) (pe_ix ix_list (pv 2) (pe_op op_mod (pe_op op_add (pe_op op_fdiv (pv 1) pe_int) (pv 4)) pe_int) (fun _ _ => rfl)))) pss_nil)
    (pss_one (ps_set (i := 3) scManyBy.nd rfl (.inl rfl) (pe_tup (pa_cons (pv 5) (pa_cons (pv 3) (pa_cons (pe_tup (pa_cons pe_str (pa_cons (pe_call G_nameBy (hr.mono (by omega)) (by rfl) d_nameBy.m d_nameBy.k d_nameBy.b .nil pass0 (pa_cons (pv 0) (pa_cons (pv 4) pa_nil))) pa_nil))) pa_nil)))))))))
    (pss_one (ps_ret (pv 3)))))), ?_⟩
  have m40 := Int.emod_nonneg c (show (40 : Int) ≠ 0 by decide)
  have m40' := Int.emod_lt_of_pos c (show (0 : Int) < 40 by decide)
  have m36 := Int.emod_nonneg (c / 40) (show (36 : Int) ≠ 0 by decide)
  have m36' := Int.emod_lt_of_pos (c / 40) (show (0 : Int) < 36 by decide)
  refine ⟨(by show 7 ≤ sizeLine; decide), fun pw hpw => new_h hpw fun H1 g1 hw1 => ?_⟩
  refine ⟨_, rfl, _, rfl, _, _, rfl, rfl, (show (0 : Int) < 40 by decide), seed, c % 40, rfl, hs0, m40, by omega, fun H2 nm g2' hnm => ?_⟩
  refine ⟨(by show 2 ≤ sizeLine; decide), fun t0 ht0 => new_h ht0 fun H3 g3' ht3 => ?_⟩
  have g3 := g1.trans (g2'.trans g3')
  have hw3 := g3' _ _ (g2' _ _ hw1)
  refine ⟨_, rfl, _, _, rfl, rfl, ⟨by decide, by decide⟩, _, _, rfl, rfl, (show (0 : Int) < 36 by decide), _, _, rfl, rfl, _, rfl, (by omega), (by omega), ?_⟩
  refine for_range (lo := 0) (n := (5 + c / 40 % 36).toNat) (fun i σ H4 => Same H3 H4 ∧ ∃ (v : V) (e : Ex) (z4 z5 : Option V), Bears H4 v e ∧ e.ok ∧ e.size = 1 + 2 * i ∧ e.deep = 1 + i ∧ σ = [some (.int seed), some (.int c), some (.ref pw), some v, z4, z5])
    ⟨Same.refl _, _, .nam nm, _, _, .nam ht3, hnm, rfl, rfl, rfl⟩ (fun i σ H4 hi hP => ?_) (fun σ H4 hP => ?_)
  · obtain ⟨g4, v, e, z4, z5, b, ok, hsz, hdp, rfl⟩ := hP
    have hw4 := g4 _ _ hw3
    obtain ⟨w1, hv1, hmem1⟩ := at_modA (xs := opsV) (m := c / 1440) 7 rfl (by decide)
    obtain ⟨o1, rfl⟩ := ops_in hmem1
    have m2 := Int.emod_nonneg (c / 20160 + (0 + (i : Int))) (show (2 : Int) ≠ 0 by decide)
    have m2' := Int.emod_lt_of_pos (c / 20160 + (0 + (i : Int))) (show (0 : Int) < 2 by decide)
    obtain ⟨w2, hv2, hmem2⟩ := at_lt (xs := opsV) (k := (c / 20160 + (0 + (i : Int))) % 2) m2 (by show _ < (7 : Int); omega)
    obtain ⟨o2, rfl⟩ := ops_in hmem2
    refine ⟨_, rfl, _, rfl, _, _, rfl, rfl, ⟨by decide, by decide⟩, _, _, rfl, rfl, (show (0 : Int) < 7 by decide), pw, _, _, _, rfl, rfl, .inl (.inl hw4), hv1, ?_⟩
    dsimp only [gName]
    refine if_set (i := 5) True (fun w H' => H' = H4 ∧ ∃ o : Op, w = .str o.str) (.str o1.str) ⟨rfl, o1, rfl⟩ rfl (fun Q k1 k2 => ⟨_, rfl, _, _, rfl, rfl, ⟨by decide, by decide⟩, _, _, rfl, rfl, (show (0 : Int) < 2 by decide), rfl, _, rfl, any_b (k1 trivial) k2⟩)
      (fun _ Q k => ⟨_, rfl, _, rfl, _, _, rfl, rfl, ⟨by decide, by decide⟩, _, rfl, _, _, rfl, rfl, _, _, rfl, rfl, (show (0 : Int) < 2 by decide), pw, _, _, _, rfl, rfl, .inl (.inl hw4), hv2, k _ _ ⟨rfl, o2, rfl⟩⟩) (fun w H5 hw => ?_)
    obtain ⟨rfl, o, rfl⟩ := hw
    refine ⟨_, rfl, _, rfl, _, rfl, _, rfl, seed, _, rfl, hs0, (by omega), (by omega), fun H6 nm2 g6 hnm2 => ?_⟩
    refine ⟨(by show 2 ≤ sizeLine; decide), fun t1 ht1 => new_h ht1 fun H7 g7 ht7 => ?_⟩
    refine ⟨(by show 3 ≤ sizeLine; decide), fun t2 ht2 => new_h ht2 fun H8 g8 ht8 => ?_⟩
    refine ⟨g4.trans (g6.trans (g7.trans g8)), _, .two o e (.nam nm2), _, _, .two ht8 (b.mono (Tups.of (g6.trans (g7.trans g8)))) (.nam (g8 _ _ ht7)), ⟨ok, hnm2⟩, ?_, ?_, rfl⟩
    · show e.size + 1 + 1 = _
      omega
    · show max e.deep 1 + 1 = _
      omega
  · obtain ⟨g4, v, e, z4, z5, b, ok, hsz, hdp, rfl⟩ := hP
    exact ⟨_, rfl, q _ v e (g3.trans g4) b ok (by omega) (by omega)⟩
theorem scExprBy : FnScope ["_law_script", "_law_seed", "_law_cell", "_law_room", "_law_word", "_law_code", "_law_expr", "_law_many", "_law_k", "_law_number"] ["_law_script"] (defScope sExprBy) := ⟨rfl, rfl, rfl, by decide +kernel, rfl, by decide +kernel, by decide +kernel⟩
theorem ok_exprBy (d : Df K mg "_law_expr_by" sExprBy ["_law_script"] f fd) (z : Bl mg) (d_cellAt : Df K mg "_law_cell_at" sCellAt ["_law_script", "_law_k"] f1 fd1) (d_treeBy : Df K mg "_law_tree_by" sTreeBy ["_law_cells", "_law_seed"] f2 fd2) (d_step : Df K mg "_law_step" sStep ["_law_pile", "_law_kind", "_law_more", "_law_seed"] f3 fd3)
    (d_nameBy : Df K mg "_law_name_by" sNameBy ["_law_seed", "_law_k"] f4 fd4) (d_numBy : Df K mg "_law_number_by" sNumBy ["_law_cell"] f5 fd5) (d_manyBy : Df K mg "_law_many_by" sManyBy ["_law_seed", "_law_cell"] f6 fd6) (d_link : Df K mg "_law_link" sLink ["_law_word", "_law_code"] f7 fd7) :
    FnOk P w K mg base CX0 4 f fd ["_law_script"] (spExprBy K) := by
  refine d.F.ok scExprBy (fun vs H Q E h => ?_) (fun cdv A outer s H vs Q E hr h => ?_)
  · obtain ⟨a, ms, rfl, _⟩ := h
    rfl
  obtain ⟨a, ms, rfl, hS, hnn, h63, q⟩ := h
  have G_cellAt := ok_cellAt (P := P) (w := w) (base := base) d_cellAt z
  have G_treeBy := ok_treeBy (P := P) (w := w) (base := base) d_treeBy z d_step d_nameBy d_numBy
  have G_nameBy := ok_nameBy (P := P) (w := w) (base := base) d_nameBy z
  have G_numBy := ok_numBy (P := P) (w := w) (base := base) d_numBy
  have G_manyBy := ok_manyBy (P := P) (w := w) (base := base) d_manyBy z d_nameBy
  have G_link := ok_link (P := P) (w := w) (base := base) d_link
  refine ⟨_, (pss_cons (ps_set (i := 1) scExprBy.nd rfl (.inl rfl) (pe_call G_cellAt (hr.mono (by omega)) (by rfl) d_cellAt.m d_cellAt.k d_cellAt.b .nil pass0 (pa_cons (pv 0) (pa_cons pe_int pa_nil))))
    (pss_cons (ps_set (i := 2) scExprBy.nd rfl (.inl rfl) (pe_call G_cellAt (hr.mono (by omega)) (by rfl) d_cellAt.m d_cellAt.k d_cellAt.b .nil pass0 (pa_cons (pv 0) (pa_cons pe_int pa_nil))))
    (pss_cons (ps_set (i := 3) scExprBy.nd rfl (.inl rfl) pe_int)
    (pss_cons (ps_if (pt_cmpR op_eq (pe_op op_mod (pe_op op_fdiv (pv 2) pe_int) pe_int) pe_int (nomark _)) (pss_one (ps_set (i := 3) scExprBy.nd rfl (.inl rfl) pe_int)) pss_nil)
    (pss_cons (ps_if (pt_cmpR op_lt (pe_op op_mod (pv 2) pe_int) pe_int (nomark _)) (pss_one (ps_ret (pe_call G_treeBy (hr.mono (by omega)) (by rfl) d_treeBy.m d_treeBy.k d_treeBy.b .nil pass0 (pa_cons (pe_slice sl_list (pv 0) (po_some pe_int) (po_some (pe_op op_add pe_int (pv 3)))) (pa_cons (pv 1) pa_nil))))) pss_nil)
    (pss_cons (ps_if (pt_cmpR op_eq (pe_op op_mod (pv 2) pe_int) pe_int (nomark _)) (pss_one (ps_ret (pe_call G_manyBy (hr.mono (by omega)) (by rfl) d_manyBy.m d_manyBy.k d_manyBy.b .nil pass0 (pa_cons (pv 1) (pa_cons (pe_op op_fdiv (pv 2) pe_int) pa_nil))))) pss_nil)
    (pss_cons (ps_set (i := 4) scExprBy.nd rfl (.inl rfl) (pe_ix ix_list (pe_lst (pa_cons pe_str (pa_cons pe_str (pa_cons pe_str (pa_cons pe_str (pa_cons pe_str (pa_cons pe_str (pa_cons pe_str pa_nil)))))))) (pe_op op_mod (pe_op op_fdiv (pv 2) pe_int) pe_int) (fun _ _ => rfl)))
    (pss_cons (ps_set (i := 5) scExprBy.nd rfl (.inl rfl) (pe_op op_fdiv (pv 2) pe_int))
    (pss_cons (ps_set (i := 6) scExprBy.nd rfl (.inl rfl) (pe_tup (pa_cons pe_str (pa_cons (pe_call G_nameBy (hr.mono (by omega)) (by rfl) d_nameBy.m d_nameBy.k d_nameBy.b .nil pass0 (pa_cons (pv 1) (pa_cons pe_int pa_nil))) pa_nil))))
    (pss_cons (ps_if (pt_cmpR op_eq (pe_op op_mod (pe_op op_fdiv (pv 2) pe_int) pe_int) pe_int (nomark _)) (pss_one (ps_set (i := 6) scExprBy.nd rfl (.inl rfl) (pe_call G_treeBy (hr.mono (by omega)) (by rfl) d_treeBy.m d_treeBy.k d_treeBy.b .nil pass0 (pa_cons (pe_slice sl_list (pv 0) (po_some pe_int) (po_some pe_int)) (pa_cons (pv 1) pa_nil))))) pss_nil)
    (pss_cons (ps_if (PW.pt (pw_and (pt_cmpR op_eq (pe_op op_mod (pe_op op_fdiv (pv 2) pe_int) pe_int) pe_int (nomark _)) (pw_and1 (PW.pt (pw_or (pt_cmpR op_eq (pv 4) pe_str (nomark _)) (pw_or1 (pt_cmpR op_eq (pv 4) pe_str (nomark _)))))))) (pss_one (ps_set (i := 6) scExprBy.nd rfl (.inl rfl) (pe_tup (pa_cons pe_str (pa_cons (pe_tup (pa_cons pe_str (pa_cons (pe_call G_link (hr.mono (by omega)) (by rfl) d_link.m d_link.k d_link.b .nil pass0 (pa_cons (pv 4) (pa_cons (pe_op op_fdiv (pv 5) pe_int) pa_nil))) pa_nil))) (pa_cons (pv 6) pa_nil)))))) pss_nil)
    (pss_cons (ps_set (i := 7) scExprBy.nd rfl (.inl rfl) (pe_op op_mod (pe_op op_fdiv (pv 2) pe_int) (pe_op op_add pe_int (pe_op op_mul pe_int (pe_callTy call_int1 (by rfl) z.int (by decide +kernel) (pa_cons (pe_cmpR op_eq (pe_ix ix_tup (pv 6) pe_int (fun _ _ => rfl)) pe_str (nomark _)) pa_nil))))))
    (pss_cons (ps_if (pt_cmpR op_eq (pe_op op_mod (pe_op op_fdiv (pv 2) pe_int) pe_int) pe_int (nomark _)) (pss_one (ps_set (i := 7) scExprBy.nd rfl (.inl rfl) (pe_op op_add pe_int (pe_op op_mod (pv 7) pe_int)))) pss_nil)
    (pss_cons (ps_for PassesOwn.never rfl (pi_range1 (by rfl) z.range (pa_cons (pv 7) pa_nil)) (pg_name (i := 8) scExprBy.nd rfl (.inl rfl)) (pss_cons (ps_set (i := 9) scExprBy.nd rfl (.inl rfl) (pe_call G_link (hr.mono (by omega)) (by rfl) d_link.m d_link.k d_link.b .nil pass0 (pa_cons (pv 4) (pa_cons (pe_op op_add (pe_op op_fdiv (pv 5) pe_int) (pe_op op_mul (pv 8) (pe_op op_add pe_int (pe_op op_mod (pv 5) pe_int)))) pa_nil))))
    (pss_cons (ps_if (pt_cmpR op_eq (pe_op op_mod (pe_op op_fdiv (pv 5) pe_int) pe_int) pe_int (nomark _)) (pss_one (ps_set (i := 9) scExprBy.nd rfl (.inl rfl) (pe_call G_numBy (hr.mono (by omega)) (by rfl) d_numBy.m d_numBy.k d_numBy.b .nil pass0 (pa_cons (pe_op op_add (pe_op op_fdiv (pv 5) pe_int) (pe_op op_mul (pv 8) (pe_op op_add pe_int (pe_op op_mod (pv 5) pe_int)))) pa_nil)))) pss_nil)
    (pss_one (ps_if (PW.pt (pw_and (pt_cmpR op_eq (pe_op op_mod (pe_op op_fdiv (pv 5) pe_int) pe_int) pe_int (nomark _)) (pw_and1 (pt_cmpR op_gt (pe_op op_mod (pe_op op_add (pe_op op_fdiv (pv 5) pe_int) (pv 8)) pe_int) pe_int (nomark _))))) (pss_one (ps_set (i := 6) scExprBy.nd rfl (.inl rfl) (pe_tup (pa_cons (pv 4) (pa_cons (pe_tup (pa_cons pe_str (pa_cons (pv 9) pa_nil))) (pa_cons (pv 6) pa_nil)))))) (pss_one (ps_set (i := 6) scExprBy.nd rfl (.inl rfl) (pe_tup (pa_cons (pv 4) (pa_cons (pv 6) (pa_cons (pe_tup (pa_cons pe_str (pa_cons (pv 9) pa_nil))) pa_nil)))))))))))
    (pss_one (ps_ret (pv 6))))))))))))))))), ?_⟩
  refine ⟨_, rfl, a, ms, 0, rfl, hS, (by decide), hnn, fun seed hs0 => ?_⟩
  refine ⟨_, rfl, a, ms, 1, rfl, hS, (by decide), hnn, fun c hc0 => ?_⟩
  dsimp only [gName]
  refine seq_asg_c ?_
  refine if_set (i := 3) True (fun w H' => H' = H ∧ ∃ r : Int, w = .int r ∧ 0 ≤ r ∧ r ≤ 48) (.int 26) ⟨rfl, 26, rfl, by decide, by decide⟩ rfl (fun Q k1 k2 => ⟨_, rfl, _, _, rfl, rfl, ⟨by decide, by decide⟩, _, _, rfl, rfl, (show (0 : Int) < 4 by decide), rfl, _, rfl, any_b (k1 trivial) k2⟩)
    (fun _ Q k => k _ _ ⟨rfl, 48, rfl, by decide, by decide⟩) (fun w H1 hw => ?_)
  obtain ⟨rfl, r, rfl, hr0, hr48⟩ := hw
  refine if_two True (fun Q k1 k2 => ⟨_, rfl, _, _, rfl, rfl, (show (0 : Int) < 8 by decide), _, _, rfl, rfl, _, rfl, any_b (k1 trivial) k2⟩) (fun _ => ?_) ?_
  · obtain ⟨ms', e1, e2, e3⟩ := cut_ints ms 2 (2 + r) (by decide) (by omega)
    refine ⟨_, rfl, _, rfl, _, rfl, _, _, rfl, rfl, _, rfl, a, _, rfl, hS, fun p1 hp1 => ?_⟩
    refine ⟨_, rfl, p1, ms', seed, rfl, .inl (.inl (by rw [upd_same, e1])), fun m hm => hnn m (e2 m hm), by omega, hs0, fun H3 v e g3 b ok hsz hdp => ?_⟩
    exact q H3 v e ((same_new hp1 _).trans g3) b ok (by omega) (by omega)
  dsimp only [tNext]
  refine if_two True (fun Q k1 k2 => ⟨_, rfl, _, _, rfl, rfl, (show (0 : Int) < 8 by decide), rfl, _, rfl, any_b (k1 trivial) k2⟩) (fun _ => ?_) ?_
  · refine ⟨_, rfl, _, rfl, _, _, rfl, rfl, ⟨by decide, by decide⟩, seed, c / 8, rfl, hs0, Int.ediv_nonneg hc0 (by decide), fun H3 v e g3 b ok hsz hdp => ?_⟩
    exact q H3 v e g3 b ok (by omega) (by omega)
  dsimp only [tNext]
  obtain ⟨v, hv, hmem⟩ := at_modA (xs := [V.str "sum", .str "less", .str "times", .str "part", .str "rest", .str "part", .str "rest"]) (m := c / 8) 7 rfl (by decide)
  have ho : ∃ o : Op, v = .str o.str := by
    simp only [List.mem_cons, List.mem_nil_iff, or_false] at hmem
    rcases hmem with rfl | rfl | rfl | rfl | rfl | rfl | rfl
    · exact ⟨.sum, rfl⟩
    · exact ⟨.less, rfl⟩
    · exact ⟨.times, rfl⟩
    · exact ⟨.part, rfl⟩
    · exact ⟨.rest, rfl⟩
    · exact ⟨.part, rfl⟩
    · exact ⟨.rest, rfl⟩
  obtain ⟨o, rfl⟩ := ho
  refine ⟨(by show 7 ≤ sizeLine; decide), fun pw hpw => ?_⟩
  refine ⟨_, rfl, _, _, rfl, rfl, ⟨by decide, by decide⟩, _, _, rfl, rfl, (show (0 : Int) < 7 by decide), pw, _, _, _, rfl, rfl, .inl (.inl upd_same), hv, ?_⟩
  have g1 := same_new hpw (.lst [V.str "sum", .str "less", .str "times", .str "part", .str "rest", .str "part", .str "rest"])
  refine ⟨_, rfl, _, _, rfl, rfl, ⟨by decide, by decide⟩, ?_⟩
  have hcode : 0 ≤ c / 20160 := Int.ediv_nonneg hc0 (by decide)
  refine ⟨_, rfl, seed, 3, rfl, hs0, (by decide), (by decide), fun H2 nm g2' hnm => ?_⟩
  refine ⟨(by show 2 ≤ sizeLine; decide), fun t0 ht0 => ?_⟩
  have g3 := g1.trans (g2'.trans (same_new ht0 (.tup [.str "name", .str nm])))
  have ht3 : upd H2 t0 (.tup [.str "name", .str nm]) t0 = some (.tup [.str "name", .str nm]) := upd_same
  generalize upd H2 t0 (.tup [.str "name", .str nm]) = H3 at g3 ht3 ⊢
  dsimp only [gName]
  refine if_set (i := 6) True (fun w H' => Same H1 H' ∧ ∃ e : Ex, Bears H' w e ∧ e.ok ∧ e.size ≤ 40 ∧ e.deep ≤ 10) (.ref t0) ⟨g3, .nam nm, .nam ht3, hnm, (show 1 ≤ 40 by decide), (show 1 ≤ 10 by decide)⟩ rfl (fun Q k1 k2 => ⟨_, rfl, _, _, rfl, rfl, ⟨by decide, by decide⟩, _, _, rfl, rfl, (show (0 : Int) < 3 by decide), rfl, _, rfl, any_b (k1 trivial) k2⟩)
    (fun _ Q k => ?_) (fun w H4 hw => ?_)
  · obtain ⟨ms', e1, e2, e3⟩ := cut_ints ms 2 8 (by decide) (by decide)
    refine ⟨_, rfl, _, rfl, _, rfl, a, _, rfl, g3.seq hS, fun p1 hp1 => ?_⟩
    refine ⟨_, rfl, p1, ms', seed, rfl, .inl (.inl (by rw [upd_same, e1])), fun m hm => hnn m (e2 m hm), by omega, hs0, fun H5 v e g5 b ok hsz hdp => ?_⟩
    have e3' : ms'.length ≤ min 8 ms.length - min 2 ms.length := e3
    exact k _ _ ⟨g3.trans ((same_new hp1 _).trans g5), e, b, ok, by omega, by omega⟩
  obtain ⟨g4, e4, b4, ok4, sz4, dp4⟩ := hw
  refine if_set (i := 6) True (fun w H' => Same H1 H' ∧ ∃ e : Ex, Bears H' w e ∧ e.ok ∧ e.size ≤ 50 ∧ e.deep ≤ 11) w ⟨g4, e4, b4, ok4, by omega, by omega⟩ rfl (fun Q k1 k2 => ?_) (fun _ Q k => ?_) (fun w5 H5 hw => ?_)
  · refine ⟨_, rfl, _, _, rfl, rfl, ⟨by decide, by decide⟩, _, _, rfl, rfl, (show (0 : Int) < 3 by decide), rfl, _, rfl, ite2 (fun _ => ?_) (fun _ => k2)⟩
    exact ⟨_, rfl, rfl, _, rfl, ite2 (fun _ => k1 trivial) (fun _ => ⟨_, rfl, rfl, _, rfl, any_b (k1 trivial) k2⟩)⟩
  · refine ⟨_, rfl, _, rfl, _, _, rfl, rfl, ⟨by decide, by decide⟩, o.str, _, rfl, fun H5 n g5 hn => ?_⟩
    refine ⟨(by show 2 ≤ sizeLine; decide), fun t1 ht1 => ?_⟩
    have g6 := same_new ht1 (.tup [.str "num", .int n])
    have ht6 : upd H5 t1 (.tup [.str "num", .int n]) t1 = some (.tup [.str "num", .int n]) := upd_same
    generalize upd H5 t1 (.tup [.str "num", .int n]) = H6 at g6 ht6 ⊢
    refine ⟨_, rfl, (by show 3 ≤ sizeLine; decide), fun t2 ht2 => new_h ht2 fun H7 g7 ht7 => ?_⟩
    refine k _ _ ⟨g4.trans (g5.trans (g6.trans g7)), .two .less (.num n) e4, .two ht7 (.num (g7 _ _ ht6)) (b4.mono (Tups.of (g5.trans (g6.trans g7)))), ⟨hn, ok4⟩, ?_, ?_⟩
    · show 1 + e4.size + 1 ≤ 50
      omega
    · show max 1 e4.deep + 1 ≤ 11
      omega
  obtain ⟨g5, e5, b5, ok5, sz5, dp5⟩ := hw
  obtain ⟨ae, xe, rfl, he⟩ := b5.first
  have mp := many_pos (decide (V.str e5.word = V.str "name"))
  have ml := many_le (decide (V.str e5.word = V.str "name"))
  have hM0 := Int.emod_nonneg (c / 168) (show (30 + 30 * (if decide (V.str e5.word = V.str "name") = true then 1 else 0) : Int) ≠ 0 by omega)
  have hM1 := Int.emod_lt_of_pos (c / 168) mp
  have hMd : c / 168 % (30 + 30 * (if decide (V.str e5.word = V.str "name") = true then 1 else 0)) + (e5.deep : Int) ≤ 60 := by
    by_cases hn : e5.word = "name"
    · have hd1 := name_deep hn
      omega
    · have e0 : decide (V.str e5.word = V.str "name") = false := decide_eq_false (fun z => hn (by injection z))
      rw [e0] at hM1 ⊢
      have e30 : (30 + 30 * (if false = true then 1 else 0) : Int) = 30 := by decide
      rw [e30] at hM1 ⊢
      omega
  refine ⟨_, rfl, _, _, rfl, rfl, ⟨by decide, by decide⟩, _, rfl, ae, _, 0, _, rfl, rfl, .inl (.inl he), at_of (j := 0) rfl rfl, rfl, .inr ⟨_, rfl, _, _, rfl, rfl, .inl ⟨by decide, by decide⟩, _, _, rfl, rfl, _, _, rfl, rfl, mp, ?_⟩⟩
  dsimp only [gName]
  refine if_set (i := 7) True (fun w H' => H' = H5 ∧ ∃ n : Int, w = .int n ∧ 0 ≤ n ∧ n + (e5.deep : Int) ≤ 60) (.int _) ⟨rfl, _, rfl, hM0, hMd⟩ rfl (fun Q k1 k2 => ⟨_, rfl, _, _, rfl, rfl, ⟨by decide, by decide⟩, _, _, rfl, rfl, (show (0 : Int) < 2 by decide), rfl, _, rfl, any_b (k1 trivial) k2⟩)
    (fun _ Q k => ?_) (fun w H6 hw => ?_)
  · generalize c / 168 % (30 + 30 * (if decide (V.str e5.word = V.str "name") = true then 1 else 0)) = M at *
    have m4 := Int.emod_nonneg M (show (4 : Int) ≠ 0 by decide)
    have m4' := Int.emod_lt_of_pos M (show (0 : Int) < 4 by decide)
    exact ⟨_, rfl, _, _, rfl, rfl, (show (0 : Int) < 4 by decide), _, _, rfl, rfl, k _ _ ⟨rfl, 1 + M % 4, rfl, by omega, by omega⟩⟩
  obtain ⟨rfl, M, rfl, hMa, hMb⟩ := hw
  refine ⟨_, rfl, _, rfl, (by omega), (by omega), ?_⟩
  refine for_range (lo := 0) (n := M.toNat) (fun i σ H7 => Same H6 H7 ∧ ∃ (v : V) (e : Ex) (z8 z9 : Option V), Bears H7 v e ∧ e.ok ∧ e.size = e5.size + 2 * i ∧ e.deep = e5.deep + i ∧
      σ = [some (.ref a), some (.int seed), some (.int c), some (.int r), some (.str o.str), some (.int (c / 20160)), some v, some (.int M), z8, z9])
    ⟨Same.refl _, _, e5, _, _, b5, ok5, rfl, rfl, rfl⟩ (fun i σ H7 hi hP => ?_) (fun σ H7 hP => ?_)
  · obtain ⟨g7, v, e, z8, z9, b, ok, hsz, hdp, rfl⟩ := hP
    have d_e := Ex.deep_pos e
    have m4 := Int.emod_nonneg (c / 20160) (show (4 : Int) ≠ 0 by decide)
    refine ⟨_, rfl, _, rfl, _, _, rfl, rfl, ⟨by decide, by decide⟩, _, rfl, _, rfl, _, _, rfl, rfl, (show (0 : Int) < 4 by decide), _, _, rfl, rfl, _, _, rfl, rfl, .inl ⟨by omega, by omega⟩, _, _, rfl, rfl, o.str, _, rfl, fun H8 n g8 hn => ?_⟩
    dsimp only [gName]
    refine if_set (i := 9) True (fun w H' => Same H8 H' ∧ ∃ n : Int, w = .int n ∧ NumOk n) (.int n) ⟨Same.refl _, n, rfl, hn⟩ rfl (fun Q k1 k2 => ⟨_, rfl, _, _, rfl, rfl, ⟨by decide, by decide⟩, _, _, rfl, rfl, (show (0 : Int) < 4 by decide), rfl, _, rfl, any_b (k1 trivial) k2⟩)
      (fun _ Q k => ?_) (fun w H9 hw => ?_)
    · refine ⟨_, rfl, _, _, rfl, rfl, ⟨by decide, by decide⟩, _, rfl, _, rfl, _, _, rfl, rfl, (show (0 : Int) < 4 by decide), _, _, rfl, rfl, _, _, rfl, rfl, .inl ⟨by omega, by omega⟩, _, _, rfl, rfl, _, rfl, ?_, fun H9 n9 g9 hn9 => k _ _ ⟨g9, n9, rfl, hn9⟩⟩
      have h1 : 0 ≤ c / 20160 / 144 := Int.ediv_nonneg hcode (by decide)
      have h2 : 0 ≤ (0 + (i : Int)) * (1 + c / 20160 % 4) := Int.mul_nonneg (by omega) (by omega)
      omega
    obtain ⟨g9, n9, rfl, hn9⟩ := hw
    have g79 := g8.trans g9
    refine if_both (fun Q k1 k2 => ?_) ?_ ?_
    · refine ⟨_, rfl, _, _, rfl, rfl, ⟨by decide, by decide⟩, _, _, rfl, rfl, (show (0 : Int) < 4 by decide), rfl, _, rfl, ite2 (fun _ => ?_) (fun _ => k2)⟩
      exact ⟨_, rfl, _, _, rfl, rfl, ⟨by decide, by decide⟩, _, rfl, _, _, rfl, rfl, _, _, rfl, rfl, (show (0 : Int) < 3 by decide), _, _, rfl, rfl, _, rfl, any_b k1 k2⟩
    · refine ⟨_, rfl, _, rfl, (by show 2 ≤ sizeLine; decide), fun t1 ht1 => ?_⟩
      have g10 := same_new ht1 (.tup [.str "num", .int n9])
      have ht10 : upd H9 t1 (.tup [.str "num", .int n9]) t1 = some (.tup [.str "num", .int n9]) := upd_same
      generalize upd H9 t1 (.tup [.str "num", .int n9]) = H10 at g10 ht10 ⊢
      refine ⟨_, rfl, (by show 3 ≤ sizeLine; decide), fun t2 ht2 => new_h ht2 fun H11 g11 ht11 => ?_⟩
      refine ⟨g7.trans (g79.trans (g10.trans g11)), _, .two o (.num n9) e, _, _, .two ht11 (.num (g11 _ _ ht10)) (b.mono (Tups.of (g79.trans (g10.trans g11)))), ⟨hn9, ok⟩, ?_, ?_, rfl⟩
      · show 1 + e.size + 1 = _
        omega
      · show max 1 e.deep + 1 = _
        omega
    · refine ⟨_, rfl, _, rfl, _, rfl, (by show 2 ≤ sizeLine; decide), fun t1 ht1 => new_h ht1 fun H10 g10 ht10 => ?_⟩
      refine ⟨(by show 3 ≤ sizeLine; decide), fun t2 ht2 => new_h ht2 fun H11 g11 ht11 => ?_⟩
      refine ⟨g7.trans (g79.trans (g10.trans g11)), _, .two o e (.num n9), _, _, .two ht11 (b.mono (Tups.of (g79.trans (g10.trans g11)))) (.num (g11 _ _ ht10)), ⟨ok, hn9⟩, ?_, ?_, rfl⟩
      · show e.size + 1 + 1 = _
        omega
      · show max e.deep 1 + 1 = _
        omega
  · obtain ⟨g7, v, e, z8, z9, b, ok, hsz, hdp, rfl⟩ := hP
    have d_e := Ex.deep_pos e
    exact ⟨_, rfl, q _ v e (g5.trans g7) b ok (by omega) (by omega)⟩
theorem scIsName : FnScope ["_law_word", "_law_sign"] ["_law_word"] (defScope s_law_is_name) := ⟨rfl, rfl, rfl, by decide +kernel, rfl, by decide +kernel, by decide +kernel⟩
theorem ok_isName (d : Df K mg "_law_is_name" s_law_is_name ["_law_word"] f fd) (z : Bl2 mg) : FnOk P w K mg base CX0 1 f fd ["_law_word"] spIsName := by
  refine d.F.ok scIsName (fun vs H Q E h => ?_) (fun cdv A outer s H vs Q E hr h => ?_)
  · obtain ⟨x, rfl, _⟩ := h
    rfl
  obtain ⟨x, rfl, ⟨hl1, hl2, hlow⟩, q⟩ := h
  refine ⟨_, (pss_cons (ps_if (PW.pt (pw_or (pt_not (pt_val (pe_callB call_isi (by rfl) z.isi (by decide +kernel) (pa_cons (pv 0) (pa_cons (pe_bltn (by rfl) z.str (by decide +kernel) (v := .ty "str") rfl) pa_nil))))) (pw_or1 (pt_not (pt_chain op_le op_le pe_int (pe_callB call_len_str (by rfl) z.len PySem.boot_len (pa_cons (pv 0) pa_nil)) pe_int))))) (pss_one (ps_ret pe_bl)) pss_nil)
    (pss_cons (ps_for PassesOwn.never rfl (pi_str (pv 0)) (pg_name (i := 1) scIsName.nd rfl (.inl rfl)) (pss_one (ps_if (pt_cmpR op_notIn_sign (pv 1) pe_str rfl) (pss_one (ps_ret pe_bl)) pss_nil)))
    (pss_one (ps_ret pe_bl)))), ?_⟩
  refine ⟨_, rfl, .str x, .ty "str", .type "str", .type "str", true, rfl, .ty _, .base (.str x), kit_ty (by decide +kernel), true, rfl, iteF ?_⟩
  refine ⟨_, rfl, x, rfl, sz (by omega), _, _, rfl, rfl, true, congrArg V.bl (decide_eq_true (by omega)), iteT ⟨_, _, rfl, rfl, true, congrArg V.bl (decide_eq_true (by omega)), iteF ?_⟩⟩
  refine ⟨_, rfl, x, rfl, ?_⟩
  refine for_str (x := x) (fun i σ H2 => H2 = H ∧ ∃ zz, σ = [some (.str x), zz]) ⟨rfl, _, rfl⟩ (fun i c σ H2 hc hP => ?_) (fun σ H2 hP => ?_)
  · obtain ⟨rfl, zz, rfl⟩ := hP
    have hm : c ∈ x.cps.toList := by
      obtain ⟨h1, h2⟩ := Array.getElem?_eq_some_iff.mp hc
      rw [← h2]
      exact Array.mem_toList_iff.mpr (Array.getElem_mem h1)
    exact ⟨_, rfl, c, signs, rfl, rfl, false, congrArg V.bl (sign_in (hlow c hm)), iteF ⟨rfl, _, rfl⟩⟩
  · obtain ⟨rfl, zz, rfl⟩ := hP
    exact q
theorem scIsExpr : FnScope ["_law_expr", "_law_rest", "_law_one"] ["_law_expr"] (defScope s_law_is_expr) := ⟨rfl, rfl, rfl, by decide +kernel, rfl, by decide +kernel, by decide +kernel⟩
theorem ok_isExpr (n : Nat) (d_isExpr : Df K mg "_law_is_expr" s_law_is_expr ["_law_expr"] f fd) (z : Bl2 mg) (d_isName : Df K mg "_law_is_name" s_law_is_name ["_law_word"] f1 fd1) (d_whole : Df K mg "_law_whole" sWhole ["_law_found"] f2 fd2) (G_isExpr : FnOk P w K mg base CX0 (n + 1) f fd ["_law_expr"] (spIsExpr n)) :
    FnOk P w K mg base CX0 (n + 2) f fd ["_law_expr"] (spIsExpr (n + 1)) := by
  refine d_isExpr.F.ok scIsExpr (fun vs H Q E h => ?_) (fun cdv A outer s H vs Q E hr h => ?_)
  · obtain ⟨v, e, rfl, _⟩ := h
    rfl
  obtain ⟨v, e, rfl, b, ok, hdp, q⟩ := h
  have G_isName := ok_isName (P := P) (w := w) (base := base) d_isName z
  have G_whole := ok_whole (P := P) (w := w) (base := base) d_whole z.toBl
  refine ⟨_, (pss_cons (ps_if (PW.pt (pw_or (pt_not (pt_val (pe_callB call_isi (by rfl) z.isi (by decide +kernel) (pa_cons (pv 0) (pa_cons (pe_bltn (by rfl) z.tuple (by decide +kernel) (v := .ty "tuple") rfl) pa_nil))))) (pw_or (pt_cmpR op_lt (pe_callB call_len_seq (by rfl) z.len PySem.boot_len (pa_cons (pv 0) pa_nil)) pe_int (nomark _)) (pw_or1 (pt_not (pt_val (pe_callB call_isi (by rfl) z.isi (by decide +kernel) (pa_cons (pe_ix ix_tup (pv 0) pe_int (fun _ _ => rfl)) (pa_cons (pe_bltn (by rfl) z.str (by decide +kernel) (v := .ty "str") rfl) pa_nil))))))))) (pss_one (ps_ret pe_bl)) pss_nil)
    (pss_cons (ps_if (pt_cmpR op_eq (pe_ix ix_tup (pv 0) pe_int (fun _ _ => rfl)) pe_str (nomark _)) (pss_one (ps_ret (pe_and (pe_cmpR op_eq (pe_callB call_len_seq (by rfl) z.len PySem.boot_len (pa_cons (pv 0) pa_nil)) pe_int (nomark _)) (pe_and (pe_call G_whole (hr.mono (by omega)) (by rfl) d_whole.m d_whole.k d_whole.b .nil pass0 (pa_cons (pe_ix ix_tup (pv 0) pe_int (fun _ _ => rfl)) pa_nil)) (pe_one (pe_chain op_le op_le (pe_un un_neg pe_int) (pe_ix ix_tup (pv 0) pe_int (fun _ _ => rfl)) pe_int)))))) pss_nil)
    (pss_cons (ps_if (pt_cmpR op_eq (pe_ix ix_tup (pv 0) pe_int (fun _ _ => rfl)) pe_str (nomark _)) (pss_one (ps_ret (pe_and (pe_cmpR op_eq (pe_callB call_len_seq (by rfl) z.len PySem.boot_len (pa_cons (pv 0) pa_nil)) pe_int (nomark _)) (pe_one (pe_call G_isName (hr.mono (by omega)) (by rfl) d_isName.m d_isName.k d_isName.b .nil pass0 (pa_cons (pe_ix ix_tup (pv 0) pe_int (fun _ _ => rfl)) pa_nil)))))) pss_nil)
    (pss_cons (ps_set (i := 1) scIsExpr.nd rfl (.inl rfl) (pe_callTy call_list_of (by rfl) z.list (by decide +kernel) (pa_cons (pe_slice sl_tup (pv 0) (po_some pe_int) po_none) pa_nil)))
    (pss_cons (ps_if (pt_cmpR op_eq (pe_ix ix_tup (pv 0) pe_int (fun _ _ => rfl)) pe_str (nomark _)) (pss_cons (ps_if (PW.pt (pw_or (pt_cmpR op_ne (pe_callB call_len_seq (by rfl) z.len PySem.boot_len (pa_cons (pv 0) pa_nil)) pe_int (nomark _)) (pw_or1 (pt_not (pt_val (pe_call G_isName (hr.mono (by omega)) (by rfl) d_isName.m d_isName.k d_isName.b .nil pass0 (pa_cons (pe_ix ix_tup (pv 0) pe_int (fun _ _ => rfl)) pa_nil))))))) (pss_one (ps_ret pe_bl)) pss_nil)
    (pss_one (ps_set (i := 1) scIsExpr.nd rfl (.inl rfl) (pe_callTy call_list_of (by rfl) z.list (by decide +kernel) (pa_cons (pe_slice sl_tup (pv 0) (po_some pe_int) po_none) pa_nil))))) (pss_one (ps_if (pt_cmpR op_eq (pe_ix ix_tup (pv 0) pe_int (fun _ _ => rfl)) pe_str (nomark _)) (pss_one (ps_if (pt_cmpR op_ne (pe_callB call_len_seq (by rfl) z.len PySem.boot_len (pa_cons (pv 0) pa_nil)) pe_int (nomark _)) (pss_one (ps_ret pe_bl)) pss_nil)) (pss_one (ps_if (PW.pt (pw_or (pt_cmpR op_notIn_seq (pe_ix ix_tup (pv 0) pe_int (fun _ _ => rfl)) (pe_lst (pa_cons pe_str (pa_cons pe_str (pa_cons pe_str (pa_cons pe_str (pa_cons pe_str (pa_cons pe_str (pa_cons pe_str pa_nil)))))))) rfl) (pw_or1 (pt_cmpR op_ne (pe_callB call_len_seq (by rfl) z.len PySem.boot_len (pa_cons (pv 0) pa_nil)) pe_int (nomark _))))) (pss_one (ps_ret pe_bl)) pss_nil)))))
    (pss_cons (ps_for PassesOwn.never rfl (pi_list (pv 1)) (pg_name (i := 2) scIsExpr.nd rfl (.inl rfl)) (pss_one (ps_if (pt_not (pt_val (pe_call G_isExpr (hr.mono (by omega)) (by rfl) d_isExpr.m d_isExpr.k d_isExpr.b .nil pass0 (pa_cons (pv 2) pa_nil)))) (pss_one (ps_ret pe_bl)) pss_nil)))
    (pss_one (ps_ret pe_bl)))))))), ?_⟩
  have hkid : ∀ x ∈ e.kids, x.ok ∧ x.deep ≤ n := fun x hx => ⟨Ex.ok_kids ok hx, by have := Ex.deep_kids hx; omega⟩
  cases b with
  | @num a k h =>
    refine ⟨_, rfl, .ref a, .ty "tuple", .type "tuple", .type "tuple", true, rfl, .ty _, .base (.tup h), kit_ty (by decide +kernel), true, rfl, iteF ?_⟩
    refine ⟨_, rfl, a, _, rfl, .inr (.inl (.inl h)), _, _, rfl, rfl, _, rfl, iteF ?_⟩
    refine ⟨_, rfl, a, _, 0, _, rfl, rfl, .inl (.inl h), rfl, .str "num", .ty "str", .type "str", .type "str", true, rfl, .ty _, .base (.str _), kit_ty (by decide +kernel), true, rfl, iteF ?_⟩
    refine ⟨_, rfl, a, _, 0, _, rfl, rfl, .inl (.inl h), rfl, rfl, _, rfl, iteT ?_⟩
    refine ⟨_, rfl, a, _, rfl, .inr (.inl (.inl h)), rfl, _, rfl, iteT ?_⟩
    refine ⟨_, rfl, a, _, 1, _, rfl, rfl, .inl (.inl h), rfl, k, rfl, true, rfl, iteT ?_⟩
    have o1 : -1000000000 ≤ k ∧ k ≤ 1000000000 := ok
    refine ⟨_, rfl, _, rfl, a, _, 1, _, rfl, rfl, .inl (.inl h), rfl, _, _, rfl, rfl, true, congrArg V.bl (decide_eq_true o1.1), iteT ⟨_, _, rfl, rfl, ?_⟩⟩
    show Q (.bl (decide (k ≤ 1000000000))) H
    rw [decide_eq_true o1.2]
    exact q _ (Same.refl _)
  | @nam a x h =>
    refine ⟨_, rfl, .ref a, .ty "tuple", .type "tuple", .type "tuple", true, rfl, .ty _, .base (.tup h), kit_ty (by decide +kernel), true, rfl, iteF ?_⟩
    refine ⟨_, rfl, a, _, rfl, .inr (.inl (.inl h)), _, _, rfl, rfl, _, rfl, iteF ?_⟩
    refine ⟨_, rfl, a, _, 0, _, rfl, rfl, .inl (.inl h), rfl, .str "name", .ty "str", .type "str", .type "str", true, rfl, .ty _, .base (.str _), kit_ty (by decide +kernel), true, rfl, iteF ?_⟩
    refine ⟨_, rfl, a, _, 0, _, rfl, rfl, .inl (.inl h), rfl, rfl, _, rfl, iteF ?_⟩
    refine ⟨_, rfl, a, _, 0, _, rfl, rfl, .inl (.inl h), rfl, rfl, _, rfl, iteT ?_⟩
    refine ⟨_, rfl, a, _, rfl, .inr (.inl (.inl h)), rfl, _, rfl, iteT ?_⟩
    exact ⟨_, rfl, a, _, 1, _, rfl, rfl, .inl (.inl h), rfl, x, rfl, ok, q _ (Same.refl _)⟩
  | @two a o v1 v2 e1 e2 h b1 b2 =>
    refine ⟨_, rfl, .ref a, .ty "tuple", .type "tuple", .type "tuple", true, rfl, .ty _, .base (.tup h), kit_ty (by decide +kernel), true, rfl, iteF ?_⟩
    refine ⟨_, rfl, a, _, rfl, .inr (.inl (.inl h)), _, _, rfl, rfl, _, rfl, iteF ?_⟩
    refine ⟨_, rfl, a, _, 0, _, rfl, rfl, .inl (.inl h), rfl, .str o.str, .ty "str", .type "str", .type "str", true, rfl, .ty _, .base (.str _), kit_ty (by decide +kernel), true, rfl, iteF ?_⟩
    refine ⟨_, rfl, a, _, 0, _, rfl, rfl, .inl (.inl h), rfl, rfl, false, congrArg V.bl (op_num o), iteF ?_⟩
    refine ⟨_, rfl, a, _, 0, _, rfl, rfl, .inl (.inl h), rfl, rfl, false, congrArg V.bl (op_name o), iteF ?_⟩
    refine ⟨_, rfl, _, rfl, a, _, rfl, .inl (.inl h), (by intro z; cases z.1), fun p hp => ?_⟩
    have g1 := same_new hp (.tup [v1, v2])
    refine ⟨p, [v1, v2], rfl, .inr (.inl (.inl upd_same)), fun l hl => ?_⟩
    have g2 := g1.trans (same_new hl (.lst [v1, v2]))
    refine ⟨_, rfl, a, _, 0, _, rfl, rfl, .inl (.inl (g2 _ _ h)), rfl, rfl, false, congrArg V.bl (op_let o), iteF ?_⟩
    refine ⟨_, rfl, a, _, 0, _, rfl, rfl, .inl (.inl (g2 _ _ h)), rfl, rfl, false, congrArg V.bl (op_when o), iteF ?_⟩
    refine ⟨_, rfl, a, _, 0, _, rfl, rfl, .inl (.inl (g2 _ _ h)), rfl, (by show 7 ≤ sizeLine; decide), fun l2 hl2 => ?_⟩
    have g3 := g2.trans (same_new hl2 (.lst [.str "sum", .str "less", .str "times", .str "part", .str "rest", .str "below", .str "same"]))
    refine ⟨l2, _, rfl, .inl (.inl (.inl upd_same)), rfl, rfl, false, congrArg V.bl (op_notin7 o), iteF ?_⟩
    refine ⟨_, rfl, a, _, rfl, .inr (.inl (.inl (g3 _ _ h))), rfl, _, rfl, iteF ?_⟩
    exact kids_loop (es := [e1, e2]) rfl (same_new hl2 _ _ _ upd_same) (.cons (b1.mono (Tups.of g3)) (.cons (b2.mono (Tups.of g3)) .nil)) hkid rfl fun H' g4 => q H' (g3.trans g4)
  | @whn a v0 v1 v2 e0 e1 e2 h b0 b1 b2 =>
    refine ⟨_, rfl, .ref a, .ty "tuple", .type "tuple", .type "tuple", true, rfl, .ty _, .base (.tup h), kit_ty (by decide +kernel), true, rfl, iteF ?_⟩
    refine ⟨_, rfl, a, _, rfl, .inr (.inl (.inl h)), _, _, rfl, rfl, _, rfl, iteF ?_⟩
    refine ⟨_, rfl, a, _, 0, _, rfl, rfl, .inl (.inl h), rfl, .str "when", .ty "str", .type "str", .type "str", true, rfl, .ty _, .base (.str _), kit_ty (by decide +kernel), true, rfl, iteF ?_⟩
    refine ⟨_, rfl, a, _, 0, _, rfl, rfl, .inl (.inl h), rfl, rfl, _, rfl, iteF ?_⟩
    refine ⟨_, rfl, a, _, 0, _, rfl, rfl, .inl (.inl h), rfl, rfl, _, rfl, iteF ?_⟩
    refine ⟨_, rfl, _, rfl, a, _, rfl, .inl (.inl h), (by intro z; cases z.1), fun p hp => ?_⟩
    have g1 := same_new hp (.tup [v0, v1, v2])
    refine ⟨p, [v0, v1, v2], rfl, .inr (.inl (.inl upd_same)), fun l hl => ?_⟩
    have g2 := g1.trans (same_new hl (.lst [v0, v1, v2]))
    refine ⟨_, rfl, a, _, 0, _, rfl, rfl, .inl (.inl (g2 _ _ h)), rfl, rfl, _, rfl, iteF ?_⟩
    refine ⟨_, rfl, a, _, 0, _, rfl, rfl, .inl (.inl (g2 _ _ h)), rfl, rfl, _, rfl, iteT ?_⟩
    refine ⟨_, rfl, a, _, rfl, .inr (.inl (.inl (g2 _ _ h))), rfl, _, rfl, iteF ?_⟩
    exact kids_loop (es := [e0, e1, e2]) rfl upd_same (.cons (b0.mono (Tups.of g2)) (.cons (b1.mono (Tups.of g2)) (.cons (b2.mono (Tups.of g2)) .nil))) hkid rfl fun H' g4 => q H' (g2.trans g4)
  | @lett a x v1 v2 e1 e2 h b1 b2 =>
    refine ⟨_, rfl, .ref a, .ty "tuple", .type "tuple", .type "tuple", true, rfl, .ty _, .base (.tup h), kit_ty (by decide +kernel), true, rfl, iteF ?_⟩
    refine ⟨_, rfl, a, _, rfl, .inr (.inl (.inl h)), _, _, rfl, rfl, _, rfl, iteF ?_⟩
    refine ⟨_, rfl, a, _, 0, _, rfl, rfl, .inl (.inl h), rfl, .str "let", .ty "str", .type "str", .type "str", true, rfl, .ty _, .base (.str _), kit_ty (by decide +kernel), true, rfl, iteF ?_⟩
    refine ⟨_, rfl, a, _, 0, _, rfl, rfl, .inl (.inl h), rfl, rfl, _, rfl, iteF ?_⟩
    refine ⟨_, rfl, a, _, 0, _, rfl, rfl, .inl (.inl h), rfl, rfl, _, rfl, iteF ?_⟩
    refine ⟨_, rfl, _, rfl, a, _, rfl, .inl (.inl h), (by intro z; cases z.1), fun p hp => ?_⟩
    have g1 := same_new hp (.tup [.str x, v1, v2])
    refine ⟨p, [.str x, v1, v2], rfl, .inr (.inl (.inl upd_same)), fun l hl => ?_⟩
    have g2 := g1.trans (same_new hl (.lst [.str x, v1, v2]))
    refine ⟨_, rfl, a, _, 0, _, rfl, rfl, .inl (.inl (g2 _ _ h)), rfl, rfl, _, rfl, iteT ?_⟩
    refine ⟨_, rfl, a, _, rfl, .inr (.inl (.inl (g2 _ _ h))), rfl, _, rfl, iteF ?_⟩
    refine ⟨_, rfl, a, _, 1, _, rfl, rfl, .inl (.inl (g2 _ _ h)), rfl, x, rfl, ok.1, true, rfl, iteF ?_⟩
    refine ⟨_, rfl, _, rfl, a, _, rfl, .inl (.inl (g2 _ _ h)), (by intro z; cases z.1), fun p2 hp2 => ?_⟩
    have g3 := g2.trans (same_new hp2 (.tup [v1, v2]))
    refine ⟨p2, [v1, v2], rfl, .inr (.inl (.inl upd_same)), fun l2 hl2 => ?_⟩
    have g4 := g3.trans (same_new hl2 (.lst [v1, v2]))
    exact kids_loop (es := [e1, e2]) rfl upd_same (.cons (b1.mono (Tups.of g4)) (.cons (b2.mono (Tups.of g4)) .nil)) hkid rfl fun H' g5 => q H' (g4.trans g5)
theorem all_isExpr (d : Df K mg "_law_is_expr" s_law_is_expr ["_law_expr"] f fd) (z : Bl2 mg) (d1 : Df K mg "_law_is_name" s_law_is_name ["_law_word"] f1 fd1) (d2 : Df K mg "_law_whole" sWhole ["_law_found"] f2 fd2) : ∀ n, FnOk P w K mg base CX0 (n + 1) f fd ["_law_expr"] (spIsExpr n)
  | 0 => spIsExpr0.mono (Nat.zero_le _)
  | n + 1 => ok_isExpr n d z d1 d2 (all_isExpr d z d1 d2 n)
end
end FC
/-! a text written and read: mirrors over the lists of signs -/
namespace FC
open PySem L2 StX PyProof.Rows
open TL (tl)
/-! ### an expression's text -/
def addT (l p : Str) : Str := (l ++ (" " : Str)) ++ p
def bracket (w : Str) (ps : List Str) : Str := ps.foldl addT ("(" ++ w) ++ (")" : Str)
def txt : Ex → Str
  | .num n => toString n
  | .nam x => x
  | .two o a b => bracket o.str [txt a, txt b]
  | .whn c a b => bracket "when" [txt c, txt a, txt b]
  | .lett x a b => bracket "let" [x, txt a, txt b]
theorem len_addT (l p : Str) : (addT l p).length = l.length + 1 + p.length := by
  unfold addT
  rw [app_len, app_len]
  rfl
theorem num_len {n : Int} (h : NumOk n) : (toString n : Str).length ≤ 11 := by
  have h1 : n.natAbs < 10 ^ 10 := by have h2 := h.1; have h3 := h.2; omega
  have h4 := int_text_length_le10 (k := 10) (by decide) h1
  rw [PySem.ofString_length]
  omega
theorem op_len (o : Op) : o.str.length ≤ 5 := by cases o <;> decide +kernel
theorem txt_len : ∀ e : Ex, e.ok → (txt e).length ≤ 20 * e.size
  | .num n, h => Nat.le_trans (num_len h) (show 11 ≤ 20 * 1 by decide)
  | .nam x, h => Nat.le_trans h.2.1 (show 8 ≤ 20 * 1 by decide)
  | .two o a b, h => by
    have h1 := txt_len a h.1
    have h2 := txt_len b h.2
    have h3 := op_len o
    show (bracket o.str [txt a, txt b]).length ≤ 20 * (a.size + b.size + 1)
    unfold bracket
    rw [app_len]
    simp only [List.foldl_cons, List.foldl_nil, len_addT, app_len]
    have e1 : ("(" : Str).length = 1 := by decide +kernel
    have e2 : (")" : Str).length = 1 := by decide +kernel
    omega
  | .whn c a b, h => by
    have h0 := txt_len c h.1
    have h1 := txt_len a h.2.1
    have h2 := txt_len b h.2.2
    show (bracket "when" [txt c, txt a, txt b]).length ≤ 20 * (c.size + a.size + b.size + 1)
    unfold bracket
    rw [app_len]
    simp only [List.foldl_cons, List.foldl_nil, len_addT, app_len]
    have e1 : ("(" : Str).length = 1 := by decide +kernel
    have e2 : (")" : Str).length = 1 := by decide +kernel
    have e3 : ("when" : Str).length = 4 := by decide +kernel
    omega
  | .lett x a b, h => by
    have h1 := txt_len a h.2.1
    have h2 := txt_len b h.2.2
    have h3 : x.length ≤ 8 := h.1.2.1
    show (bracket "let" [x, txt a, txt b]).length ≤ 20 * (a.size + b.size + 1)
    unfold bracket
    rw [app_len]
    simp only [List.foldl_cons, List.foldl_nil, len_addT, app_len]
    have e1 : ("(" : Str).length = 1 := by decide +kernel
    have e2 : (")" : Str).length = 1 := by decide +kernel
    have e3 : ("let" : Str).length = 3 := by decide +kernel
    omega

/-! ### a text read -/
def sepC (c : Nat) : Bool := c == 32 || c == 40 || c == 41
/-- the signs up to a blank, a bracket or the end; and what stands behind -/
def wrd (l : List Nat) : List Nat := l.takeWhile (fun c => !sepC c)
def aft (l : List Nat) : List Nat := l.dropWhile (fun c => !sepC c)
theorem wrd_aft (l : List Nat) : wrd l ++ aft l = l := List.takeWhile_append_dropWhile
def lowC (c : Nat) : Bool := decide (97 ≤ c) && decide (c ≤ 122)
def digC (c : Nat) : Bool := decide (48 ≤ c) && decide (c ≤ 57)
def nameB (w : List Nat) : Bool := decide (1 ≤ w.length) && decide (w.length ≤ 8) && w.all lowC
def figs : List Nat → List Nat
  | 45 :: r => r
  | l => l
def valI : List Nat → Int
  | 45 :: r => -((NumText.digitsVal r : Nat) : Int)
  | l => ((NumText.digitsVal l : Nat) : Int)
/-- the number that a piece writes -/
def numE (w : List Nat) : Option Int :=
  if 1 ≤ (figs w).length ∧ (figs w).length ≤ 10 ∧ (figs w).all digC = true ∧ NumOk (valI w) ∧ tl (Str.ofString (toString (valI w))) = w then some (valI w) else none
def atomE (w : List Nat) : Option Ex :=
  if w.head?.any lowC = true then (if nameB w = true then some (.nam ⟨w.toArray⟩) else none)
  else (numE w).map .num
def opOf (w : List Nat) : Option Op :=
  if w = tl "sum" then some .sum else if w = tl "less" then some .less else if w = tl "times" then some .times else if w = tl "part" then some .part else if w = tl "rest" then some .rest
  else if w = tl "below" then some .below else if w = tl "same" then some .same else none
/-- the sign c has to stand here -/
def pastC (c : Nat) : List Nat → Option (List Nat)
  | d :: r => if d = c then some r else none
  | [] => none
inductive Hd where
  | two (o : Op)
  | whn
  | lett (x : Str)
def Hd.str : Hd → Str
  | .two o => o.str
  | .whn => "when"
  | .lett _ => "let"
def Hd.vals : Hd → List V
  | .two o => [.str o.str]
  | .whn => [.str "when"]
  | .lett x => [.str "let", .str x]
def Hd.nam : Hd → List Nat
  | .lett x => 32 :: tl x
  | _ => []
def Hd.cnt : Hd → Nat
  | .whn => 3
  | _ => 2
def Hd.mk : Hd → List Ex → Option Ex
  | .two o, [a, b] => some (.two o a b)
  | .whn, [c, a, b] => some (.whn c a b)
  | .lett x, [a, b] => some (.lett x a b)
  | _, _ => none
/-- the word at a bracket's head, with its name -/
def headE (l : List Nat) : Option (Hd × List Nat) :=
  match opOf (wrd l) with
  | some o => some (.two o, aft l)
  | none =>
    if wrd l = tl "when" then some (.whn, aft l)
    else if wrd l = tl "let" then (match pastC 32 (aft l) with
      | some r => if nameB (wrd r) = true then some (.lett ⟨(wrd r).toArray⟩, aft r) else none
      | none => none)
    else none
/-- so many expressions, a blank before each -/
def rdN (f : List Nat → Option (Ex × List Nat)) : Nat → List Nat → Option (List Ex × List Nat)
  | 0, l => some ([], l)
  | k + 1, l => match pastC 32 l with
    | some r => (match f r with
      | some (e, r1) => (match rdN f k r1 with
        | some (es, r2) => some (e :: es, r2)
        | none => none)
      | none => none)
    | none => none
def brkE (f : List Nat → Option (Ex × List Nat)) (l : List Nat) : Option (Ex × List Nat) :=
  match headE l with
  | some (h, r) => (match rdN f h.cnt r with
    | some (es, r1) => (match pastC 41 r1 with
      | some r2 => (match h.mk es with
        | some e => some (e, r2)
        | none => none)
      | none => none)
    | none => none)
  | none => none
def rdE : Nat → List Nat → Option (Ex × List Nat)
  | 0, _ => none
  | n + 1, l => if l.head? = some 40 then brkE (rdE n) l.tail else match atomE (wrd l) with
    | some e => some (e, aft l)
    | none => none
/-! ### what is written is read again -/
def Stops (l : List Nat) : Prop := l = [] ∨ ∃ c r, l = c :: r ∧ sepC c = true
theorem wrd_app {w l : List Nat} (hw : ∀ c ∈ w, sepC c = false) (hl : Stops l) : wrd (w ++ l) = w ∧ aft (w ++ l) = l := by
  induction w with
  | nil =>
    rcases hl with rfl | ⟨c, r, rfl, hc⟩
    · exact ⟨rfl, rfl⟩
    · constructor
      · show (c :: r).takeWhile (fun c => !sepC c) = []
        simp [hc]
      · show (c :: r).dropWhile (fun c => !sepC c) = c :: r
        simp [hc]
  | cons c w ih =>
    have h1 := hw c List.mem_cons_self
    obtain ⟨i1, i2⟩ := ih fun d hd => hw d (List.mem_cons_of_mem _ hd)
    constructor
    · show (c :: (w ++ l)).takeWhile (fun c => !sepC c) = c :: w
      rw [List.takeWhile_cons, h1]
      exact congrArg (c :: ·) i1
    · show (c :: (w ++ l)).dropWhile (fun c => !sepC c) = l
      rw [List.dropWhile_cons, h1]
      exact i2
theorem low_nosep {c : Nat} (h : lowC c = true) : sepC c = false := by
  unfold lowC at h
  unfold sepC
  simp only [Bool.and_eq_true, decide_eq_true_eq] at h
  simp only [Bool.or_eq_false_iff, beq_eq_false_iff_ne]
  omega
theorem dig_nosep {c : Nat} (h : digC c = true) : sepC c = false := by
  unfold digC at h
  unfold sepC
  simp only [Bool.and_eq_true, decide_eq_true_eq] at h
  simp only [Bool.or_eq_false_iff, beq_eq_false_iff_ne]
  omega
theorem dig_nolow {c : Nat} (h : digC c = true) : lowC c = false := by
  unfold digC at h
  unfold lowC
  simp only [Bool.and_eq_true, decide_eq_true_eq] at h
  simp only [Bool.and_eq_false_iff, decide_eq_false_iff_not]
  omega
theorem nameOk_B {x : Str} (h : NameOk x) : nameB (tl x) = true := by
  unfold nameB
  rw [Bool.and_eq_true, Bool.and_eq_true, decide_eq_true_eq, decide_eq_true_eq, List.all_eq_true]
  have e : (tl x).length = x.length := (TL.len_tl x).symm
  exact ⟨⟨by rw [e]; exact h.1, by rw [e]; exact h.2.1⟩, fun c hc => by
    unfold lowC
    rw [Bool.and_eq_true, decide_eq_true_eq, decide_eq_true_eq]
    exact h.2.2 c hc⟩
theorem nameB_ok {w : List Nat} (h : nameB w = true) : NameOk ⟨w.toArray⟩ := by
  unfold nameB at h
  rw [Bool.and_eq_true, Bool.and_eq_true, decide_eq_true_eq, decide_eq_true_eq, List.all_eq_true] at h
  refine ⟨h.1.1, h.1.2, fun c hc => ?_⟩
  have := h.2 c hc
  unfold lowC at this
  rw [Bool.and_eq_true, decide_eq_true_eq, decide_eq_true_eq] at this
  exact this
theorem tl_neg (n : Nat) (h : n ≠ 0) : tl (Str.ofString (toString (-(n : Int)))) = 45 :: TL.numL n := by
  obtain ⟨m, rfl⟩ : ∃ m, n = m + 1 := ⟨n - 1, by omega⟩
  have e : (-((m + 1 : Nat) : Int)) = Int.negSucc m := rfl
  rw [e]
  have e2 : toString (Int.negSucc m) = "-" ++ toString ((m + 1 : Nat)) := rfl
  rw [e2, TL.tl_ofString, String.toList_append, List.map_append]
  have e3 := TL.tl_num (m + 1)
  rw [TL.tl_ofString] at e3
  have e4 : toString (((m + 1 : Nat) : Nat) : Int) = toString (m + 1 : Nat) := rfl
  rw [e4] at e3
  rw [e3]
  rfl
theorem numL_dig (n : Nat) : (TL.numL n).all digC = true := by
  rw [List.all_eq_true]
  intro c hc
  have := TL.numL_digits n c hc
  unfold digC
  rw [Bool.and_eq_true, decide_eq_true_eq, decide_eq_true_eq]
  exact this
theorem figs_dig {l : List Nat} (h : l.all digC = true) : figs l = l ∧ valI l = ((NumText.digitsVal l : Nat) : Int) := by
  cases l with
  | nil => exact ⟨rfl, rfl⟩
  | cons c r =>
    have hc : digC c = true := by
      rw [List.all_cons, Bool.and_eq_true] at h
      exact h.1
    have hne : c ≠ 45 := fun z => by
      rw [z] at hc
      exact absurd hc (by decide)
    constructor
    · unfold figs
      split
      · rename_i e
        cases e
        exact absurd rfl hne
      · rfl
    · unfold valI
      split
      · rename_i e
        cases e
        exact absurd rfl hne
      · rfl
theorem numE_back {n : Int} (h : NumOk n) : numE (tl (Str.ofString (toString n))) = some n ∧ (∀ c ∈ tl (Str.ofString (toString n)), sepC c = false) ∧ (tl (Str.ofString (toString n))).head?.any lowC = false := by
  have key : ∀ m : Nat, m ≤ 1000000000 → 1 ≤ (TL.numL m).length ∧ (TL.numL m).length ≤ 10 := fun m hm =>
    ⟨List.length_pos_iff.mpr (TL.numL_ne m), TL.numL_len (by decide) (by omega)⟩
  have h1 := h.1
  have h2 := h.2
  by_cases h0 : 0 ≤ n
  · obtain ⟨m, rfl⟩ := Int.eq_ofNat_of_zero_le h0
    rw [TL.tl_num]
    have hd := numL_dig m
    obtain ⟨e1, e2⟩ := figs_dig hd
    have hk := key m (by omega)
    refine ⟨?_, fun c hc => dig_nosep (List.all_eq_true.mp hd c hc), ?_⟩
    · unfold numE
      rw [e1, e2, TL.numL_val, if_pos ⟨hk.1, hk.2, hd, h, TL.tl_num m⟩]
    · cases e : TL.numL m with
      | nil => exact absurd e (TL.numL_ne m)
      | cons c r =>
        rw [e] at hd
        exact dig_nolow (List.all_eq_true.mp hd c List.mem_cons_self)
  · obtain ⟨m, rfl⟩ : ∃ m : Nat, n = -(m : Int) := ⟨n.natAbs, by omega⟩
    have hm : m ≠ 0 := by omega
    have ht := tl_neg m hm
    rw [ht]
    have hd := numL_dig m
    have hk := key m (by omega)
    have e1 : figs (45 :: TL.numL m) = TL.numL m := rfl
    have e2 : valI (45 :: TL.numL m) = -(m : Int) := by
      show -((NumText.digitsVal (TL.numL m) : Nat) : Int) = _
      rw [TL.numL_val]
    refine ⟨?_, fun c hc => ?_, rfl⟩
    · unfold numE
      rw [e1, e2, if_pos ⟨hk.1, hk.2, hd, h, ht⟩]
    · rcases List.mem_cons.mp hc with rfl | hc
      · rfl
      · exact dig_nosep (List.all_eq_true.mp hd c hc)
theorem atom_back : ∀ {e : Ex} {l : List Nat}, e.ok → (∀ o a b, e ≠ .two o a b) → (∀ a b c, e ≠ .whn a b c) → (∀ x a b, e ≠ .lett x a b) → Stops l →
    wrd (tl (txt e) ++ l) = tl (txt e) ∧ aft (tl (txt e) ++ l) = l ∧ atomE (tl (txt e)) = some e ∧ (tl (txt e) ++ l).head? ≠ some 40
  | .num n, l, h, _, _, _, hl => by
    obtain ⟨h1, h2, h3⟩ := numE_back (n := n) h
    obtain ⟨w1, w2⟩ := wrd_app h2 hl
    refine ⟨w1, w2, ?_, ?_⟩
    · show atomE (tl (Str.ofString (toString n))) = _
      unfold atomE
      rw [h3, if_neg Bool.false_ne_true, h1]
      rfl
    · show (tl (Str.ofString (toString n)) ++ l).head? ≠ some 40
      have hne : tl (Str.ofString (toString n)) ≠ [] := fun z => by
        rw [z] at h1
        have h0 : numE [] = none := by decide +kernel
        rw [h0] at h1
        cases h1
      intro z
      cases q : tl (Str.ofString (toString n)) with
      | nil => exact hne q
      | cons c r =>
        rw [q] at z h2
        cases z
        exact absurd (h2 40 List.mem_cons_self) (by decide)
  | .nam x, l, h, _, _, _, hl => by
    have hB := nameOk_B (x := x) h
    have hlow : ∀ c ∈ tl x, lowC c = true := by
      unfold nameB at hB
      rw [Bool.and_eq_true, List.all_eq_true] at hB
      exact hB.2
    obtain ⟨w1, w2⟩ := wrd_app (w := tl x) (fun c hc => low_nosep (hlow c hc)) hl
    have hne : tl x ≠ [] := fun z => by
      have := h.1
      rw [TL.len_tl, z] at this
      exact absurd this (by decide)
    refine ⟨w1, w2, ?_, ?_⟩
    · show atomE (tl x) = some (.nam x)
      unfold atomE
      have hh : (tl x).head?.any lowC = true := by
        cases q : tl x with
        | nil => exact absurd q hne
        | cons c r => exact hlow c (by rw [q]; exact List.mem_cons_self)
      rw [if_pos hh, if_pos hB]
    · show (tl x ++ l).head? ≠ some 40
      intro z
      cases q : tl x with
      | nil => exact hne q
      | cons c r =>
        rw [q] at z
        cases z
        exact absurd (low_nosep (hlow 40 (by rw [q]; exact List.mem_cons_self))) (by decide)
  | .two o a b, _, _, h, _, _, _ => absurd rfl (h o a b)
  | .whn a b c, _, _, _, h, _, _ => absurd rfl (h a b c)
  | .lett x a b, _, _, _, _, h, _ => absurd rfl (h x a b)
theorem op_back (o : Op) : opOf (tl o.str) = some o ∧ ∀ c ∈ tl o.str, sepC c = false := by cases o <;> decide +kernel
theorem stop32 (l : List Nat) : Stops (32 :: l) := .inr ⟨32, l, rfl, rfl⟩
theorem stop41 (l : List Nat) : Stops (41 :: l) := .inr ⟨41, l, rfl, rfl⟩
theorem head_back (h : Hd) (ok : ∀ x, h = .lett x → NameOk x) (l : List Nat) : headE (tl h.str ++ (h.nam ++ 32 :: l)) = some (h, 32 :: l) := by
  cases h with
  | two o =>
    obtain ⟨h1, h2⟩ := op_back o
    obtain ⟨w1, w2⟩ := wrd_app h2 (stop32 l)
    show headE (tl o.str ++ 32 :: l) = _
    unfold headE
    rw [w1, w2, h1]
  | whn =>
    obtain ⟨w1, w2⟩ := wrd_app (w := tl "when") (by decide +kernel) (stop32 l)
    show headE (tl "when" ++ 32 :: l) = _
    unfold headE
    rw [w1, w2, show opOf (tl "when") = none by decide +kernel, if_pos rfl]
  | lett x =>
    have hB := nameOk_B (ok x rfl)
    have hlow : ∀ c ∈ tl x, lowC c = true := by
      have hB := hB
      unfold nameB at hB
      rw [Bool.and_eq_true, List.all_eq_true] at hB
      exact hB.2
    obtain ⟨w1, w2⟩ := wrd_app (w := tl "let") (by decide +kernel) (stop32 (tl x ++ 32 :: l))
    obtain ⟨w3, w4⟩ := wrd_app (w := tl x) (fun c hc => low_nosep (hlow c hc)) (stop32 l)
    show headE (tl "let" ++ 32 :: (tl x ++ 32 :: l)) = _
    unfold headE
    rw [w1, w2, show opOf (tl "let") = none by decide +kernel, if_neg (by decide +kernel), if_pos rfl]
    show (match pastC 32 (32 :: (tl x ++ 32 :: l)) with | some r => if nameB (wrd r) = true then some (Hd.lett ⟨(wrd r).toArray⟩, aft r) else none | none => none) = _
    have e : pastC 32 (32 :: (tl x ++ 32 :: l)) = some (tl x ++ 32 :: l) := rfl
    rw [e]
    show (if nameB (wrd (tl x ++ 32 :: l)) = true then some (Hd.lett ⟨(wrd (tl x ++ 32 :: l)).toArray⟩, aft (tl x ++ 32 :: l)) else none) = _
    rw [w3, w4, if_pos hB]
/-- the texts of parts, a blank before each -/
def spc : List Ex → List Nat
  | [] => []
  | e :: es => 32 :: (tl (txt e) ++ spc es)
theorem spc_stop (es : List Ex) (l : List Nat) : Stops (spc es ++ 41 :: l) := by
  cases es with
  | nil => exact stop41 l
  | cons e es => exact stop32 _
theorem rdN_back {f : List Nat → Option (Ex × List Nat)} : ∀ (es : List Ex) (l : List Nat), (∀ e ∈ es, ∀ l, Stops l → f (tl (txt e) ++ l) = some (e, l)) → rdN f es.length (spc es ++ 41 :: l) = some (es, 41 :: l)
  | [], l, _ => rfl
  | e :: es, l, h => by
    have h1 := h e List.mem_cons_self (spc es ++ 41 :: l) (spc_stop es l)
    have h2 := rdN_back es l fun e he => h e (List.mem_cons_of_mem _ he)
    show rdN f (es.length + 1) (32 :: ((tl (txt e) ++ spc es) ++ 41 :: l)) = _
    unfold rdN
    show (match f ((tl (txt e) ++ spc es) ++ 41 :: l) with | some (e, r1) => (match rdN f es.length r1 with | some (es, r2) => some (e :: es, r2) | none => none) | none => none) = _
    rw [List.append_assoc, h1]
    show (match rdN f es.length (spc es ++ 41 :: l) with | some (es, r2) => some (e :: es, r2) | none => none) = _
    rw [h2]
theorem brk_back {f : List Nat → Option (Ex × List Nat)} (h : Hd) (ok : ∀ x, h = .lett x → NameOk x) (es : List Ex) (e : Ex) (hc : es.length = h.cnt) (hm : h.mk es = some e) (hne : es ≠ [])
    (hf : ∀ e ∈ es, ∀ l, Stops l → f (tl (txt e) ++ l) = some (e, l)) (l : List Nat) : brkE f (tl h.str ++ (h.nam ++ (spc es ++ 41 :: l))) = some (e, l) := by
  obtain ⟨e0, es0, rfl⟩ := List.exists_cons_of_ne_nil hne
  have h1 := head_back h ok ((tl (txt e0) ++ spc es0) ++ 41 :: l)
  have h2 := rdN_back (e0 :: es0) l hf
  unfold brkE
  rw [show spc (e0 :: es0) ++ 41 :: l = 32 :: ((tl (txt e0) ++ spc es0) ++ 41 :: l) from rfl] at h2 ⊢
  rw [h1]
  show (match rdN f h.cnt (32 :: ((tl (txt e0) ++ spc es0) ++ 41 :: l)) with | some (es, r1) => (match pastC 41 r1 with | some r2 => (match h.mk es with | some e => some (e, r2) | none => none) | none => none) | none => none) = _
  rw [← hc, h2]
  show (match h.mk (e0 :: es0) with | some e => some (e, l) | none => none) = _
  rw [hm]
theorem tl_bracket (w : Str) : ∀ (ps : List Str), tl (bracket w ps) = 40 :: (tl w ++ (ps.flatMap (fun p => 32 :: tl p) ++ [41])) := by
  intro ps
  have key : ∀ (ps : List Str) (a : Str), tl (ps.foldl addT a) = tl a ++ ps.flatMap (fun p => 32 :: tl p) := by
    intro ps
    induction ps with
    | nil => intro a; simp
    | cons p ps ih =>
      intro a
      rw [List.foldl_cons, ih, List.flatMap_cons]
      unfold addT
      rw [TL.tl_append, TL.tl_append, show tl (" " : Str) = [32] by decide +kernel]
      simp
  unfold bracket
  rw [TL.tl_append, key, TL.tl_append, show tl ("(" : Str) = [40] by decide +kernel, show tl (")" : Str) = [41] by decide +kernel]
  simp
theorem rd_back : ∀ (n : Nat) (e : Ex) (l : List Nat), e.ok → e.deep ≤ n → Stops l → rdE n (tl (txt e) ++ l) = some (e, l) := by
  intro n
  induction n with
  | zero =>
    intro e l ok hd hl
    have := e.deep_pos
    omega
  | succ n ih =>
    intro e l ok hd hl
    have at_ : (∀ o a b, e ≠ .two o a b) → (∀ a b c, e ≠ .whn a b c) → (∀ x a b, e ≠ .lett x a b) → rdE (n + 1) (tl (txt e) ++ l) = some (e, l) := fun z1 z2 z3 => by
      obtain ⟨h1, h2, h3, h4⟩ := atom_back ok z1 z2 z3 hl
      show (if (tl (txt e) ++ l).head? = some 40 then brkE (rdE n) (tl (txt e) ++ l).tail else match atomE (wrd (tl (txt e) ++ l)) with | some e' => some (e', aft (tl (txt e) ++ l)) | none => none) = _
      rw [if_neg h4, h1, h2, h3]
    have br_ : ∀ (h : Hd) (es : List Ex), (∀ x, h = .lett x → NameOk x) → es.length = h.cnt → h.mk es = some e → es ≠ [] → (∀ e' ∈ es, e'.ok ∧ e'.deep ≤ n) →
        tl (txt e) = 40 :: (tl h.str ++ (h.nam ++ (spc es ++ [41]))) → rdE (n + 1) (tl (txt e) ++ l) = some (e, l) := fun h es ok2 hc hm hne hes ht => by
      have hb := brk_back (f := rdE n) h ok2 es e hc hm hne (fun e' he' l' hl' => ih e' l' (hes e' he').1 (hes e' he').2 hl') l
      rw [ht]
      show brkE (rdE n) ((tl h.str ++ (h.nam ++ (spc es ++ [41]))) ++ l) = _
      rw [← hb]
      congr 1
      simp
    cases e with
    | num m => exact at_ (fun _ _ _ z => by cases z) (fun _ _ _ z => by cases z) (fun _ _ _ z => by cases z)
    | nam x => exact at_ (fun _ _ _ z => by cases z) (fun _ _ _ z => by cases z) (fun _ _ _ z => by cases z)
    | two o a b =>
      have hdd : (Ex.two o a b).deep = max a.deep b.deep + 1 := rfl
      refine br_ (.two o) [a, b] (fun _ z => by cases z) rfl rfl (by simp) (fun e' he' => ?_) ?_
      · rcases List.mem_cons.mp he' with rfl | he'
        · exact ⟨ok.1, by omega⟩
        · rw [List.mem_singleton.mp he']
          exact ⟨ok.2, by omega⟩
      · show tl (bracket o.str [txt a, txt b]) = _
        rw [tl_bracket]
        simp [spc, Hd.str, Hd.nam]
    | whn c a b =>
      have hdd : (Ex.whn c a b).deep = max (max c.deep a.deep) b.deep + 1 := rfl
      refine br_ .whn [c, a, b] (fun _ z => by cases z) rfl rfl (by simp) (fun e' he' => ?_) ?_
      · rcases List.mem_cons.mp he' with rfl | he'
        · exact ⟨ok.1, by omega⟩
        rcases List.mem_cons.mp he' with rfl | he'
        · exact ⟨ok.2.1, by omega⟩
        · rw [List.mem_singleton.mp he']
          exact ⟨ok.2.2, by omega⟩
      · show tl (bracket "when" [txt c, txt a, txt b]) = _
        rw [tl_bracket]
        simp [spc, Hd.str, Hd.nam]
    | lett x a b =>
      have hdd : (Ex.lett x a b).deep = max a.deep b.deep + 1 := rfl
      refine br_ (.lett x) [a, b] (fun y z => by cases z; exact ok.1) rfl rfl (by simp) (fun e' he' => ?_) ?_
      · rcases List.mem_cons.mp he' with rfl | he'
        · exact ⟨ok.2.1, by omega⟩
        · rw [List.mem_singleton.mp he']
          exact ⟨ok.2.2, by omega⟩
      · show tl (bracket "let" [x, txt a, txt b]) = _
        rw [tl_bracket]
        simp [spc, Hd.str, Hd.nam]
theorem read_back {e : Ex} (ok : e.ok) (hd : e.deep ≤ 60) : rdE 60 (tl (txt e)) = some (e, []) := by
  have h := rd_back 60 e [] ok hd (.inl rfl)
  rw [List.append_nil] at h
  exact h
end FC
namespace FC
open PySem L2 StX PyProof.Rows
/-- a part of a bracket: a text, or an expression that is written -/
def PartT (n : Nat) (H : Hp) (x : V) (p : Str) : Prop := p.length ≤ 20000 ∧ (x = .str p ∨ ∃ ex : Ex, Bears H x ex ∧ ex.ok ∧ ex.deep ≤ n ∧ ex.size ≤ 1000 ∧ txt ex = p)
theorem PartT.ex {n : Nat} {H : Hp} {x : V} {e : Ex} (b : Bears H x e) (ok : e.ok) (hd : e.deep ≤ n) (hs : e.size ≤ 1000) : PartT n H x (txt e) := ⟨Nat.le_trans (txt_len e ok) (by omega), .inr ⟨e, b, ok, hd, hs, rfl⟩⟩
theorem PartT.mono {n : Nat} {H H' : Hp} {x : V} {p : Str} (h : PartT n H x p) (g : Tups H H') : PartT n H' x p := by
  obtain ⟨hl, h | ⟨e, b, r⟩⟩ := h
  · exact ⟨hl, .inl h⟩
  · exact ⟨hl, .inr ⟨e, b.mono g, r⟩⟩
/-- the parts of a bracket, with their texts -/
def Parts (n : Nat) (H : Hp) : List V → List Str → Prop
  | [], [] => True
  | x :: xs, p :: ps => PartT n H x p ∧ Parts n H xs ps
  | _, _ => False
theorem Parts.get {n : Nat} {H : Hp} : ∀ {xs : List V} {ps : List Str} {i : Nat} {x : V}, Parts n H xs ps → xs[i]? = some x → ∃ p, ps[i]? = some p ∧ PartT n H x p
  | [], [], i, x, _, h => by simp at h
  | [], _ :: _, _, _, h, _ => h.elim
  | _ :: _, [], _, _, h, _ => h.elim
  | y :: xs, p :: ps, 0, x, h, hx => by
    cases hx
    exact ⟨p, rfl, h.1⟩
  | y :: xs, p :: ps, i + 1, x, h, hx => Parts.get (xs := xs) (ps := ps) (i := i) h.2 (by simpa using hx)
theorem Parts.len {n : Nat} {H : Hp} : ∀ {xs : List V} {ps : List Str}, Parts n H xs ps → xs.length = ps.length
  | [], [], _ => rfl
  | [], _ :: _, h => h.elim
  | _ :: _, [], h => h.elim
  | _ :: xs, _ :: ps, h => congrArg (· + 1) (Parts.len (xs := xs) (ps := ps) h.2)
theorem Bears.shape {n : Nat} {H : Hp} {v : V} {e : Ex} (b : Bears H v e) (ok : e.ok) (hd : e.deep ≤ n + 1) (hs : e.size ≤ 1000) :
    (∃ a m, v = .ref a ∧ H a = some (.tup [.str "num", .int m]) ∧ e = .num m) ∨ (∃ a x, v = .ref a ∧ H a = some (.tup [.str "name", .str x]) ∧ e = .nam x) ∨
    ∃ a wd xs ps, v = .ref a ∧ H a = some (.tup (.str wd :: xs)) ∧ decide (V.str wd = V.str "num") = false ∧ decide (V.str wd = V.str "name") = false ∧ Parts n H xs ps ∧ ps.length ≤ 3 ∧ xs ≠ [] ∧ txt e = bracket wd ps ∧ wd.length ≤ 5 := by
  cases b with
  | @num a k h => exact .inl ⟨a, k, rfl, h, rfl⟩
  | @nam a x h => exact .inr (.inl ⟨a, x, rfl, h, rfl⟩)
  | @two a o v1 v2 e1 e2 h b1 b2 =>
    have hdd : (Ex.two o e1 e2).deep = max e1.deep e2.deep + 1 := rfl
    have hss : (Ex.two o e1 e2).size = e1.size + e2.size + 1 := rfl
    exact .inr (.inr ⟨a, o.str, _, [txt e1, txt e2], rfl, h, op_num o, op_name o, ⟨.ex b1 ok.1 (by omega) (by omega), .ex b2 ok.2 (by omega) (by omega), True.intro⟩, (by show 2 ≤ 3; decide), (fun z => nomatch z), rfl, op_len o⟩)
  | @whn a v0 v1 v2 e0 e1 e2 h b0 b1 b2 =>
    have hdd : (Ex.whn e0 e1 e2).deep = max (max e0.deep e1.deep) e2.deep + 1 := rfl
    have hss : (Ex.whn e0 e1 e2).size = e0.size + e1.size + e2.size + 1 := rfl
    exact .inr (.inr ⟨a, "when", _, [txt e0, txt e1, txt e2], rfl, h, by decide, by decide, ⟨.ex b0 ok.1 (by omega) (by omega), .ex b1 ok.2.1 (by omega) (by omega), .ex b2 ok.2.2 (by omega) (by omega), True.intro⟩, (by show 3 ≤ 3; decide), (fun z => nomatch z), rfl, by decide +kernel⟩)
  | @lett a x v1 v2 e1 e2 h b1 b2 =>
    have hdd : (Ex.lett x e1 e2).deep = max e1.deep e2.deep + 1 := rfl
    have hss : (Ex.lett x e1 e2).size = e1.size + e2.size + 1 := rfl
    exact .inr (.inr ⟨a, "let", _, [x, txt e1, txt e2], rfl, h, by decide, by decide, ⟨⟨Nat.le_trans ok.1.2.1 (by decide), .inl rfl⟩, .ex b1 ok.2.1 (by omega) (by omega), .ex b2 ok.2.2 (by omega) (by omega), True.intro⟩, (by show 3 ≤ 3; decide), (fun z => nomatch z), rfl, by decide +kernel⟩)
theorem cut_one (x : V) (xs : List V) : cutV (x :: xs) (some 1) none = xs := by
  unfold cutV
  rw [sIx_pos (by decide)]
  show ((x :: xs).drop (min 1 (xs.length + 1))).take (xs.length + 1 - min 1 (xs.length + 1)) = xs
  rw [show min 1 (xs.length + 1) = 1 by omega]
  simp
theorem line_len (l0 : Str) (h0 : l0.length ≤ 10) : ∀ (ps : List Str), (∀ p ∈ ps, p.length ≤ 20000) → (ps.foldl addT l0).length ≤ 10 + 20001 * ps.length := by
  intro ps
  suffices ∀ (ps : List Str) (l : Str), (∀ p ∈ ps, p.length ≤ 20000) → (ps.foldl addT l).length ≤ l.length + 20001 * ps.length from fun h => Nat.le_trans (this ps l0 h) (by omega)
  intro ps
  induction ps with
  | nil => intro l _; exact Nat.le_refl _
  | cons p r ih =>
    intro l h
    have h1 := ih (addT l p) fun q hq => h q (List.mem_cons_of_mem _ hq)
    have h2 := h p List.mem_cons_self
    rw [len_addT] at h1
    rw [List.length_cons, List.foldl_cons]
    omega
section
variable {P : Program} {w : World} {K : PySem.W.Frag} {mg : Str → Option Value} {base : Heap} {t1 t2 : Tok} {f g f1 f2 f3 f4 f5 f6 f7 f8 f9 : Addr} {fd gd fd1 fd2 fd3 fd4 fd5 fd6 fd7 fd8 fd9 : FuncData}
def spShown (n : Nat) : Sp := fun vs H Q _ => ∃ (v : V) (e : Ex), vs = [v] ∧ Bears H v e ∧ e.ok ∧ e.deep ≤ n ∧ e.size ≤ 1000 ∧ ∀ H', Same H H' → Q (.str (txt e)) H'
theorem spLShown0 : FnOk P w K mg base CX0 0 f fd ["_law_expr"] (spShown 0) := by
  have no : ∀ vs H Q E, ¬ spShown 0 vs H Q E := fun vs H Q E h => by
    obtain ⟨v, e, _, _, _, h1, _⟩ := h
    have := e.deep_pos
    omega
  exact ⟨fun vs H Q E h => absurd h (no vs H Q E), fun A outer s H args us vs Q E _ _ _ _ h => absurd h (no vs H Q E)⟩
theorem scLShown : FnScope ["_law_expr", "_law_line", "_law_part"] ["_law_expr"] (defScope s_law_shown) := ⟨rfl, rfl, rfl, by decide +kernel, rfl, by decide +kernel, by decide +kernel⟩
theorem ok_lshown (n : Nat) (d_lshown : Df K mg "_law_shown" s_law_shown ["_law_expr"] f fd) (z : Bl2 mg) (G_lshown : FnOk P w K mg base CX0 (n + 1) f fd ["_law_expr"] (spShown n)) :
    FnOk P w K mg base CX0 (n + 2) f fd ["_law_expr"] (spShown (n + 1)) := by
  refine d_lshown.F.ok scLShown (fun vs H Q E h => ?_) (fun cdv A outer s H vs Q E hr h => ?_)
  · obtain ⟨v, e, rfl, _⟩ := h
    rfl
  obtain ⟨v, e, rfl, b, ok, hdp, hsz, q⟩ := h
  refine ⟨_, (pss_cons (ps_if (pt_cmpR op_eq (pe_ix ix_tup (pv 0) pe_int (fun _ _ => rfl)) pe_str (nomark _)) (pss_one (ps_ret (pe_callTy call_str_int (by rfl) z.str (by decide +kernel) (pa_cons (pe_ix ix_tup (pv 0) pe_int (fun _ _ => rfl)) pa_nil)))) pss_nil)
    (pss_cons (ps_if (pt_cmpR op_eq (pe_ix ix_tup (pv 0) pe_int (fun _ _ => rfl)) pe_str (nomark _)) (pss_one (ps_ret (pe_ix ix_tup (pv 0) pe_int (fun _ _ => rfl)))) pss_nil)
    (pss_cons (ps_set (i := 1) scLShown.nd rfl (.inl rfl) (pe_op op_add_str pe_str (pe_ix ix_tup (pv 0) pe_int (fun _ _ => rfl))))
    (pss_cons (ps_for PassesOwn.never rfl (pi_tup (pe_slice sl_tup (pv 0) (po_some pe_int) po_none)) (pg_name (i := 2) scLShown.nd rfl (.inl rfl)) (pss_one (ps_if (pt_val (pe_callB call_isi (by rfl) z.isi (by decide +kernel) (pa_cons (pv 2) (pa_cons (pe_bltn (by rfl) z.str (by decide +kernel) (v := .ty "str") rfl) pa_nil)))) (pss_one (ps_set (i := 1) scLShown.nd rfl (.inl rfl) (pe_op op_add_str (pe_op op_add_str (pv 1) pe_str) (pv 2)))) (pss_one (ps_set (i := 1) scLShown.nd rfl (.inl rfl) (pe_op op_add_str (pe_op op_add_str (pv 1) pe_str) (pe_call G_lshown (hr.mono (by omega)) (by rfl) d_lshown.m d_lshown.k d_lshown.b .nil pass0 (pa_cons (pv 2) pa_nil))))))))
    (pss_one (ps_ret (pe_op op_add_str (pv 1) pe_str))))))), ?_⟩
  rcases b.shape ok hdp hsz with ⟨a, k, rfl, h, rfl⟩ | ⟨a, x, rfl, h, rfl⟩ | ⟨a, wd, xs, ps, rfl, h, w1, w2, hP, h3, hne, htx, hw5⟩
  · refine ⟨_, rfl, a, _, 0, _, rfl, rfl, .inl (.inl h), rfl, rfl, _, rfl, iteT ⟨_, rfl, a, _, 1, _, rfl, rfl, .inl (.inl h), rfl, k, rfl, ?_, q H (Same.refl _)⟩⟩
    have o1 : NumOk k := ok
    have h2 : k.natAbs < 2 ^ 1920 := Nat.lt_of_le_of_lt (show k.natAbs ≤ 1000000000 by have := o1.1; have := o1.2; omega) (by decide +kernel)
    by_cases h0 : k.natAbs = 0
    · rw [h0]
      decide +kernel
    · exact (Nat.log2_lt h0).mpr h2
  · refine ⟨_, rfl, a, _, 0, _, rfl, rfl, .inl (.inl h), rfl, rfl, _, rfl, iteF ?_⟩
    exact ⟨_, rfl, a, _, 0, _, rfl, rfl, .inl (.inl h), rfl, rfl, _, rfl, iteT ⟨_, rfl, a, _, 1, _, rfl, rfl, .inl (.inl h), rfl, q H (Same.refl _)⟩⟩
  · refine ⟨_, rfl, a, _, 0, _, rfl, rfl, .inl (.inl h), at_of (j := 0) rfl rfl, rfl, false, congrArg V.bl w1, iteF ?_⟩
    refine ⟨_, rfl, a, _, 0, _, rfl, rfl, .inl (.inl h), at_of (j := 0) rfl rfl, rfl, false, congrArg V.bl w2, iteF ?_⟩
    have e1 : ("(" : Str).length = 1 := by decide +kernel
    have e2 : (")" : Str).length = 1 := by decide +kernel
    refine ⟨_, rfl, a, _, 0, _, rfl, rfl, .inl (.inl h), at_of (j := 0) rfl rfl, _, _, rfl, rfl, (by rw [e1, sizeLine_eq]; omega), ?_⟩
    have l0 : ("(" ++ wd : Str).length ≤ 10 := by rw [app_len, e1]; omega
    have hps : ∀ p ∈ ps, p.length ≤ 20000 := fun p hp => by
      obtain ⟨i, hi⟩ := List.getElem?_of_mem hp
      have hlt : i < xs.length := by rw [hP.len]; exact (List.getElem?_eq_some_iff.mp hi).1
      obtain ⟨p', hp', hq⟩ := hP.get (List.getElem?_eq_some_iff.mpr ⟨hlt, rfl⟩)
      rw [hi] at hp'
      cases hp'
      exact hq.1
    refine ⟨_, rfl, _, rfl, a, _, rfl, .inl (.inl h), (by
      intro z
      have z1 := z.1
      rw [sIx_pos (by decide)] at z1
      rw [List.length_cons] at z1
      have z2 : min 1 (xs.length + 1) = 0 := z1
      omega), fun t ht => ?_⟩
    rw [cut_one]
    have g1 := same_new ht (.tup xs)
    have htt : upd H t (.tup xs) t = some (.tup xs) := upd_same
    generalize upd H t (.tup xs) = H1 at g1 htt ⊢
    refine ⟨t, rfl, ⟨_, .inl (.inl htt)⟩, ?_⟩
    refine for_tup (K := K) (a := t) (xs := xs) (fun i σ H2 => Same H1 H2 ∧ ∃ z2, σ = [some (.ref a), some (.str ((ps.take i).foldl addT ("(" ++ wd))), z2])
      ⟨Same.refl _, none, rfl⟩ (fun i σ H2 _ hI => .inl (.inl (hI.1 _ _ htt))) (fun i x σ H2 hx hI => ?_) (fun σ H2 hI => ?_)
    · obtain ⟨g2, z2, rfl⟩ := hI
      obtain ⟨p, hp, hpl, hx2⟩ := hP.get hx
      have step : (ps.take (i + 1)).foldl addT ("(" ++ wd) = ((ps.take i).foldl addT ("(" ++ wd) ++ (" " : Str)) ++ p := by
        rw [List.take_add_one, hp, List.foldl_append]
        rfl
      have hl1 := line_len ("(" ++ wd) l0 (ps.take i) fun p hp => hps p (List.mem_of_mem_take hp)
      have hl2 : (ps.take i).length ≤ 3 := by rw [List.length_take]; omega
      have e3 : (" " : Str).length = 1 := by decide +kernel
      rcases hx2 with rfl | ⟨ex, bx, okx, hdx, hsx, rfl⟩
      · refine ⟨_, rfl, .str p, .ty "str", .type "str", .type "str", true, rfl, .ty _, .base (.str p), kit_ty (by decide +kernel), true, rfl, iteT ?_⟩
        refine ⟨_, rfl, _, _, rfl, rfl, (by rw [e3, sizeLine_eq]; omega), _, rfl, _, _, rfl, rfl, (by rw [app_len, e3, sizeLine_eq]; omega), g2, _, by rw [step]; rfl⟩
      · obtain ⟨b1, r1, rfl, hb1⟩ := bx.first
        have g12 := g1.trans g2
        refine ⟨_, rfl, .ref b1, .ty "str", .type "tuple", .type "str", false, rfl, .ty _, .base (.tup (g12 _ _ hb1)), kit_ty (by decide +kernel), false, rfl, iteF ?_⟩
        refine ⟨_, rfl, _, _, rfl, rfl, (by rw [e3, sizeLine_eq]; omega), _, rfl, .ref b1, ex, rfl, bx.mono (Tups.of g12), okx, hdx, hsx, fun H3 g3 => ⟨_, _, rfl, rfl, (by rw [app_len, e3, sizeLine_eq]; omega), g2.trans g3, _, by rw [step]; rfl⟩⟩
    · obtain ⟨g2, z2, rfl⟩ := hI
      rw [hP.len, List.take_length]
      have hl1 := line_len ("(" ++ wd) l0 ps hps
      refine ⟨_, rfl, _, _, rfl, rfl, (by rw [e2, sizeLine_eq]; omega), ?_⟩
      have := q H2 (g1.trans g2)
      rw [htx] at this
      exact this
theorem all_lshown (d : Df K mg "_law_shown" s_law_shown ["_law_expr"] f fd) (z : Bl2 mg) : ∀ n, FnOk P w K mg base CX0 (n + 1) f fd ["_law_expr"] (spShown n)
  | 0 => spLShown0.mono (Nat.zero_le _)
  | n + 1 => ok_lshown n d z (all_lshown d z n)
end
end FC
namespace PySem
open Sem (wp)
section
variable {prog : Program} {w : World} {K : Type} [DecidableEq K] {knd : KeyKind prog w K} {A : Around} {E : Value → Shared → Prop} {s : Shared}
theorem fc_put {d : Addr} {kvs : List (K × Value)} {k : K} {key v : Value} {Q : Unit → Shared → Prop} (hkey : knd.is k key = true) (hm : s.heap.DictOf knd d kvs)
    (hQ : ∀ h', h'.DictOf knd d (stored kvs k v) → Heap.SameBut d s.heap h' → Q () { s with heap := h' })
    (hsz : kvs.length ≤ sizeLine := by size_fits) :
    wpAny (model prog w) A (dictPut d (knd.hash k) key v) Q E s := by
  obtain ⟨o, es, ep, ho, hc, hd, hk, hp, hn⟩ := hm
  have hes : es.size ≤ sizeLine := by have e1 := hp.length; have e2 : es.toList.length = es.size := by simp
                                      omega
  unfold dictPut
  refine wpAny_bind (wpAny_dictFind_of hkey ho hd hk ?_)
  have hidx : (es.findIdx? fun e => knd.is k e.key) = kvs.findIdx? fun kv => decide (kv.1 = k) := by
    rw [← hp.findIdx k]; obtain ⟨l⟩ := es; simp
  cases hi : es.findIdx? fun e => knd.is k e.key with
  | some i =>
    refine wpAny_updateDict ho hd (hQ _ ⟨_, _, ep, Heap.get?_update_self _ ho (Obj.isFreed_of_dict (Obj.data_mapDict hd _)),
      hc.mapDict _, Obj.data_mapDict hd _, hk.modify _ _, ?_, ?_⟩ (Heap.SameBut.update ..))
    · rw [stored, if_pos (any_of_findIdx_some (hidx ▸ hi))]
      have hl : (es.toList.findIdx? fun e => knd.is k e.key) = some i := by rw [← hi]; obtain ⟨l⟩ := es; simp
      have := hp.modify hn hl v
      obtain ⟨l⟩ := es
      simpa using this
    · rw [stored, if_pos (any_of_findIdx_some (hidx ▸ hi)), keys_map_store]; exact hn
  | none =>
    have hnot : k ∉ kvs.map (·.1) := not_mem_of_findIdx_none (hidx ▸ hi)
    have hany : ¬ (kvs.any fun kv => decide (kv.1 = k)) = true := by
      rw [List.any_eq_true]; rintro ⟨kv, hkv, he⟩
      exact hnot (List.mem_map.mpr ⟨kv, hkv, of_decide_eq_true he⟩)
    refine wpAny_updateDictKeys (hz := hes) ho hd (hQ _ ⟨_, _, ep + 1, Heap.get?_update_self _ ho (Obj.isFreed_of_dict (Obj.data_mapDictKeys hd _)),
      hc.mapDictKeys _, Obj.data_mapDictKeys hd _, hk.push hkey _, ?_, ?_⟩ (Heap.SameBut.update ..))
    · rw [stored, if_neg hany]
      have := hp.append hkey (knd.hash k) v
      obtain ⟨l⟩ := es
      simpa using this
    · rw [stored, if_neg hany, List.map_append, List.nodup_append]
      refine ⟨hn, by simp, ?_⟩
      intro a ha b hb
      simp only [List.map_cons, List.map_nil, List.mem_singleton] at hb
      subst hb
      exact fun e => hnot (e ▸ ha)
/-- a plain dict's pairs, put into another dict one by one: a display's two stars -/
theorem fc_merge {d o : Addr} {kvs more : List (K × Value)} {Q : Unit → Shared → Prop} (hdo : d ≠ o) (hoS : (o == sysModules) = false) (hnr : ∀ (k : K) (v : Value), knd.is k v = true → ∀ a, v ≠ .ref a)
    (hd : s.heap.DictOf knd d kvs) (ho : s.heap.DictOf knd o more)
    (hQ : ∀ h', h'.DictOf knd d (merged kvs more) → h'.DictOf knd o more → Heap.SameBut d s.heap h' → Q () { s with heap := h' })
    (hsz : kvs.length + more.length ≤ sizeLine := by size_fits) :
    wpAny (model prog w) A (mergeMapping d (.ref o) false) Q E s := by
  obtain ⟨od, esd, epd, hod, hcd, hdd, hkd, hpd, hnd⟩ := id hd
  obtain ⟨oo, eso, epo, hoo, hco, hdo', hko, hpo, hno⟩ := id ho
  unfold mergeMapping
  refine wpAny_bind (wpAny_isInstance ho.typeIs isSubtype_dict_dict ?_)
  dsimp only
  rw [if_pos rfl]
  refine wpAny_bind (wpAny_specialOf ho.typeIs F.slot_dict_iter.lookup ?_)
  simp only [beq_self_eq_true, pure_bind]
  rw [if_neg (by rw [hoS]; exact Bool.false_ne_true)]
  have hlen : more.length = eso.size := by rw [← hpo.length]; simp
  have loop : wpAny (model prog w) A (do
      let l ← dictEntries o
      let epoch ← dictEpoch o
      forIn (List.range l.size) PUnit.unit fun i (_ : PUnit) => (do
          let l' ← dictEntries o
          match l'[i]? with
            | some e => do
              holding [e.key, e.val] (dictPut d e.hash e.key e.val)
              let ep' ← dictEpoch o
              if (ep' != epoch) = true then do
                  (unsupported "dict.changed-during-merge" : Sem PUnit)
                  pure (ForInStep.yield PUnit.unit)
                else pure (ForInStep.yield PUnit.unit)
            | _ => do
              (unsupported "dict.changed-during-merge" : Sem PUnit)
              pure (ForInStep.yield PUnit.unit) : Sem (ForInStep PUnit))
      pure ()) Q E s := by
    refine wpAny_bind (wpAny_dictEntries hoo hdo' ?_)
    refine wpAny_bind (wpAny_dictEpoch hoo hdo' ?_)
    refine wpAny_bind ?_
    refine wpAny_forIn_list _
      (fun rest _ s' => ∃ h' i, s' = { s with heap := h' } ∧ rest = List.range' i (eso.size - i) ∧ i ≤ eso.size ∧ h'.DictOf knd d (merged kvs (more.take i)) ∧ h'.get? o = some oo ∧ Heap.SameBut d s.heap h')
      _ ?_ ?_ _ _ ⟨s.heap, 0, rfl, by simp [List.range_eq_range'], Nat.zero_le _, by simpa [merged] using hd, hoo, Heap.SameBut.refl _ _⟩
    · rintro x rest b s' ⟨h', i, rfl, hr, hi, hd', hoo', hs'⟩
      have hlt : i < eso.size := by
        rcases Nat.lt_or_ge i eso.size with h | h
        · exact h
        · rw [Nat.sub_eq_zero_of_le h] at hr; simp at hr
      obtain ⟨rfl, hrest⟩ : x = i ∧ rest = List.range' (i + 1) (eso.size - (i + 1)) := by
        have e : eso.size - i = (eso.size - (i + 1)) + 1 := by omega
        rw [e, List.range'_succ] at hr
        injection hr with h1 h2
        exact ⟨h1, h2⟩
      refine wpAny_bind (wpAny_dictEntries hoo' hdo' ?_)
      rw [Array.getElem?_eq_getElem hlt]
      obtain ⟨kv, hkv⟩ : ∃ kv, more[x]? = some kv := ⟨more[x]'(by rw [hlen]; exact hlt), List.getElem?_eq_getElem _⟩
      obtain ⟨k, v⟩ := kv
      obtain ⟨hkey, hval⟩ := hpo.get? (e := eso[x]) (by simp [hlt]) hkv
      obtain ⟨k', hkey', hhash⟩ := hko eso[x] (Array.getElem_mem hlt)
      obtain rfl : k' = k := knd.inj _ _ _ hkey' hkey
      show wpAny _ _ (holding [eso[x].key, eso[x].val] (dictPut d eso[x].hash eso[x].key eso[x].val) >>= _) _ _ _
      rw [hhash, hval]
      have hmx : (merged kvs (more.take x)).length ≤ sizeLine := by
        have e1 := merged_length_le kvs (more.take x)
        have e2 : (more.take x).length ≤ more.length := by rw [List.length_take]; omega
        omega
      refine wpAny_bind (wpAny_holding (fc_put (hsz := hmx) hkey hd' fun h'' hd'' hs'' => ?_))
      have hoo'' : h''.get? o = some oo := (hs''.2 o (Ne.symm hdo)).trans hoo'
      refine wpAny_bind (wpAny_dictEpoch hoo'' hdo' ?_)
      rw [if_neg (by simp)]
      exact wpAny_pure ⟨h'', x + 1, rfl, hrest, hlt, by rw [merged_take_succ kvs more x (k', v) hkv]; exact hd'', hoo'', hs'.trans hs''⟩
    · rintro b s' ⟨h', i, rfl, hr, hi, hd', hoo', hs'⟩
      have hin : i = eso.size := by
        rcases Nat.lt_or_ge i eso.size with h | h
        · have e : eso.size - i = (eso.size - (i + 1)) + 1 := by omega
          rw [e, List.range'_succ] at hr; exact nomatch hr
        · exact Nat.le_antisymm hi h
      refine wpAny_pure (hQ h' ?_ ⟨oo, eso, epo, hoo', hco, hdo', hko, hpo, hno⟩ hs')
      rw [hin, ← hlen, List.take_length] at hd'; exact hd'
  refine wpAny_bind (wpAny_dictEntries hod hdd ?_)
  split
  · refine wpAny_bind (wpAny_dictEntries hoo hdo' ?_)
    refine wpAny_bind ?_
    rw [← Array.forIn_toList]
    refine wpAny_forIn_list _ (fun rest _ s' => s' = s ∧ ∀ e ∈ rest, e ∈ eso) _ ?_ ?_ _ _ ⟨rfl, fun e he => Array.mem_toList_iff.mp he⟩
    · rintro e rest b s' ⟨rfl, hin⟩
      obtain ⟨k, hk1, _⟩ := hko e (hin e List.mem_cons_self)
      have hne := hnr k e.key hk1
      split
      · rename_i a he
        exact absurd he (hne a)
      · exact wpAny_pure ⟨rfl, fun e' he' => hin e' (List.mem_cons_of_mem _ he')⟩
    · rintro b s' ⟨rfl, _⟩
      exact loop
  · exact loop
theorem fc_display (v k w' : Sem Value) : dictDisplay [(none, v), (some k, w')] = (do
    let d ← alloc { cls := .type "dict", data := .dict #[] }
    let m ← holding [.ref d] v
    (((holding [.ref d, m] (mergeMapping d m false)).onRaise fun x => do let _ ← holding [.ref d, m, x] (runValue (.builtin "proto.let_go" {}))).tryCatch fun e => do
        if ← isInstance e (.type "AttributeError") then
          rule "dict.display.not-a-mapping"; raiseError "TypeError" s!"'{← typeNameOf m}' object is not a mapping"
        throw e).onRaise fun x => do let _ ← holding [.ref d, x] (runValue (.builtin "proto.let_go" {}))
    let sub ← holding [.ref d] (subDict [(k, w')])
    (holding [.ref d, .ref sub] (mergeMapping d (.ref sub) false)).onRaise fun x => do let _ ← holding [.ref d, x] (runValue (.builtin "proto.let_go" {}))
    pure (.ref d)) := by
  unfold dictDisplay
  have h17 : ((1 : Nat) == 17) = false := rfl
  simp only [List.forIn_cons, List.forIn_nil, List.isEmpty_nil, if_true, pure_bind, bind_assoc, List.nil_append, List.length_cons, List.length_nil, Nat.zero_add, h17, Bool.false_eq_true, if_false, List.isEmpty_cons]
/-- {**e, k: v}: a new dict, e's pairs put into it, then the pair -/
theorem fc_star {e ke ve : Expr} {env : Env} {pos : Pos} {Q : Value → Shared → Prop} (hnr : ∀ (k : K) (v : Value), knd.is k v = true → ∀ a, v ≠ .ref a)
    (h : wpAny (model prog w) A (eval e env) (fun m s1 => ∃ o more, m = .ref o ∧ s.heap.objs.size ≠ o ∧ (o == sysModules) = false ∧ s1.heap.DictOf knd o more ∧ s1.heap.DictOf knd s.heap.objs.size [] ∧ more.length < sizeLine ∧
      ∀ h', h'.DictOf knd s.heap.objs.size (merged [] more) → Heap.SameBut s.heap.objs.size s1.heap h' →
        wpAny (model prog w) A (evalPairs (pairTrees [some ke] [ve] env pos)) (fun vs s2 => ∃ kvs mid, Carries knd vs kvs ∧ s2.heap.DictOf knd h'.objs.size [] ∧ s2.heap.DictOf knd s.heap.objs.size mid ∧ s.heap.objs.size ≠ h'.objs.size ∧ (h'.objs.size == sysModules) = false ∧ mid.length + (merged [] kvs).length ≤ sizeLine ∧
          ∀ h2 h3, h2.DictOf knd h'.objs.size (merged [] kvs) → Heap.SameBut h'.objs.size s2.heap h2 → h3.DictOf knd s.heap.objs.size (merged mid (merged [] kvs)) → Heap.SameBut s.heap.objs.size h2 h3 →
            Q (.ref s.heap.objs.size) { s2 with heap := h3, toks := s2.toks + vs.length }) E { s1 with heap := h'.push { cls := .type "dict", data := .dict #[] } })
      E { s with heap := s.heap.push { cls := .type "dict", data := .dict #[] } }) :
    wpAny (model prog w) A (eval (.Dict [none, some ke] [e, ve] pos) env) Q E s := by
  rw [arm_eval_Dict]
  show wpAny _ _ (standAt pos >>= fun _ => dictDisplay [(none, do let x ← eval e env; standAt pos; pure x), (some (eval ke env), do let x ← eval ve env; standAt pos; pure x)]) _ _ _
  rw [fc_display]
  refine wpAny_bind (wpAny_standAt (wpAny_bind (wpAny_alloc (wpAny_bind (wpAny_holding (wpAny_bind (wpAny_mono h (fun m s1 h1 => wpAny_bind (wpAny_standAt (wpAny_pure ?_))) fun _ _ z => z)))))))
  obtain ⟨o, more, rfl, ne, hS, ho, hD, hz, h2⟩ := h1
  refine wpAny_bind (wpAny_onRaise (wpAny_tryCatch (wpAny_onRaise (wpAny_holding (fc_merge (hsz := by rw [List.length_nil]; omega) ne hS hnr hD ho fun h' hm' _ hs' => ?_)))))
  refine wpAny_bind (wpAny_holding (wpAny_subDict (knd := knd) (show 1 ≤ 15 by decide) (wpAny_mono (h2 h' hm' hs') (fun vs s2 h3 => ?_) fun _ _ z => z)))
  obtain ⟨kvs, mid, hc, hsub, hdd, ne2, hS2, hlen, hq⟩ := h3
  refine ⟨kvs, hc, hsub, fun h2' hm2 hs2 => ?_⟩
  refine wpAny_bind (wpAny_onRaise (wpAny_holding (fc_merge (hsz := hlen) ne2 hS2 hnr (hdd.sameBut hs2 ne2) hm2 fun h3 hm3 _ hs3 => wpAny_pure (hq h2' h3 hm2 hs2 hm3 hs3))))
end
end PySem
namespace FC
open PySem L2 PyProof.Rows
/-- {**d, k: v}, keys ints or texts: p the new dict, q the one that the pair stands in meanwhile -/
def tStar (td tk tv : TE) : TE := fun σ H Q => ∀ p, H p = none → td σ (upd H p (.dK [])) fun x H1 => ∃ a ks, x = .ref a ∧ a ≠ p ∧ H1 a = some (.dK ks) ∧ H1 p = some (.dK []) ∧ ks.length < sizeLine ∧
  ∀ q, (upd H1 p (.dK (mergeK [] ks))) q = none → tk σ (upd (upd H1 p (.dK (mergeK [] ks))) q (.dK [])) fun y H3 => tv σ H3 fun z H4 => ∃ k, y = kV k ∧ H4 p = some (.dK (mergeK [] ks)) ∧ H4 q = some (.dK []) ∧
    Q (.ref p) (upd (upd H4 q (.dK [(k, z)])) p (.dK (putK (mergeK [] ks) k z)))
theorem mix_nr {P : Program} {w : World} (k : Key) (v : Value) (h : (mixKind P w).is k v = true) (a : Addr) : v ≠ .ref a := by
  have h' : keyIs k v = true := h
  rcases keyIs_shape h' with ⟨i, t, rfl, rfl⟩ | ⟨x, t, rfl, rfl⟩
  · exact fun z => nomatch z
  · exact fun z => nomatch z
theorem pe_star {X : Cx} {pos : Pos} {e ke ve : Expr} {td tk tv : TE} (hd : PE X e td) (hk : PE X ke tk) (hv : PE X ve tv) : PE X (.Dict [none, some ke] [e, ve] pos) (tStar td tk tv) := by
  refine ⟨fun pins s σ H Q I q => ?_⟩
  have hn := I.hok.fresh (Nat.le_refl s.heap.objs.size)
  have I1 := I.laid (a := s.heap.objs.size) (o := .dK []) (h' := s.heap.push { cls := .type "dict", data := .dict #[] }) (t' := s.toks) (fun _ _ q => Heap.get?_push_of_some _ q) (Nat.le_refl _) (dk_empty s.heap I.big)
  refine fc_star (knd := mixKind X.prog X.w) (mix_nr) (thn (hd.run pins _ σ _ _ I1 (q _ hn)) fun m s1 ⟨x, H1, I2, rx, a, ks, ex, ne, ha, hp, hz, q1⟩ => ?_)
  subst ex
  obtain rfl : m = Value.ref a := rx
  obtain ⟨z, hS, vs, rel, dd⟩ := dk_of I2.hok ha
  obtain ⟨_, hSp, vs0, r0, dp⟩ := dk_of I2.hok hp
  cases r0
  have hl : vs.length < sizeLine := by rw [← rel.length]; exact hz
  refine ⟨a, vs, rfl, Ne.symm ne, hS, dd, dp, hl, fun h' dd' hs => ?_⟩
  have rm : KV (mergeK [] ks) (merged [] vs) := KV.merge rel .nil
  have hm1 : (mergeK [] ks).length ≤ ks.length := by have := length_mergeK ks []; rw [List.length_nil] at this; omega
  have he : ∃ q, h'.get? s.heap.objs.size = some q := let ⟨q, _, _, hq, _⟩ := dd'; ⟨q, hq⟩
  have I3 : Inv X pins σ (upd H1 s.heap.objs.size (.dK (mergeK [] ks))) { s1 with heap := h', toks := s1.toks } := d_write I2 (by rw [hp]; exact True.intro) hs he (dk_new (by omega) hSp rm dd')
  have hn3 := I3.hok.fresh (Nat.le_refl h'.objs.size)
  have I4 := I3.laid (a := h'.objs.size) (o := .dK []) (h' := h'.push { cls := .type "dict", data := .dict #[] }) (t' := s1.toks) (fun _ _ q => Heap.get?_push_of_some _ q) (Nat.le_refl _) (dk_empty h' I3.big)
  have pp : PPs X pos [some ke] [ve] [(tk, tv)] := pps_cons hk hv pps_nil
  have hqq := q1 _ hn3
  refine thn (pp.run pins _ σ _ (fun ps H4 => match ps with
    | [(y, z)] => ∃ k, y = kV k ∧ H4 s.heap.objs.size = some (.dK (mergeK [] ks)) ∧ H4 h'.objs.size = some (.dK []) ∧ Q (.ref s.heap.objs.size) (upd (upd H4 h'.objs.size (.dK [(k, z)])) s.heap.objs.size (.dK (putK (mergeK [] ks) k z)))
    | _ => False) I4 hqq) fun ws s2 ⟨ps, H4, I5, rel2, qq⟩ => ?_
  match ps, qq with
  | [(y, z)], ⟨k, ey, h4p, h4q, q4⟩ =>
    subst ey
    obtain ⟨rs, c, rk⟩ := carries_of (P := X.prog) (w := X.w) (kvs := [(k, z)]) rel2
    obtain ⟨_, hSq, vs1, r1, dq⟩ := dk_of I5.hok h4q
    cases r1
    obtain ⟨_, _, vs2, r2, dp2⟩ := dk_of I5.hok h4p
    have ne2 : s.heap.objs.size ≠ h'.objs.size := fun zz => by
      rw [← zz, upd_same] at hn3
      cases hn3
    have rk1 : KV [(k, z)] (merged [] rs) := KV.merge rk .nil
    have hl2 : (mergeK [] ks).length = vs2.length := r2.length
    have hl3 : ([(k, z)] : List (Key × V)).length = (merged [] rs).length := rk1.length
    refine ⟨rs, vs2, c, dq, dp2, ne2, hSq, by rw [← hl2, ← hl3]; show (mergeK [] ks).length + 1 ≤ sizeLine; omega, fun h2 h3 hm2 hs2 hm3 hs3 => ⟨.ref s.heap.objs.size, _, ?_, rfl, q4⟩⟩
    have he2 : ∃ q, h2.get? h'.objs.size = some q := let ⟨q, _, _, hq, _⟩ := hm2; ⟨q, hq⟩
    have I6 : Inv X pins σ (upd H4 h'.objs.size (.dK [(k, z)])) { s2 with heap := h2, toks := s2.toks } := d_write I5 (by rw [h4q]; exact True.intro) hs2 he2 (dk_new (by show 1 ≤ sizeLine; decide) hSq rk1 hm2)
    have he3 : ∃ q, h3.get? s.heap.objs.size = some q := let ⟨q, _, _, hq, _⟩ := hm3; ⟨q, hq⟩
    have hp6 : (upd H4 h'.objs.size (.dK [(k, z)])) s.heap.objs.size = some (.dK (mergeK [] ks)) := by rw [upd_ne ne2]; exact h4p
    have rk2 : KV (putK (mergeK [] ks) k z) (merged vs2 (merged [] rs)) := KV.merge rk1 r2
    have hl4 := length_putK (mergeK [] ks) k z
    exact d_write (s := { s2 with heap := h2, toks := s2.toks }) I6 (by rw [hp6]; exact True.intro) hs3 he3 (dk_new (by omega) hSp rk2 hm3)
end FC
namespace FC
open PySem L2 StX PyProof.Rows
theorem ps_setDc {X : Cx} {i : Nat} {y : Str} {py : Pos} {kx vx tg iter : Expr} {ifs : List Expr} {scope : Scope} {own : List (Str × Nat)} {pos spos : Pos} {wi : TI} {g : TG} {tt : TT} {tk tv : TE} (hc : X.calm = true) (hN : X.N.Nodup) (hy : X.N[i]? = some y) (hyl : X.env.scope.names.lookup y = some .local)
    (hsw : swapsWith (.DictComp kx vx [⟨tg, iter, ifs, 0⟩] scope pos) (some (.Name y py)) spos.line X.env = pure true) (hi : PI X tg iter wi) (ok : BlkOk X.N X.env.scope scope own)
    (hg : ∀ (s : Shared) (H : Hp) (C : Addr) (cl : List (Str × Addr)) (fp : List Addr), PG (X.blk s H scope (compEnvC scope cl C X.env) fp) tg g) (ht : ∀ (s : Shared) (H : Hp) (C : Addr) (cl : List (Str × Addr)) (fp : List Addr), PTs (X.blk s H scope (compEnvC scope cl C X.env) fp) ifs tt)
    (hk : ∀ (s : Shared) (H : Hp) (C : Addr) (cl : List (Str × Addr)) (fp : List Addr), PE (X.blk s H scope (compEnvC scope cl C X.env) fp) kx tk)
    (he : ∀ (s : Shared) (H : Hp) (C : Addr) (cl : List (Str × Addr)) (fp : List Addr), PE (X.blk s H scope (compEnvC scope cl C X.env) fp) vx tv) (hs : ∀ x, foldedSetIterable iter X.env x = pure x := by intro _; rfl) :
    PS X (.Assign [.Name y py] (.DictComp kx vx [⟨tg, iter, ifs, 0⟩] scope pos) spos) (tAsg (tDc wi g tt tk tv (own.map (·.2))) (gName i)) := by
  refine ⟨fun pins s σ H D I h => ?_⟩
  rw [exec_Assign_Name_used _ _ _ _ hsw]
  refine wpAny_bind (wpAny_standAt (wpAny_bind ?_))
  show wpAny _ X.A (do let _ ← comprehension (.DictComp kx vx [⟨tg, iter, ifs, 0⟩] scope pos) scope X.env (firstIterPos [⟨tg, iter, ifs, 0⟩] pos) newDict false (eval iter X.env) (some (assign (.Name y py) X.env))) _ _ s
  have h : tDc wi g tt tk tv (own.map (·.2)) σ H (fun x H1 => gName i x σ H1 D.nx) := h
  refine wpAny_bind (thn (dc_core (Qf := fun _ s' => SP X pins D .next s') hc hN I hi ok hg ht hk he hs h fun L C s' m H' I' q hn f => ?_) fun _ s' hq => wpAny_pure (wpAny_pure hq))
  show wpAny _ _ (assign (.Name y py) X.env (.ref L)) _ _ _
  refine wpAny_assign_Name (store_ok2 (v := V.ref L) I' hN hy (.inl hyl) rfl (fun s2 I2 ⟨a, sb, ha⟩ => ?_) (.inr hyl))
  obtain ⟨f0, f1, f2, f3, f4, f5⟩ := f
  have haC : C ≠ a := by
    rcases ha with z | z
    · rw [z]; exact f1
    · exact fun e => f4 y a z e.symm
  refine ⟨m, hn.sameBut sb haC, fun h3 sb3 => ?_⟩
  exact ⟨_, H', I2.turned (t' := s2.toks) (fun b o hb e => (sb3.2 b hb).trans e) f0 f1 f3 f4 f5, q⟩
theorem sw_trueD {kx vx : Expr} {gs : List Comprehension} {scope : Scope} {pos py : Pos} {y : Str} {l : Nat} {env : Env} (hk : env.scope.kind = .function) (hy : env.scope.names.lookup y = some .local) (hl : (py.line == pos.line) = true)
    (ha : (scope.names.any fun (n, k) => n == y && (k == .local || k == .cell)) = false) : swapsWith (.DictComp kx vx gs scope pos) (some (.Name y py)) l env = pure true := by
  have ky : env.kindOf y = some .local := hy
  have hb : env.blockKind = .function := by unfold Env.blockKind; rw [hk]; rfl
  unfold swapsWith
  simp only [hb, ky, ha, Expr.pos, hl]
  rfl
/-- over a dict's keys -/
theorem dc_keys {d : Addr} {o : Obj} {ks : List (Key × V)} {g : TG} {tt : TT} {tk tv : TE} {vs : List Nat} {σ : L2.St} {H1 : Hp} {D : Addr} {Qd : Hp → Prop} (Pv : Nat → Hp → Prop) (h0 : Pv 0 (upd H1 D (.dK []))) (hl : ∀ i H, i ≤ ks.length → Pv i H → H d = some (.frz o (.dK ks)))
    (hs : ∀ i k v H, ks[i]? = some (k, v) → Pv i H → g (kV k) (wipe σ vs) H fun σ2 H2 => wipe σ2 vs = wipe σ vs ∧ tt σ2 H2 fun b H3 =>
      if b = true then tk σ2 H3 fun y H4 => tv σ2 H4 fun z H5 => ∃ kvs k, y = kV k ∧ H5 D = some (.dK kvs) ∧ kvs.length < sizeLine ∧ Pv (i + 1) (upd H5 D (.dK (putK kvs k z))) else Pv (i + 1) H3) (hd : ∀ H, Pv ks.length H → Qd H) :
    ∃ W : Nat → Nat → Hp → Prop, (∃ m, W 0 m (upd H1 D (.dK []))) ∧ ∀ i m H, W i m H →
      ((Itk d o ks).stop i H ∧ Qd H) ∨ ((Itk d o ks).go i H ∧ ∃ Nx : Hp → Prop, (∀ H', Nx H' → ∃ m', m' < m ∧ W (i + 1) m' H') ∧ ∀ x H', (Itk d o ks).yld i H x H' → g x (wipe σ vs) H' fun σ2 H2 => wipe σ2 vs = wipe σ vs ∧ tt σ2 H2 fun b H3 =>
        if b = true then tk σ2 H3 fun y H4 => tv σ2 H4 fun z H5 => ∃ kvs k, y = kV k ∧ H5 D = some (.dK kvs) ∧ kvs.length < sizeLine ∧ Nx (upd H5 D (.dK (putK kvs k z))) else Nx H3) := by
  refine ⟨fun i m H => m = ks.length - i ∧ i ≤ ks.length ∧ Pv i H, ⟨ks.length, by simp, Nat.zero_le _, h0⟩, ?_⟩
  rintro i m H ⟨rfl, hi, p⟩
  have q := hl i H hi p
  by_cases hlt : i < ks.length
  · refine .inr ⟨⟨q, hlt⟩, Pv (i + 1), fun H' p' => ⟨ks.length - (i + 1), by omega, rfl, hlt, p'⟩, fun x H' y => ?_⟩
    obtain ⟨e, k, v, hk, rfl⟩ := y
    subst e
    exact hs i k v _ hk p
  · have e : i = ks.length := by omega
    subst e
    exact .inl ⟨⟨q, Nat.le_refl _⟩, hd H p⟩
end FC
namespace FC
open PySem L2 StX PyProof.Rows
theorem if_true_of {c : Bool} {A B : Prop} (hc : c = true) (h : A) : if c = true then A else B := by
  rw [if_pos hc]
  exact h
theorem if_false_of {c : Bool} {A B : Prop} (hc : c = false) (h : B) : if c = true then A else B := by
  rw [hc, if_neg Bool.false_ne_true]
  exact h
/-! ### the program's own classes of exceptions -/
structure Ecls (K : PySem.W.Frag) (mg : Str → Option Value) (x : Str) (C : Addr) : Prop where
  m : mg x = some (.ref C)
  q : PySem.W.excIn K C [.type "ValueError", .type "Exception", .type "BaseException", .type "object"] "ValueError.__new__" = true
  k : PySem.W.keepIn K (.ref C) = true
  b : PySem.W.subIn K (.ref C) (.type "BaseException") = some true
  t : PySem.W.typeIn K (.ref C) = some (.type "type")
  d : PySem.W.hasDictIn K C = true
theorem Ecls.exm {K : PySem.W.Frag} {mg : Str → Option Value} {x : Str} {C : Addr} (e : Ecls K mg x C) {cls : Value} {b : Bool} (h : PySem.W.subIn K cls (.ref C) = some b) : PySem.W.exmOne K cls (.ref C) = some b := PySem.W.exm_ref e.b e.d e.t h
/-- the words over which the order makes no difference -/
structure Ew (K : PySem.W.Frag) (mg : Str → Option Value) (a : Addr) : Prop where
  m : mg "EITHER_WAY" = some (.ref a)
  s : ∀ H, SqT K H a [.str "sum", .str "times", .str "same"]
structure Gl1 (mg : Str → Option Value) (t1 : Tok) : Prop where
  LIMIT : mg "LIMIT" = some (.int 1000000000 t1)
def spWithin (T : Addr) : Sp := fun vs H Q E => ∃ n : Int, vs = [.int n] ∧ (NumOk n → Q (.int n) H) ∧ (¬ NumOk n → E (.ref T) none H)
/-- what a word of two makes of two numbers: the number, or the class of the refusal -/
def spReck (B T : Addr) : Sp := fun vs H Q E => ∃ (o : Op) (x y : Int), vs = [.str o.str, .int x, .int y] ∧ NumOk x ∧ NumOk y ∧ (∀ n, made o x y = .is n → NumOk n → Q (.int n) H) ∧ (made o x y = .nought → E (.ref B) none H) ∧ (made o x y = .great → E (.ref T) none H)
theorem absI (n : Int) : (if n < 0 then -n else n) = (n.natAbs : Int) := by split <;> omega
theorem fdiv_ok {x y : Int} (hx : NumOk x) (hy : y ≠ 0) : NumOk (x.fdiv y) := by
  rcases Int.lt_or_gt_of_ne hy with h | h
  · have e : x.fdiv y = (-x).fdiv (-y) := by rw [Int.neg_fdiv_neg]
    rw [e, fdiv_pos _ (show 0 < -y by omega)]
    exact div_ok hx.neg (by omega)
  · rw [fdiv_pos _ h]
    exact div_ok hx h
theorem frest_ok {x y : Int} (hy0 : NumOk y) (hy : y ≠ 0) : NumOk (x - y * x.fdiv y) := by
  have e : x - y * x.fdiv y = x.fmod y := by rw [Int.fmod_def]
  rw [e]
  rcases Int.lt_or_gt_of_ne hy with h | h
  · have e2 : x.fmod y = -((-x).fmod (-y)) := by rw [Int.neg_fmod_neg]; omega
    rw [e2, Int.fmod_eq_emod_of_nonneg _ (show 0 ≤ -y by omega)]
    exact (mod_ok hy0.neg (show 0 < -y by omega)).neg
  · rw [Int.fmod_eq_emod_of_nonneg _ (Int.le_of_lt h)]
    exact mod_ok hy0 h
theorem made_div0 {o : Op} {x : Int} (h : isDiv o = true) : made o x 0 = .nought := by unfold made; rw [if_pos ⟨h, rfl⟩]
theorem made_part' {x y : Int} (hx : NumOk x) (hy : y ≠ 0) : made .part x y = .is (x.fdiv y) := by
  unfold made
  rw [if_neg (fun z => hy z.2)]
  exact if_pos (fdiv_ok hx hy)
theorem made_rest' {x y : Int} (hy0 : NumOk y) (hy : y ≠ 0) : made .rest x y = .is (x - y * x.fdiv y) := by
  unfold made
  rw [if_neg (fun z => hy z.2)]
  exact if_pos (frest_ok hy0 hy)
def spSettled : Sp := fun vs H Q _ => ∃ (o : Op) (va vb : V) (m n : Int), vs = [.str o.str, va, vb] ∧ Bears H va (.num m) ∧ Bears H vb (.num n) ∧ NumOk m ∧ NumOk n ∧ ∀ (H' : Hp) (v : V), Same H H' → Bears H' v (two1 o m n) → Q v H'
theorem made_nd {o : Op} {x y : Int} (h : isDiv o = false) : made o x y = if NumOk (raw o x y) then .is (raw o x y) else .great := by
  unfold made
  rw [if_neg (fun z => by rw [h] at z; exact Bool.noConfusion z.1)]
end FC
namespace FC
open PySem L2 StX PyProof.Rows
/-! ### the program's joined: contracts -/
def spPJoin (k : Nat) : Sp := fun vs H Q _ => ∃ (o : Op) (va vb : V) (a b : Ex), vs = [.str o.str, va, vb] ∧ Bears H va a ∧ Bears H vb b ∧ a.ok ∧ b.ok ∧ 3 * max a.deep b.deep + 1 ≤ k ∧
  (((o = .less ∧ ∀ m, a ≠ .num m) ∨ ((∃ m, a = .num m) ∧ (∀ n, b ≠ .num n) ∧ swaps o = true)) → 3 * max a.deep b.deep + 3 ≤ k) ∧ ∀ (H' : Hp) (v : V), Same H H' → Bears H' v (join o a b) → Q v H'
def spByN (k : Nat) : Sp := fun vs H Q _ => ∃ (o : Op) (vt : V) (t : Ex) (n : Int), vs = [.str o.str, vt, .int n] ∧ Bears H vt t ∧ t.ok ∧ NumOk n ∧ (∀ m, t ≠ .num m) ∧ 3 * t.deep ≤ k ∧ (o = .less → 3 * t.deep + 2 ≤ k) ∧
  ∀ (H' : Hp) (v : V), Same H H' → Bears H' v (joinN o t n) → Q v H'
def spStepN (g : Ex → Int → Ex) (k : Nat) : Sp := fun vs H Q _ => ∃ (vt : V) (t : Ex) (n : Int), vs = [vt, .int n] ∧ Bears H vt t ∧ t.ok ∧ NumOk n ∧ (∀ m, t ≠ .num m) ∧ 3 * t.deep ≤ k + 1 ∧
  ∀ (H' : Hp) (v : V), Same H H' → Bears H' v (g t n) → Q v H'
def hasN (o : Op) : Ex → Bool
  | .two p _ (.num _) => decide (p = o)
  | _ => false
def spHasN : Sp := fun vs H Q _ => ∃ (o : Op) (vt : V) (t : Ex), vs = [.str o.str, vt] ∧ Bears H vt t ∧ (∀ m, t ≠ .num m) ∧ Q (.bl (hasN o t)) H
def sameSide (m n : Int) : Bool := decide ((0 < m ∧ 0 < n) ∨ (m < 0 ∧ n < 0))
def spSameSide : Sp := fun vs H Q _ => ∃ m n : Int, vs = [.int m, .int n] ∧ Q (.bl (sameSide m n)) H
theorem hasN_two {o : Op} {t : Ex} (h : hasN o t = true) : ∃ b m, t = .two o b (.num m) := by
  cases t with
  | two p b c =>
    cases c with
    | num m => exact ⟨b, m, by rw [show p = o from of_decide_eq_true h]⟩
    | _ => cases h
  | _ => cases h
theorem word_nn {e : Ex} (h : ∀ m, e ≠ .num m) : decide (V.str e.word = V.str "num") = false := by
  cases e with
  | num n => exact absurd rfl (h n)
  | nam _ => show decide (V.str "name" = V.str "num") = false; decide
  | two o _ _ => exact op_num o
  | whn _ _ _ => show decide (V.str "when" = V.str "num") = false; decide
  | lett _ _ _ => show decide (V.str "let" = V.str "num") = false; decide
theorem sumN_zero {t : Ex} (h : ∀ m, t ≠ .num m) : sumN t 0 = t := by
  unfold sumN
  split
  · exact absurd rfl (h _)
  · exact if_pos rfl
  · exact if_pos rfl
  · exact if_pos rfl
theorem sumN_else {t : Ex} {n : Int} (h : ∀ m, t ≠ .num m) (h0 : n ≠ 0) (h1 : ∀ b m, t ≠ .two .sum b (.num m)) (h2 : ∀ b m, t ≠ .two .less (.num m) b) : sumN t n = .two .sum t (.num n) := by
  unfold sumN
  split
  · exact absurd rfl (h _)
  · exact absurd rfl (h1 _ _)
  · exact absurd rfl (h2 _ _)
  · exact if_neg h0
theorem timesN_one {t : Ex} (h : ∀ m, t ≠ .num m) : timesN t 1 = t := by
  unfold timesN
  split
  · exact absurd rfl (h _)
  · exact if_pos rfl
  · exact if_pos rfl
theorem timesN_else {t : Ex} {n : Int} (h : ∀ m, t ≠ .num m) (h0 : n ≠ 1) (h1 : ∀ b m, t ≠ .two .times b (.num m)) : timesN t n = .two .times t (.num n) := by
  unfold timesN
  split
  · exact absurd rfl (h _)
  · exact absurd rfl (h1 _ _)
  · exact if_neg h0
theorem partN_one {t : Ex} (h : ∀ m, t ≠ .num m) : partN t 1 = t := by
  unfold partN
  split
  · exact absurd rfl (h _)
  · exact if_pos rfl
  · exact if_pos rfl
theorem partN_else {t : Ex} {n : Int} (h : ∀ m, t ≠ .num m) (h0 : n ≠ 1) (h1 : ∀ b m, t ≠ .two .part b (.num m)) : partN t n = .two .part t (.num n) := by
  unfold partN
  split
  · exact absurd rfl (h _)
  · exact absurd rfl (h1 _ _)
  · exact if_neg h0
theorem restN_else {t : Ex} {n : Int} (h : ∀ m, t ≠ .num m) (h1 : ∀ b m, t ≠ .two .rest b (.num m)) : restN t n = .two .rest t (.num n) := by
  unfold restN
  split
  · exact absurd rfl (h _)
  · exact absurd rfl (h1 _ _)
  · rfl
theorem abs_lim {n : Int} : (if n < 0 then -n else n) ≤ 1000000000 ↔ NumOk n := by
  rw [absI, natAbs_ok]
  omega
end FC
namespace FC
open PySem L2 StX PyProof.Rows
/-- the end of a step: the word over t and the number as it stands -/
theorem stands2 (o : Op) {D : Ends} {σ : L2.St} {H : Hp} {vt : V} {t : Ex} {n : Int} {Q : VK} (s0 : σ[0]? = some (some vt)) (s1 : σ[1]? = some (some (.int n))) (hD : D.rt = Q) (b : Bears H vt t)
    (q : ∀ H' v, Same H H' → Bears H' v (.two o t (.num n)) → Q v H') : tRet (tTup (tCons (tC (.str o.str)) (tCons (tVar 0) (tCons (tTup (tCons (tC (.str "num")) (tCons (tVar 1) tNil))) tNil)))) D σ H := by
  subst hD
  refine ⟨_, s0, _, s1, (by show 2 ≤ sizeLine; decide), fun t1 ht1 => ?_⟩
  have g1 := same_new ht1 (.tup [.str "num", .int n])
  refine ⟨(by show 3 ≤ sizeLine; decide), fun t2 ht2 => ?_⟩
  have g2 := same_new ht2 (.tup [.str o.str, vt, .ref t1])
  exact q _ _ (g1.trans g2) (.two upd_same (b.mono (Tups.of (g1.trans g2))) (.num (g2 _ _ upd_same)))
/-- the number behind, as a new tuple: then the word joined over b and it -/
theorem new_num {H : Hp} {p : Addr} {j : Int} (hp : H p = none) : Same H (upd H p (.tup [.str "num", .int j])) ∧ Bears (upd H p (.tup [.str "num", .int j])) (.ref p) (.num j) := ⟨same_new hp _, .num upd_same⟩
theorem num1_deep (j : Int) : (Ex.num j).deep = 1 := rfl
theorem two_deep (o : Op) (a b : Ex) : (Ex.two o a b).deep = max a.deep b.deep + 1 := rfl
end FC
namespace FC
open PySem L2 StX PyProof.Rows
/-- a let folded: the contract of the let's own function -/
def spFoldLet (n : Nat) : Sp := fun vs H Q _ => ∃ (v : V) (x : Str) (e1 e2 : Ex) (d : Addr) (l : AL), vs = [v, .ref d] ∧ Bears H v (.lett x e1 e2) ∧ (Ex.lett x e1 e2).ok ∧ (Ex.lett x e1 e2).deep ≤ n + 1 ∧ H d = some (.dK (dS l)) ∧ AOk l ∧ l.length + (Ex.lett x e1 e2).deep ≤ 1000 ∧
  ∀ (H' : Hp) (r : V), Same H H' → Bears H' r (fold (.lett x e1 e2) (stg l)) → Q r H'
end FC
/-! all(x in y for x in a text), y a name of the def -/
namespace FC
open PySem PySem.Spec PyProof.Rows L2 GxR
section
variable {X : Cx} {pins : List (Addr × Obj)} {σ : L2.St} {H : Hp} {s : Shared}
theorem gen_strIn {c P : Addr} {iter : Expr} {x y : Str} {px gpos p1 p2 p3 : Pos} {scope : Scope} {te : TE} {k i : Nat} {Q' : Value → Shared → Prop} {R : Str → Str → Hp → Prop}
    (hr : Room k X.A) (TB : TabB X.base X.mg c P) (hcode : X.env.code = .ref c) (S : GenS X.env scope x) (hi : PE X iter te)
    (hN : X.N[i]? = some y) (hky : X.env.kindOf y = some .cell) (hly : scope.names.lookup y = some .free) (hcl : (cloFrom X.env.cells scope.names []).lookup y = X.env.cells.lookup y)
    (hdx : (x == ("__debug__" : Str)) = false) (hdy : (y == ("__debug__" : Str)) = false) (hdy2 : (y == ("__classdict__" : Str)) = false)
    (hs : ∀ v, genFold iter X.env v = pure v) (I : Inv X pins σ H s) (h : te σ H fun v H1 => ∃ a z : Str, v = .str a ∧ σ[i]? = some (some (.str z)) ∧ TabG H1 P ∧ R a z H1)
    (hQ : ∀ a z H1 g s5, R a z H1 → Ready X pins σ H1 P a (fun cc => decide (cc ∈ z.cps.toList)) g s5 → Q' (.ref g) s5) :
    wpAny (model X.prog X.w) X.A (eval (.GeneratorExp (.Compare (.Name x p1) [.In] [.Name y p2] p3) [⟨.Name x px, iter, [], 0⟩] scope gpos) X.env) Q' X.xe s := by
  refine wpAny_GeneratorExp_walksQ hr.hd S.co (closure_ok S.free) S.cell S.dot S.loc S.kind (by have := hr.dp; omega) ?_ hs
  refine thn (hi.run pins s σ H _ I h) fun xv s1 ⟨v, H1, I1, r1, q1⟩ => ?_
  obtain ⟨a, z, rfl, hσ, ⟨ps, hP, ht⟩, q1⟩ := q1
  obtain ⟨t, rfl⟩ := _root_.id r1
  obtain ⟨cy, tz, hcy, hcell⟩ : ∃ cy tz, X.env.cells.lookup y = some cy ∧ s1.heap.IsCell cy (some (.str z tz)) := by
    obtain ⟨m, hn, hl⟩ := I1.loc
    obtain ⟨u, r, l⟩ := hl i y _ hN hσ (.inr (.inl hky))
    obtain ⟨tz, rfl⟩ := r
    rcases l with ⟨hk, hm⟩ | ⟨hk, c, hc, hcell⟩
    · rw [hky] at hk
      cases hk
    · exact ⟨c, tz, hc, hcell⟩
  refine wpAny_pyIter_str fun o St W hst => ?_
  have hPs : s1.heap.get? P = some { cls := .none, data := .fields ps } := I1.hok P _ hP
  have hPlt : P < s1.heap.objs.size := Heap.lt_size hPs
  have hP2 : (s1.heap.push o).get? P = some { cls := .none, data := .fields ps } := Heap.get?_push_of_some _ hPs
  have cd : PySem.W.CodeHd (s1.heap.push o) c P := TB.code.keeps fun b u e => Heap.get?_push_of_some _ (I1.bk b u e)
  have lim2 : (s1.heap.push o).NoLimit := I1.nolimit.push o
  have hcyP : cy ≠ P := fun e => by
    have := I1.freeC y cy hcy
    rw [e, hP] at this
    cases this
  have cont : ∀ (code : Value) (h3 : Heap) (tk : Nat) (ps' : Array Value), Heap.ExtBut P (s1.heap.push o) h3 → (s1.heap.push o).objs.size ≤ h3.objs.size → h3.get? P = some { cls := .none, data := .fields ps' } → (∃ more, ps' = ps ++ more) → TriplesOk ps'.toList →
      wpAny (model X.prog X.w) X.A (builtinsFor X.env.globals X.env.builtins) (fun bi s₄ =>
        ∃ Ia fp wr n₀ Pf St₀ pz F, Value.ref s1.heap.objs.size = .ref Ia ∧ (∀ A' : Around, A'.handled = none → Walks X.prog X.w A' Ia fp wr n₀ Pf St₀) ∧ St₀ 0 s₄.heap ∧ (∀ b ∈ fp, b < s₄.heap.objs.size) ∧ s₄.heap.NoLimit ∧ cStatics ∉ wr ∧
          (∀ href : Heap, (∀ b o, s₄.heap.get? b = some o → href.get? b = some o) →
            QuietGen X.prog X.w (genEnv scope (cloFrom X.env.cells scope.names []) s₄.heap.objs.size code bi X.env) x [] (.Compare (.Name x p1) [.In] [.Name y p2] p3) (List.range s₄.heap.objs.size) wr Pf pz F href) ∧
          (∀ a h₅ tk gs, gs.bare = true → s₄.heap.objs.size < a → h₅.objs.size = a + 1 → (∀ b o, s₄.heap.get? b = some o → h₅.get? b = some o) →
            WalksS X.prog X.w X.A.in4 a (a :: s₄.heap.objs.size :: List.range s₄.heap.objs.size) (s₄.heap.objs.size :: wr) (GenOnlyQ s₄.gens.size) (passing pz n₀ 0).length
              (fun j y => ∃ i, (passing pz n₀ 0)[j]? = some i ∧ F i y) (GenAt X.prog X.w X.A.in4 a s₄.gens.size s₄.heap.objs.size (List.range s₄.heap.objs.size) wr pz n₀ F) →
            GenAt X.prog X.w X.A.in4 a s₄.gens.size s₄.heap.objs.size (List.range s₄.heap.objs.size) wr pz n₀ F 0 { s₄ with gens := s₄.gens.push gs, toks := tk, heap := h₅ } →
            Q' (.ref a) { s₄ with gens := s₄.gens.push gs, toks := tk, heap := h₅ })) X.xe { s1 with heap := h3, toks := tk } := by
    intro code h3 tk ps' hx hsz hP3 hmore ht3
    obtain ⟨bm, ob, e1, e2, e3, e4, e5, e6, e7, e8⟩ := TB.bm
    have hcP : cStatics ≠ P := fun e => by
      obtain ⟨_, hns, _⟩ := I1.nolimit
      obtain ⟨o', es, ep, ho, hd, _⟩ := hns
      rw [e, hPs] at ho
      cases ho
      cases hd
    have hcl2 : cStatics < s1.heap.objs.size := let ⟨_, hns, _⟩ := I1.nolimit; hns.lt
    have sz2 : (s1.heap.push o).objs.size = s1.heap.objs.size + 1 := Heap.size_push ..
    have keep3 : ∀ b u, b ≠ P → s1.heap.get? b = some u → h3.get? b = some u := fun b u hb e => hx b u hb (Heap.get?_push_of_some _ e)
    refine wpAny_builtinsFor (m := X.mg) (by rw [I1.ok.glob]; exact ((I1.mod.glob.keeps I1.bk).push o).extBut hx TB.gP) e1 e2 (keep3 _ _ e4 (I1.bk _ _ e5)) e6 e7 e8 ?_
    refine ⟨s1.heap.objs.size, [s1.heap.objs.size], [s1.heap.objs.size], a.cps.size, SignAt a, St, (fun _ => true), (fun i y => ∃ cc, a.cps[i]? = some cc ∧ y = .bool (decide (cc ∈ z.cps.toList))), rfl, W, ?_, ?_, lim2.extBut hx hcP, ?_, ?_, ?_⟩
    · refine (W X.A hr.hd).frame _ _ _ hst fun b hb u e => hx b u (fun z => ?_) e
      rcases List.mem_cons.mp hb with z2 | z2
      · exact Nat.ne_of_lt hPlt (z.symm.trans z2)
      · cases z2
    · intro b hb
      rcases List.mem_cons.mp hb with z | z
      · rw [z]
        show s1.heap.objs.size < h3.objs.size
        omega
      · cases z
    · intro z
      rcases List.mem_cons.mp z with z | z
      · exact Nat.ne_of_lt hcl2 z
      · cases z
    · intro href hhref
      refine ⟨fun A' E' i v s₂ m₂ hA hPv hn hm hk => ?_, fun A' E' i v s₂ m₂ hA hPv hp hn hm hk => ?_⟩
      · simp only [List.forIn_nil]
        exact wpAny_pure ⟨rfl, keeps_refl _⟩
      · obtain ⟨cc, u, hcc, rfl⟩ := hPv
        obtain ⟨oc, hoc, hocd⟩ := hcell
        have hlt := Heap.lt_size hoc
        have hc2 : s₂.heap.IsCell cy (some (.str z tz)) := ⟨oc, hk cy (List.mem_range.mpr (Nat.lt_of_lt_of_le (Nat.lt_succ_of_lt hlt) (Nat.le_trans (Nat.le_of_eq sz2.symm) hsz))) (fun z => by
            rcases List.mem_cons.mp z with z | z
            · exact Nat.ne_of_lt hlt z
            · cases z) oc (hhref cy oc (keep3 cy oc hcyP hoc)), hocd⟩
        refine wpAny_Compare1 ?_
        refine wpAny_Name (wpAny_loadName_local S.kind (show scope.names.lookup x = some .local from S.loc) hn hm ?_) hdx
        refine wpAny_Name (wpAny_loadName_free S.kind (show scope.names.lookup y = some .free from hly) (show (cloFrom X.env.cells scope.names []).lookup y = some cy by rw [hcl]; exact hcy) hc2 ?_ hdy2) hdy
        exact PyProof.Rows.in_str ⟨⟨cc, hcc, congrArg Value.bool (PySem.StrLaws.found_one z cc)⟩, keeps_tok _ _⟩
    · intro g h5 tk5 gs hgb hag hsz5 hk5 W5 hat
      simp only [GxR.passing_true, List.length_range] at W5
      refine hQ a z H1 g _ q1 ⟨_, _, _, _, _, W5.in4_1, hat, ?_, fun s' hm => ?_⟩
      · intro j y sj Qj Ej hy hQj
        obtain ⟨i, hij, cc, hcc, rfl⟩ := hy
        obtain ⟨hj, ej⟩ := List.getElem?_eq_some_iff.mp hij
        rw [List.getElem_range] at ej
        subst ej
        have e9 : a.cps.toList[j]? = some cc := by rw [Array.getElem?_toList]; exact hcc
        have hQ2 : Qj (trF (fun cc => decide (cc ∈ z.cps.toList)) a.cps.toList j) sj := hQj
        rw [trF_some e9] at hQ2
        exact wpAny_truthy_bool hQ2
      · obtain ⟨more, em⟩ := hmore
        have nwr : ∀ b u, s1.heap.get? b = some u → b ∉ h3.objs.size :: [s1.heap.objs.size] := fun b u e hb => by
          have hl := Heap.lt_size e
          rcases List.mem_cons.mp hb with z | z
          · rw [z] at hl
            have h9 : (h3.objs.size : Nat) < s1.heap.objs.size := hl
            omega
          · rcases List.mem_cons.mp z with z | z
            · rw [z] at hl
              exact Nat.lt_irrefl _ hl
            · cases z
        have J := inv_tab (more := more) (h' := s'.heap) (g' := s'.gens) (d' := s'.drawn) (t' := s'.toks) I1 hP (fun b u hb e => hm.heap b u (nwr b u e) (hk5 b u (keep3 b u hb e)))
          (by rw [← em]; exact hm.heap P _ (nwr P _ hPs) (hk5 P _ hP3)) (AllBare.movedS (I1.bare.push hgb) hm)
        rw [sh_eta s1 s' hm.os] at J
        refine ⟨upd H1 P (.tbl (ps ++ more)), ⟨⟨ps ++ more, upd_same, by rw [← em]; exact ht3⟩, fun b hb => upd_ne hb⟩, J⟩
  refine ⟨lim2, ?_⟩
  cases hf : codeAmong gpos ps.toList with
  | none =>
    refine wpAny_genexprCodeX hcode (cd.code hP2 ht) (cd.tab hP2) hf fun c' h' tk hx hge hlt hco' _ htab' _ => ?_
    obtain ⟨o1, vs, f1, tf, fl, tg, inF, tx, tt, op, _, _, _, _, _, _, _, _, _, htr, _⟩ := hco'
    exact cont _ h' tk _ hx (Nat.le_trans hge (Nat.le_of_lt hlt)) htab'.2 ⟨_, rfl⟩ htr
  | some cv =>
    refine wpAny_genexprCode_hit hcode (cd.code hP2 ht) hf ?_
    exact cont cv (s1.heap.push o) s1.toks ps (Heap.ExtBut.refl _ _) (Nat.le_refl _) hP2 ⟨#[], by simp⟩ ht
/-- all(x in y for x in e), e and y texts -/
def tAllIn (P : Addr) (i : Nat) (te : TE) : TE := fun σ H Q => te σ H fun v H1 => ∃ a z : Str, v = .str a ∧ σ[i]? = some (some (.str z)) ∧ TabG H1 P ∧ ∀ H2, Tabbed P H1 H2 → Q (.bl (a.cps.toList.all fun cc => decide (cc ∈ z.cps.toList))) H2
theorem pe_allIn {c P : Addr} {iter : Expr} {x y : Str} {px p pos gpos p1 p2 p3 : Pos} {scope : Scope} {te : TE} {k i : Nat}
    (hr : Room k X.A) (hg : Gl X "all") (hm : X.mg "all" = none) (hb : bootBuiltins "all" = some (.builtin "all")) (TB : TabB X.base X.mg c P) (hcode : X.env.code = .ref c) (S : GenS X.env scope x) (hi : PE X iter te)
    (hN : X.N[i]? = some y) (hky : X.env.kindOf y = some .cell) (hly : scope.names.lookup y = some .free) (hcl : (cloFrom X.env.cells scope.names []).lookup y = X.env.cells.lookup y)
    (hdx : (x == ("__debug__" : Str)) = false) (hdy : (y == ("__debug__" : Str)) = false) (hdy2 : (y == ("__classdict__" : Str)) = false)
    (hs : ∀ v, genFold iter X.env v = pure v)
    (he : starEach [.GeneratorExp (.Compare (.Name x p1) [.In] [.Name y p2] p3) [⟨.Name x px, iter, [], 0⟩] scope gpos] X.env = (false, eval (.GeneratorExp (.Compare (.Name x p1) [.In] [.Name y p2] p3) [⟨.Name x px, iter, [], 0⟩] scope gpos) X.env) :: starEach [] X.env := by rfl) :
    PE X (.Call (.Name "all" p) [.GeneratorExp (.Compare (.Name x p1) [.In] [.Name y p2] p3) [⟨.Name x px, iter, [], 0⟩] scope gpos] [] pos) (tAllIn P i te) := by
  refine ⟨fun pins s σ H Q I h => ?_⟩
  refine wpAny_Call_Name_kw (ld_blt I hg hm hb ?_)
  refine PyProof.Rows.callWith_builtin1 ?_ he (by rfl)
  rw [he]
  show wpAny _ _ (spliced ((false, eval (.GeneratorExp (.Compare (.Name x p1) [.In] [.Name y p2] p3) [⟨.Name x px, iter, [], 0⟩] scope gpos) X.env) :: backTo pos (starEach [] X.env))) _ _ s
  refine Calls.spliced_cons (gen_strIn (R := fun a z H1 => ∀ H2, Tabbed P H1 H2 → Q (.bl (a.cps.toList.all fun cc => decide (cc ∈ z.cps.toList))) H2) hr TB hcode S hi hN hky hly hcl hdx hdy hdy2 hs I h fun a z H1 g s5 hR hG => ?_)
  obtain ⟨fp, wr, G, F, St, W, hst, htr, hI⟩ := hG
  refine Calls.spliced_nil ?_
  refine call_all_walkS (W.self 0 _ _ _ hst ⟨g, fp, wr, G, _, F, St, _, rfl, W, hst, htr, fun s' hmv => ?_⟩)
  obtain ⟨H2, hT, J⟩ := hI s' hmv
  refine ⟨.bl _, H2, J, rfl, ?_⟩
  rw [all_signs a _]
  exact hR H2 hT
end
end FC
namespace FC
open PySem L2 StX PyProof.Rows
open TL (tl)
section
variable {P : Program} {w : World} {K : PySem.W.Frag} {mg : Str → Option Value} {base : Heap} {t1 t2 : Tok} {Z f g f1 f2 f3 f4 f5 f6 f7 f8 f9 c Pt : Addr} {fd gd fd1 fd2 fd3 fd4 fd5 fd6 fd7 fd8 fd9 : FuncData}
/-! ### the program's reading: the end of a piece, a sign that has to stand -/
def spEnd : Sp := fun vs H Q _ => ∃ (s : Str) (i : Nat), vs = [.str s, .int (i : Int)] ∧ s.length ≤ 20000 ∧ Q (.int ((i + (wrd ((tl s).drop i)).length : Nat) : Int)) H
def spPast (Z : Addr) : Sp := fun vs H Q E => ∃ (s : Str) (i cc : Nat), vs = [.str s, .int (i : Int), .str ⟨#[cc]⟩] ∧ s.length ≤ 20000 ∧ i ≤ 20000 ∧ (∀ r, pastC cc ((tl s).drop i) = some r → Q (.int ((i + 1 : Nat) : Int)) H) ∧ (pastC cc ((tl s).drop i) = none → E (.ref Z) none H)
theorem sc_end : FnScope ["text", "at", "end"] ["text", "at"] (defScope s_end) := ⟨rfl, rfl, rfl, by decide +kernel, rfl, by decide +kernel, by decide +kernel⟩
theorem wrd_le (l : List Nat) : (wrd l).length ≤ l.length := by
  have h := congrArg List.length (wrd_aft l)
  rw [List.length_append] at h
  omega
theorem wrd_at : ∀ (l : List Nat) {k c : Nat}, k ≤ (wrd l).length → l[k]? = some c → (sepC c = false → k + 1 ≤ (wrd l).length) ∧ (sepC c = true → k = (wrd l).length)
  | [], k, c, _, h => by simp at h
  | d :: l, 0, c, _, h => by
    have e : d = c := by simpa using h
    subst e
    constructor
    · intro h1
      have : wrd (d :: l) = d :: wrd l := by
        show (d :: l).takeWhile (fun c => !sepC c) = _
        rw [List.takeWhile_cons, h1]
        rfl
      rw [this, List.length_cons]
      omega
    · intro h1
      have : wrd (d :: l) = [] := by
        show (d :: l).takeWhile (fun c => !sepC c) = _
        rw [List.takeWhile_cons, h1]
        rfl
      rw [this]
      rfl
  | d :: l, k + 1, c, hk, h => by
    have hd : sepC d = false := by
      cases q : sepC d with
      | false => rfl
      | true =>
        have : wrd (d :: l) = [] := by
          show (d :: l).takeWhile (fun c => !sepC c) = _
          rw [List.takeWhile_cons, q]
          rfl
        rw [this] at hk
        exact absurd hk (by simp)
    have e : wrd (d :: l) = d :: wrd l := by
      show (d :: l).takeWhile (fun c => !sepC c) = _
      rw [List.takeWhile_cons, hd]
      rfl
    rw [e, List.length_cons] at hk ⊢
    obtain ⟨h1, h2⟩ := wrd_at l (k := k) (c := c) (by omega) (by simpa using h)
    exact ⟨fun z => by have := h1 z; omega, fun z => by have := h2 z; omega⟩
theorem ok_end (d : Df K mg "_end" s_end ["text", "at"] f fd) (z : Bl2 mg) : FnOk P w K mg base CX0 1 f fd ["text", "at"] spEnd := by
  refine d.F.ok sc_end (fun vs H Q E h => ?_) (fun cdv A outer s H vs Q E hr h => ?_)
  · obtain ⟨s, i, rfl, _⟩ := h
    rfl
  obtain ⟨s, i, rfl, hl, q⟩ := h
  refine ⟨_, (pss_cons (ps_set (i := 2) sc_end.nd rfl (.inl rfl) (pv 1))
    (pss_cons (ps_while PassesOwn.never (PW.pt (pw_and (pt_cmpR op_lt (pv 2) (pe_callB call_len_str (by rfl) z.len PySem.boot_len (pa_cons (pv 0) pa_nil)) (nomark _)) (pw_and1 (pt_cmpR op_notIn_sign (pe_ix ix_str (pv 0) (pv 2) (fun _ _ => rfl)) pe_str rfl)))) (pss_one (ps_aug (i := 2) sc_end.nd rfl (.inl rfl) pe_int ip_add)))
    (pss_one (ps_ret (pv 2))))), ?_⟩
  refine ⟨_, rfl, ?_⟩
  have hl2 : s.length = (tl s).length := TL.len_tl s
  have hw := wrd_le ((tl s).drop i)
  rw [List.length_drop] at hw
  refine while_by (fun σ H' => H' = H ∧ ∃ k, σ = [some (.str s), some (.int (i : Int)), some (.int ((i + k : Nat) : Int))] ∧ k ≤ (wrd ((tl s).drop i)).length) (fun σ _ => match σ with
    | [_, _, some (.int n)] => i + (wrd ((tl s).drop i)).length - n.toNat
    | _ => 0) ⟨rfl, 0, rfl, Nat.zero_le _⟩ (fun σ H' hI => ?_) (fun σ H' Q1 Q2 hm h => ?_)
  · obtain ⟨rfl, k, rfl, hk⟩ := hI
    have stop : k = (wrd ((tl s).drop i)).length → tRet (tVar 2) { nx := fun x H' => Q V.non H', rt := Q } [some (V.str s), some (V.int (i : Int)), some (V.int ((i + k : Nat) : Int))] H' := fun e => by
      rw [e]
      exact ⟨_, rfl, q⟩
    refine ⟨_, rfl, _, rfl, s, rfl, by rw [sizeLine_eq]; omega, _, _, rfl, rfl, _, rfl, ?_⟩
    refine ite2 (fun a => ?_) (fun a => ?_)
    · have a' : ((i + k : Nat) : Int) < ((s.length : Nat) : Int) := of_decide_eq_true a
      have hlt : i + k < (tl s).length := by omega
      have hc : atI s.cps.toList ((i + k : Nat) : Int) = some ((tl s)[i + k]) := at_ofA rfl (List.getElem?_eq_getElem hlt)
      refine ⟨_, rfl, _, rfl, s, _, _, rfl, rfl, by rw [sizeLine_eq]; omega, hc, _, _, rfl, rfl, _, rfl, ?_⟩
      have hdk : ((tl s).drop i)[k]? = some ((tl s)[i + k]) := by rw [List.getElem?_drop, List.getElem?_eq_getElem hlt]
      have hsep : ∀ cc : Nat, decide (cc ∈ (Str.ofString " ()").cps.toList) = sepC cc := fun cc => by
        have e : (Str.ofString " ()").cps.toList = [32, 40, 41] := by decide +kernel
        rw [e]
        unfold sepC
        simp [Bool.or_assoc]
        rfl
      rw [hsep]
      obtain ⟨h1, h2⟩ := wrd_at ((tl s).drop i) hk hdk
      refine ite2 (fun b => ?_) (fun b => ?_)
      · have b' : sepC (tl s)[i + k] = false := by simpa using b
        have hlt2 := h1 b'
        refine ⟨_, rfl, _, _, rfl, rfl, ⟨rfl, k + 1, ?_, hlt2⟩, ?_⟩
        · show [some (V.str s), some (V.int (i : Int)), some (V.int (((i + k : Nat) : Int) + 1))] = _
          rw [show ((i + k : Nat) : Int) + 1 = ((i + (k + 1) : Nat) : Int) by omega]
        · show i + (wrd ((tl s).drop i)).length - (((i + k : Nat) : Int) + 1).toNat < i + (wrd ((tl s).drop i)).length - ((i + k : Nat) : Int).toNat
          omega
      · have b' : sepC (tl s)[i + k] = true := by simpa using b
        exact stop (h2 b')
    · have a' : ¬ ((i + k : Nat) : Int) < ((s.length : Nat) : Int) := fun z => a (decide_eq_true z)
      exact stop (by omega)
  · obtain ⟨v1, e1, v2, e2, z1, ez, hz, b1, b2, eb1, eb2, b3, eb3, h⟩ := h
    refine ⟨v1, e1, v2, e2, z1, ez, hz, b1, b2, eb1, eb2, b3, eb3, ?_⟩
    cases b3 with
    | false => exact hm _ _ h
    | true =>
      obtain ⟨w1, f1, w2, f2, c1, c2, c3, g1, g2, g3, g4, c4, c5, g5, g6, g7, g8, h⟩ := h
      exact ⟨w1, f1, w2, f2, c1, c2, c3, g1, g2, g3, g4, c4, c5, g5, g6, g7, g8, hm _ _ h⟩
theorem cut_nat (s : Str) {i j : Nat} (h : i ≤ j) : cutS s (some (i : Int)) (some (j : Int)) = ⟨(((tl s).drop i).take (j - i)).toArray⟩ := by
  unfold cutS
  rw [HT.sIx_nat, HT.sIx_nat]
  have e : s.length = (tl s).length := TL.len_tl s
  congr 2
  rw [e]
  show ((tl s).drop (min i (tl s).length)).take (min j (tl s).length - min i (tl s).length) = ((tl s).drop i).take (j - i)
  by_cases hi : i ≤ (tl s).length
  · rw [Nat.min_eq_left hi]
    by_cases hj : j ≤ (tl s).length
    · rw [Nat.min_eq_left hj]
    · rw [Nat.min_eq_right (by omega), List.take_of_length_le (by rw [List.length_drop]; omega), List.take_of_length_le (by rw [List.length_drop]; omega)]
  · rw [List.drop_eq_nil_of_le (show (tl s).length ≤ min i (tl s).length by omega), List.drop_eq_nil_of_le (show (tl s).length ≤ i by omega), List.take_nil, List.take_nil]
theorem cut_wrd (s : Str) (i : Nat) : cutS s (some (i : Int)) (some ((i + (wrd ((tl s).drop i)).length : Nat) : Int)) = ⟨(wrd ((tl s).drop i)).toArray⟩ := by
  rw [cut_nat s (Nat.le_add_right _ _)]
  congr 2
  have h := wrd_aft ((tl s).drop i)
  have e : i + (wrd ((tl s).drop i)).length - i = (wrd ((tl s).drop i)).length := by omega
  rw [e]
  conv => lhs; arg 2; rw [← h]
  exact List.take_left' rfl
theorem drop_wrd (s : Str) (i : Nat) : (tl s).drop (i + (wrd ((tl s).drop i)).length) = aft ((tl s).drop i) := by
  rw [← List.drop_drop]
  have h := wrd_aft ((tl s).drop i)
  conv => lhs; arg 2; rw [← h]
  exact List.drop_left' rfl
theorem drop_past {s : Str} {i cc : Nat} {r : List Nat} (h : pastC cc ((tl s).drop i) = some r) : (tl s).drop (i + 1) = r ∧ i + 1 ≤ s.length := by
  rw [← List.drop_drop]
  cases q : (tl s).drop i with
  | nil =>
    rw [q] at h
    cases h
  | cons d l =>
    rw [q] at h
    have hlt : i < (tl s).length := by
      have := congrArg List.length q
      rw [List.length_drop, List.length_cons] at this
      omega
    have e : s.length = (tl s).length := TL.len_tl s
    refine ⟨?_, by omega⟩
    have h : (if d = cc then some l else none) = some r := h
    by_cases hc : d = cc
    · rw [if_pos hc] at h
      exact Option.some.inj h
    · rw [if_neg hc] at h
      cases h
theorem sc_past : FnScope ["text", "at", "sign"] ["text", "at", "sign"] (defScope s_past) := ⟨rfl, rfl, rfl, by decide +kernel, rfl, by decide +kernel, by decide +kernel⟩
theorem ok_past (d : Df K mg "_past" s_past ["text", "at", "sign"] f fd) (E_BadText : Ecls K mg "BadText" Z) : FnOk P w K mg base (L2.CX P w) 1 f fd ["text", "at", "sign"] (spPast Z) := by
  refine d.F.okX sc_past (fun vs H Q E h => ?_) (fun cdv A outer s H vs Q E hr h => ?_)
  · obtain ⟨s, i, cc, rfl, _⟩ := h
    rfl
  obtain ⟨s, i, cc, rfl, hl, hi, q1, q2⟩ := h
  refine ⟨_, (pss_cons (ps_if (pt_cmpR op_ne (pe_slice sl_str (pv 0) (po_some (pv 1)) (po_some (pe_op op_add (pv 1) pe_int))) (pv 2) (nomark _)) (pss_one (ps_raise rfl (takes_of rfl rfl rfl rfl) (SkE.pmk_own1 PySem.F.excBase_ValueError E_BadText.q E_BadText.m E_BadText.k (raises_own E_BadText.b E_BadText.t) (by rfl) (pe_joined (PJ.cons pe_str (PJ.cons (pe_fmt (pv 1)) PJ.nil)))))) pss_nil)
    (pss_one (ps_ret (pe_op op_add (pv 1) pe_int)))), ?_⟩
  have ec : cutS s (some (i : Int)) (some ((i : Int) + 1)) = ⟨(((tl s).drop i).take 1).toArray⟩ := by
    have h := cut_nat s (Nat.le_add_right i 1)
    rw [show i + 1 - i = 1 by omega] at h
    exact h
  refine ⟨_, rfl, _, rfl, _, rfl, _, rfl, _, _, rfl, rfl, _, rfl, s, rfl, by rw [sizeLine_eq]; omega, ?_⟩
  rw [ec]
  have good : ∀ r, pastC cc ((tl s).drop i) = some r → tRet (tOp (rI0 fun i j => V.int (i + j)) (tVar 1) (tC (V.int 1))) { nx := fun x H' => Q V.non H', rt := Q } [some (V.str s), some (V.int (i : Int)), some (V.str ⟨#[cc]⟩)] H := fun r e =>
    ⟨_, rfl, _, _, rfl, rfl, q1 r e⟩
  have e0 : (Str.ofString "another sign is to stand at ").length = 28 := by decide +kernel
  have hi2 : ((i : Int)).natAbs < 10 ^ 10 := by omega
  have h4 := int_text_length_le10 (k := 10) (by decide) hi2
  rw [← PySem.ofString_length] at h4
  have bad : pastC cc ((tl s).drop i) = none → tJs [tC (V.str (Str.ofString "another sign is to stand at ")), tFmt (tVar 1)] Str.empty [some (V.str s), some (V.int (i : Int)), some (V.str ⟨#[cc]⟩)] H fun out H1 => E (.ref Z) none H1 := fun e => by
    refine ⟨_, rfl, (by rw [app_len, e0, sizeLine_eq]; decide), _, rfl, .inr ⟨_, rfl, ?_, _, rfl, (by rw [app_len, app_len, e0, sizeLine_eq]; show 0 + 28 + _ ≤ _; omega), q2 e⟩⟩
    have h2 : ((i : Int)).natAbs < 2 ^ 1920 := Nat.lt_of_le_of_lt (show ((i : Int)).natAbs ≤ 20000 by omega) (by decide +kernel)
    by_cases h0 : ((i : Int)).natAbs = 0
    · rw [h0]
      decide +kernel
    · exact (Nat.log2_lt h0).mpr h2
  cases q : (tl s).drop i with
  | nil =>
    rw [q] at bad
    refine ⟨_, rfl, rfl, true, congrArg V.bl (by simp), iteT (bad rfl)⟩
  | cons d l =>
    rw [q] at bad good
    by_cases hc : d = cc
    · subst hc
      exact ⟨_, rfl, rfl, false, congrArg V.bl (by simp), iteF (good l (if_pos rfl))⟩
    · exact ⟨_, rfl, rfl, true, congrArg V.bl (by simp [hc]), iteT (bad (if_neg hc))⟩
end
end FC
namespace FC
open PySem L2 StX PyProof.Rows GxR
open TL (tl)
/-- the module's constants -/
structure Gtx (mg : Str → Option Value) (t1 t2 t3 t4 t5 : Tok) : Prop where
  LETTERS : mg "LETTERS" = some (.str "abcdefghijklmnopqrstuvwxyz" t1)
  FIGURES : mg "FIGURES" = some (.str "0123456789" t2)
  LONGEST_NAME : mg "LONGEST_NAME" = some (.int 8 t3)
  LIMIT : mg "LIMIT" = some (.int 1000000000 t4)
  DEEPEST : mg "DEEPEST" = some (.int 60 t5)
section
variable {P : Program} {w : World} {K : PySem.W.Frag} {mg : Str → Option Value} {base : Heap} {t1 t2 t3 t4 t5 : Tok} {Z f g f1 f2 f3 f4 f5 f6 f7 f8 f9 c Pt : Addr} {fd gd fd1 fd2 fd3 fd4 fd5 fd6 fd7 fd8 fd9 : FuncData}
def gScope : Scope := match defBody s_all_of with
  | [.Return (some (.Call _ [.GeneratorExp _ _ sc _] _ _)) _] => sc
  | _ => default
def spAllOf (Pt : Addr) : Sp := fun vs H Q _ => ∃ a z : Str, vs = [.str a, .str z] ∧ TabG H Pt ∧ ∀ H', Tabbed Pt H H' → Q (.bl (a.cps.toList.all fun cc => decide (cc ∈ z.cps.toList))) H'
theorem sc_all_of : FnScope ["piece", "signs"] ["piece", "signs"] (defScope s_all_of) := ⟨rfl, rfl, rfl, by decide +kernel, rfl, by decide +kernel, by decide +kernel⟩
theorem ok_all_of (d : Df K mg "_all_of" s_all_of ["piece", "signs"] f fd) (z : Bl2 mg) (zall : mg "all" = none) (hc : fd.code = .ref c) (TB : TabB base mg c Pt) : FnOk P w K mg base CX0 1 f fd ["piece", "signs"] (spAllOf Pt) := by
  obtain ⟨⟨oc, od, kV, doc, pm, an, cdv, ct, osl, rfl, lk, hcdv⟩, kp⟩ := d.F
  obtain rfl : cdv = .ref c := hc
  refine fn_of lk hcdv sc_all_of (fun vs H Q E h => ?_) fun A outer s H vs Q E hr h => ?_
  · obtain ⟨a, b, rfl, _⟩ := h
    rfl
  obtain ⟨a, b, rfl, hT, q⟩ := h
  have hcd : (envOfC "_all_of" (defScope s_all_of) s.heap.objs.size f (.ref c)).code = .ref c := rfl
  have gS : GenS (envOfC "_all_of" (defScope s_all_of) s.heap.objs.size f (.ref c)) gScope "sign" := ⟨rfl, rfl, by decide +kernel, rfl, rfl, fun y hy hk => ?_⟩
  · suffices hh : ∃ t, PSs (cxOf CX0 P w K mg base ["piece", "signs"] "_all_of" (defScope s_all_of) f (.ref c) A outer s H E).nox (defBody s_all_of) t ∧ t { nx := fun _ H' => Q .non H', rt := Q } (L2.start ["piece", "signs"] [V.str a, V.str b]) H by
      obtain ⟨t, h, q⟩ := hh
      exact ⟨t, h.nox, q⟩
    refine ⟨_, (pss_one (ps_ret (pe_allIn (i := 1) hr (by rfl) zall (by decide +kernel) TB hcd gS (pv 0) rfl rfl rfl rfl (by decide) (by decide) (by decide) (fun _ => rfl)))), ?_⟩
    refine ⟨_, rfl, a, b, rfl, rfl, hT, fun H' hH => q H' hH⟩
  · have : y.1 = "signs" := by
      revert y
      decide +kernel
    rw [this]
    exact ⟨_, rfl⟩
theorem low_mem (cc : Nat) : decide (cc ∈ (Str.ofString "abcdefghijklmnopqrstuvwxyz").cps.toList) = lowC cc := by
  have e : (Str.ofString "abcdefghijklmnopqrstuvwxyz").cps.toList = List.range' 97 26 := by decide +kernel
  rw [e]
  unfold lowC
  rw [Bool.eq_iff_iff, decide_eq_true_eq, Bool.and_eq_true, decide_eq_true_eq, decide_eq_true_eq, List.mem_range'_1]
  omega
theorem dig_mem (cc : Nat) : decide (cc ∈ (Str.ofString "0123456789").cps.toList) = digC cc := by
  have e : (Str.ofString "0123456789").cps.toList = List.range' 48 10 := by decide +kernel
  rw [e]
  unfold digC
  rw [Bool.eq_iff_iff, decide_eq_true_eq, Bool.and_eq_true, decide_eq_true_eq, decide_eq_true_eq, List.mem_range'_1]
  omega
theorem tabRf {H : Hp} (h : TabG H Pt) : Tabbed Pt H H := ⟨h, fun _ _ => rfl⟩
def spNm (Z Pt : Addr) : Sp := fun vs H Q E => ∃ x : Str, vs = [.str x] ∧ x.length ≤ 20000 ∧ TabG H Pt ∧ (∀ H', Tabbed Pt H H' → nameB (tl x) = true → Q (.str x) H') ∧ (∀ H', Tabbed Pt H H' → nameB (tl x) = false → E (.ref Z) none H')
theorem sc_name : FnScope ["piece"] ["piece"] (defScope s_name) := ⟨rfl, rfl, rfl, by decide +kernel, rfl, by decide +kernel, by decide +kernel⟩
theorem ok_name (d : Df K mg "_name" s_name ["piece"] f fd) (z : Bl2 mg) (gt : Gtx mg t1 t2 t3 t4 t5) (E_BadText : Ecls K mg "BadText" Z)
    (d_all_of : Df K mg "_all_of" s_all_of ["piece", "signs"] f1 fd1) (G_all_of : FnOk P w K mg base CX0 1 f1 fd1 ["piece", "signs"] (spAllOf Pt)) : FnOk P w K mg base (L2.CX P w) 2 f fd ["piece"] (spNm Z Pt) := by
  refine d.F.okX sc_name (fun vs H Q E h => ?_) (fun cdv A outer s H vs Q E hr h => ?_)
  · obtain ⟨x, rfl, _⟩ := h
    rfl
  obtain ⟨x, rfl, hl, hT, q1, q2⟩ := h
  refine ⟨_, (pss_cons (ps_if (PW.pt (pw_or (pt_not (pt_chain op_le op_le pe_int (pe_callB call_len_str (by rfl) z.len PySem.boot_len (pa_cons (pv 0) pa_nil)) (pe_glob (by rfl) gt.LONGEST_NAME (v := .int 8) ⟨_, rfl⟩))) (pw_or1 (pt_not (pt_val (pe_call G_all_of (hr.mono (by omega)) (by rfl) d_all_of.m d_all_of.k d_all_of.b .nil pass0 (pa_cons (pv 0) (pa_cons (pe_glob (by rfl) gt.LETTERS (v := .str _) ⟨_, rfl⟩) pa_nil)))))))) (pss_one (ps_raise rfl (takes_of rfl rfl rfl rfl) (pmk_own PySem.F.excBase_ValueError E_BadText.q E_BadText.m E_BadText.k (raises_own E_BadText.b E_BadText.t) (by rfl)))) pss_nil)
    (pss_one (ps_ret (pv 0)))), ?_⟩
  have e9 : ∀ H', Tabbed Pt H H' → 1 ≤ x.length → x.length ≤ 8 → nameB (tl x) = (x.cps.toList.all fun cc => decide (cc ∈ (Str.ofString "abcdefghijklmnopqrstuvwxyz").cps.toList)) := fun H' _ h1 h2 => by
    unfold nameB
    have e : (tl x).length = x.length := (TL.len_tl x).symm
    rw [e, decide_eq_true h1, decide_eq_true h2, Bool.true_and, Bool.true_and]
    show x.cps.toList.all lowC = _
    congr 1
    funext cc
    exact (low_mem cc).symm
  have e8 : ¬ (1 ≤ x.length ∧ x.length ≤ 8) → nameB (tl x) = false := fun h => by
    unfold nameB
    have e : (tl x).length = x.length := (TL.len_tl x).symm
    rw [e]
    by_cases h1 : 1 ≤ x.length
    · rw [decide_eq_false (show ¬ x.length ≤ 8 from fun z => h ⟨h1, z⟩), Bool.and_false, Bool.false_and]
    · rw [decide_eq_false h1, Bool.false_and, Bool.false_and]
  refine ⟨_, rfl, x, rfl, by rw [sizeLine_eq]; omega, ?_⟩
  by_cases h1 : 1 ≤ x.length
  · by_cases h2 : x.length ≤ 8
    · refine ⟨_, _, rfl, rfl, true, congrArg V.bl (decide_eq_true (by omega)), iteT ⟨_, _, rfl, rfl, true, congrArg V.bl (decide_eq_true (by omega)), iteF ?_⟩⟩
      refine ⟨_, rfl, x, _, rfl, hT, fun H' hH => ?_⟩
      have e := e9 H' hH h1 h2
      rw [← e]
      refine ⟨_, rfl, ?_⟩
      cases q : nameB (tl x) with
      | true => exact iteF ⟨_, rfl, q1 H' hH q⟩
      | false => exact iteT (q2 H' hH q)
    · refine ⟨_, _, rfl, rfl, true, congrArg V.bl (decide_eq_true (by omega)), iteT ⟨_, _, rfl, rfl, false, congrArg V.bl (decide_eq_false (by omega)), iteT ?_⟩⟩
      exact q2 H (tabRf hT) (e8 fun z => h2 z.2)
  · refine ⟨_, _, rfl, rfl, false, congrArg V.bl (decide_eq_false (by omega)), iteF ⟨_, rfl, iteT ?_⟩⟩
    exact q2 H (tabRf hT) (e8 fun z => h1 z.1)
def spNum (Z Pt : Addr) : Sp := fun vs H Q E => ∃ x : Str, vs = [.str x] ∧ x.length ≤ 20000 ∧ TabG H Pt ∧ (∀ H' n, Tabbed Pt H H' → numE (tl x) = some n → Q (.int n) H') ∧ (∀ H', Tabbed Pt H H' → numE (tl x) = none → E (.ref Z) none H')
theorem sc_number : FnScope ["piece", "figures", "number"] ["piece"] (defScope s_number) := ⟨rfl, rfl, rfl, by decide +kernel, rfl, by decide +kernel, by decide +kernel⟩
theorem figs_len (l : List Nat) : l.length ≤ (figs l).length + 1 := by
  unfold figs
  split
  · rw [List.length_cons]
    exact Nat.le_refl _
  · omega
theorem int_val {x : Str} (hd : NumText.AllDigits (figs (tl x))) (hne : figs (tl x) ≠ []) (hl : x.length ≤ 4300) : intText? x = some (valI (tl x)) := by
  cases q : tl x with
  | nil =>
    rw [q] at hne
    exact absurd rfl hne
  | cons c r =>
    rw [q] at hd hne
    by_cases hc : c = 45
    · subst hc
      exact intText_neg q hd hne hl
    · have e1 : figs (c :: r) = c :: r := by
        unfold figs
        split
        · rename_i e
          cases e
          exact absurd rfl hc
        · rfl
      have e2 : valI (c :: r) = ((NumText.digitsVal (c :: r) : Nat) : Int) := by
        unfold valI
        split
        · rename_i e
          cases e
          exact absurd rfl hc
        · rfl
      rw [e1] at hd
      rw [e2, ← q]
      exact intText_digits (by rw [show x.cps.toList = c :: r from q]; exact hd) (by rw [show x.cps.toList = c :: r from q]; simp) hl
theorem digits_small : ∀ (l : List Nat) (a : Nat), NumText.AllDigits l → l.foldl (fun acc c => acc * 10 + (c - 48)) a < (a + 1) * 10 ^ l.length
  | [], a, _ => by simp
  | c :: l, a, h => by
    have h1 := h.head
    have h2 := digits_small l (a * 10 + (c - 48)) h.tail
    rw [List.foldl_cons, List.length_cons]
    refine Nat.lt_of_lt_of_le h2 ?_
    rw [Nat.pow_succ, Nat.mul_comm (10 ^ l.length) 10, ← Nat.mul_assoc]
    exact Nat.mul_le_mul_right _ (by omega)
theorem val_small {l : List Nat} (hd : NumText.AllDigits (figs l)) (h : (figs l).length ≤ 10) : (valI l).natAbs < 10 ^ 10 := by
  have key : NumText.digitsVal (figs l) < 10 ^ 10 := by
    have := digits_small (figs l) 0 hd
    unfold NumText.digitsVal
    refine Nat.lt_of_lt_of_le this ?_
    rw [Nat.zero_add, Nat.one_mul]
    exact Nat.pow_le_pow_right (by decide) h
  unfold valI
  split
  · rw [Int.natAbs_neg, Int.natAbs_natCast]
    exact key
  · rename_i h9
    rw [Int.natAbs_natCast]
    have e : figs l = l := by
      unfold figs
      split
      · exact absurd rfl (h9 _)
      · rfl
    rw [e] at key
    exact key
/-- the figures of a piece -/
def figS (x : Str) : Str := if Txt.startswith x "-" = true then cutS x (some 1) none else x
theorem start_minus (x : Str) : Txt.startswith x "-" = true ↔ ∃ r, tl x = 45 :: r := by
  unfold Txt.startswith
  rw [PySem.StrLaws.subAt_eq, show (Str.ofString "-").cps.toList = [45] by decide +kernel, show (Str.ofString "-").length = 1 by decide +kernel, Bool.and_eq_true, decide_eq_true_eq, List.drop_zero, beq_iff_eq, TL.len_tl]
  show (0 + 1 ≤ (tl x).length ∧ (tl x).take 1 = [45]) ↔ _
  cases q : tl x with
  | nil => simp
  | cons c r => simp
theorem figS_tl (x : Str) : tl (figS x) = figs (tl x) := by
  unfold figS
  split
  · rename_i h
    obtain ⟨r, hr⟩ := (start_minus x).mp h
    have e : cutS x (some 1) none = ⟨((tl x).drop 1).toArray⟩ := by
      unfold cutS
      rw [HT.sIx_none]
      have e1 : HT.sIx x.length 0 (some 1) = 1 := by
        rw [sIx_pos (by decide), TL.len_tl, hr, List.length_cons]
        show min 1 (r.length + 1) = 1
        omega
      rw [e1]
      congr 2
      exact List.take_of_length_le (by rw [List.length_drop, TL.len_tl]; exact Nat.le_refl _)
    rw [e, hr]
    rfl
  · rename_i h
    unfold figs
    split
    · rename_i r hr
      exact absurd ((start_minus x).mpr ⟨_, hr⟩) h
    · rfl
theorem ok_number (d : Df K mg "_number" s_number ["piece"] f fd) (z : Bl2 mg) (gt : Gtx mg t1 t2 t3 t4 t5) (E_BadText : Ecls K mg "BadText" Z)
    (d_all_of : Df K mg "_all_of" s_all_of ["piece", "signs"] f1 fd1) (G_all_of : FnOk P w K mg base CX0 1 f1 fd1 ["piece", "signs"] (spAllOf Pt)) : FnOk P w K mg base (L2.CX P w) 2 f fd ["piece"] (spNum Z Pt) := by
  refine d.F.okX sc_number (fun vs H Q E h => ?_) (fun cdv A outer s H vs Q E hr h => ?_)
  · obtain ⟨x, rfl, _⟩ := h
    rfl
  obtain ⟨x, rfl, hl, hT, q1, q2⟩ := h
  refine ⟨_, (pss_cons (ps_set (i := 1) sc_number.nd rfl (.inl rfl) (pe_ifExp (pt_val (pe_m1 PySem.F.slot_str_startswith PySem.F.type_str_startswith mt_startswith (pv 0) pe_str)) (pe_slice sl_str (pv 0) (po_some pe_int) po_none) (pv 0)))
    (pss_cons (ps_if (PW.pt (pw_or (pt_not (pt_chain op_le op_le pe_int (pe_callB call_len_str (by rfl) z.len PySem.boot_len (pa_cons (pv 1) pa_nil)) (pe_callB call_len_str (by rfl) z.len PySem.boot_len (pa_cons (pe_callTy call_str_int (by rfl) z.str (by decide +kernel) (pa_cons (pe_glob (by rfl) gt.LIMIT (v := .int 1000000000) ⟨_, rfl⟩) pa_nil)) pa_nil)))) (pw_or1 (pt_not (pt_val (pe_call G_all_of (hr.mono (by omega)) (by rfl) d_all_of.m d_all_of.k d_all_of.b .nil pass0 (pa_cons (pv 1) (pa_cons (pe_glob (by rfl) gt.FIGURES (v := .str _) ⟨_, rfl⟩) pa_nil)))))))) (pss_one (ps_raise rfl (takes_of rfl rfl rfl rfl) (pmk_own PySem.F.excBase_ValueError E_BadText.q E_BadText.m E_BadText.k (raises_own E_BadText.b E_BadText.t) (by rfl)))) pss_nil)
    (pss_cons (ps_set (i := 2) sc_number.nd rfl (.inl rfl) (pe_callTy call_int_str (by rfl) z.int (by decide +kernel) (pa_cons (pv 0) pa_nil)))
    (pss_cons (ps_if (PW.pt (pw_or (pt_cmpR op_gt (pe_callB call_abs (by rfl) z.abs (by decide +kernel) (pa_cons (pv 2) pa_nil)) (pe_glob (by rfl) gt.LIMIT (v := .int 1000000000) ⟨_, rfl⟩) (nomark _)) (pw_or1 (pt_cmpR op_ne (pe_callTy call_str_int (by rfl) z.str (by decide +kernel) (pa_cons (pv 2) pa_nil)) (pv 0) (nomark _))))) (pss_one (ps_raise rfl (takes_of rfl rfl rfl rfl) (pmk_own PySem.F.excBase_ValueError E_BadText.q E_BadText.m E_BadText.k (raises_own E_BadText.b E_BadText.t) (by rfl)))) pss_nil)
    (pss_one (ps_ret (pv 2))))))), ?_⟩
  have hf := figS_tl x
  have hlen : (figS x).length ≤ 20000 := by
    unfold figS
    split
    · exact Nat.le_trans (cutS_length x _ _) hl
    · exact hl
  have key : ∀ (R : TS) (D : Ends), R D [some (.str x), some (.str (figS x)), none] H → tSeq (tAsg (tIf (tB (tM1 (fun x xs H Q => ∃ a b, x = V.str a ∧ xs = [V.str b] ∧ Q (V.bl (Txt.startswith a b)) H) (tVar 0) (tC (V.str (Str.ofString "-"))))) (tSl rSlS (tVar 0) (tPart (tC (V.int 1))) tNoPart) (tVar 0)) (gName 1)) R D
      (L2.start ["piece", "figures", "number"] [V.str x]) H := fun R D h => by
    refine ⟨_, rfl, ⟨x, rfl⟩, x, _, rfl, rfl, _, rfl, ?_⟩
    by_cases hb : Txt.startswith x (Str.ofString "-") = true
    · have e : figS x = cutS x (some 1) none := if_pos hb
      rw [e] at h
      exact if_true_of hb ⟨_, rfl, _, rfl, x, rfl, by rw [sizeLine_eq]; omega, h⟩
    · have e : figS x = x := if_neg hb
      rw [e] at h
      exact if_false_of (by simpa using hb) ⟨_, rfl, h⟩
  refine key _ _ ?_
  generalize figS x = F at hf hlen
  have hFl : F.length = (figs (tl x)).length := by rw [TL.len_tl, hf]
  refine ⟨_, rfl, F, rfl, by rw [sizeLine_eq]; omega, ?_⟩
  have bad : ∀ H', Tabbed Pt H H' → numE (tl x) = none → E (.ref Z) none H' := q2
  have noN : ¬ (1 ≤ (figs (tl x)).length ∧ (figs (tl x)).length ≤ 10 ∧ (figs (tl x)).all digC = true ∧ NumOk (valI (tl x)) ∧ tl (Str.ofString (toString (valI (tl x)))) = tl x) → numE (tl x) = none := fun h => if_neg h
  have lim : (Str.ofString (toString (1000000000 : Int))).length = 10 := by decide +kernel
  have lim2 : (1000000000 : Int).natAbs.log2 < 1920 := by decide +kernel
  by_cases h1 : 1 ≤ F.length
  · refine ⟨_, _, rfl, rfl, true, congrArg V.bl (decide_eq_true (by omega)), iteT ?_⟩
    refine ⟨_, rfl, lim2, _, rfl, by rw [lim, sizeLine_eq]; decide, ?_⟩
    rw [lim]
    by_cases h2 : F.length ≤ 10
    · refine ⟨_, _, rfl, rfl, true, congrArg V.bl (decide_eq_true (by omega)), iteF ?_⟩
      refine ⟨_, rfl, F, _, rfl, hT, fun H' hH => ⟨_, rfl, ?_⟩⟩
      have ed : (F.cps.toList.all fun cc => decide (cc ∈ (Str.ofString "0123456789").cps.toList)) = (figs (tl x)).all digC := by
        rw [show F.cps.toList = figs (tl x) from hf]
        congr 1
        funext cc
        exact dig_mem cc
      rw [ed]
      cases h3 : (figs (tl x)).all digC with
      | false => exact iteT (bad H' hH (noN fun z => by rw [h3] at z; exact Bool.false_ne_true z.2.2.1))
      | true =>
        have hd : NumText.AllDigits (figs (tl x)) := fun cc hc => by
          have := List.all_eq_true.mp h3 cc hc
          unfold digC at this
          rw [Bool.and_eq_true, decide_eq_true_eq, decide_eq_true_eq] at this
          exact this
        have hne : figs (tl x) ≠ [] := fun z => by
          rw [z] at hFl
          have : F.length = 0 := hFl
          omega
        have hx11 : x.length ≤ 11 := by
          rw [TL.len_tl]
          have := figs_len (tl x)
          omega
        refine iteF ⟨_, rfl, x, valI (tl x), rfl, int_val hd hne (by omega), by omega, ?_⟩
        have small : (valI (tl x)).natAbs.log2 < 1920 := by
          have h2 : (valI (tl x)).natAbs < 10 ^ 10 := val_small hd (by omega)
          have h2 : (valI (tl x)).natAbs < 2 ^ 1920 := Nat.lt_trans h2 (by decide +kernel)
          by_cases h0 : (valI (tl x)).natAbs = 0
          · rw [h0]
            decide +kernel
          · exact (Nat.log2_lt h0).mpr h2
        refine ⟨_, rfl, _, rfl, _, _, rfl, rfl, _, rfl, ?_⟩
        refine ite2 (fun a => ?_) (fun a => ?_)
        · have a' := of_decide_eq_true a
          rw [absI] at a'
          exact bad H' hH (noN fun z => by have := z.2.2.2.1.1; have := z.2.2.2.1.2; omega)
        · have a' : ¬ _ := fun z => a (decide_eq_true z)
          rw [absI] at a'
          have hok : NumOk (valI (tl x)) := ⟨by omega, by omega⟩
          refine ⟨_, rfl, _, rfl, small, _, rfl, rfl, _, rfl, ?_⟩
          by_cases h4 : tl (Str.ofString (toString (valI (tl x)))) = tl x
          · have h5 : Str.ofString (toString (valI (tl x))) = x := TL.ext_tl h4
            refine if_false_of ?_ ?_
            · rw [h5]
              simp
            · exact ⟨_, rfl, q1 H' _ hH (if_pos ⟨by omega, by omega, h3, hok, h4⟩)⟩
          · refine if_true_of ?_ ?_
            · have : ¬ V.str (Str.ofString (toString (valI (tl x)))) = V.str x := fun z => h4 (by injection z with z; rw [z])
              show (!decide (V.str (Str.ofString (toString (valI (tl x)))) = V.str x)) = true
              rw [decide_eq_false this]
              rfl
            · exact bad H' hH (noN fun z => h4 z.2.2.2.2)
    · refine ⟨_, _, rfl, rfl, false, congrArg V.bl (decide_eq_false (by omega)), iteT (bad H (tabRf hT) (noN fun z => h2 (by have := z.2.1; omega)))⟩
  · refine ⟨_, _, rfl, rfl, false, congrArg V.bl (decide_eq_false (by omega)), iteF ⟨_, rfl, iteT (bad H (tabRf hT) (noN fun z => h1 (by have := z.1; omega)))⟩⟩
/-- the table at Pt may have grown, the rest stands -/
def Grow (Pt : Addr) (H H' : Hp) : Prop := TabG H' Pt ∧ ∀ b u, b ≠ Pt → H b = some u → H' b = some u
theorem Grow.rf {H : Hp} (h : TabG H Pt) : Grow Pt H H := ⟨h, fun _ _ _ e => e⟩
theorem Grow.trans {H1 H2 H3 : Hp} (a : Grow Pt H1 H2) (b : Grow Pt H2 H3) : Grow Pt H1 H3 := ⟨b.1, fun x u hx e => b.2 x u hx (a.2 x u hx e)⟩
theorem Grow.of {H H' : Hp} (a : Tabbed Pt H H') : Grow Pt H H' := ⟨a.1, fun b u hb e => by rw [a.2 b hb]; exact e⟩
theorem TabG.ne {H : Hp} {b : Addr} {xs : List V} (h : TabG H Pt) (e : H b = some (.tup xs)) : b ≠ Pt := fun z => by
  obtain ⟨ps, hp, _⟩ := h
  rw [z, hp] at e
  cases e
theorem TabG.nel {H : Hp} {b : Addr} {xs : List V} (h : TabG H Pt) (e : H b = some (.lst xs)) : b ≠ Pt := fun z => by
  obtain ⟨ps, hp, _⟩ := h
  rw [z, hp] at e
  cases e
theorem TabG.new {H : Hp} {b : Addr} (h : TabG H Pt) (e : H b = none) : b ≠ Pt := fun z => by
  obtain ⟨ps, hp, _⟩ := h
  rw [z, hp] at e
  cases e
theorem Grow.upd {H : Hp} {p : Addr} {u : HO} (h : TabG H Pt) (hp : H p = none) : Grow Pt H (upd H p u) := by
  have n := TabG.new h hp
  refine ⟨?_, fun b v _ e => same_new hp u b v e⟩
  obtain ⟨ps, h1, h2⟩ := h
  exact ⟨ps, by rw [upd_ne (Ne.symm n)]; exact h1, h2⟩
theorem Grow.tups {H H' : Hp} (h : TabG H Pt) (g : Grow Pt H H') : Tups H H' := fun a xs e => g.2 a _ (TabG.ne h e) e
def spPlain (Z Pt : Addr) : Sp := fun vs H Q E => ∃ x : Str, vs = [.str x] ∧ x.length ≤ 20000 ∧ TabG H Pt ∧ (∀ H' v e, Grow Pt H H' → atomE (tl x) = some e → Bears H' v e → Q v H') ∧ (∀ H', Grow Pt H H' → atomE (tl x) = none → E (.ref Z) none H')
theorem sc_plain : FnScope ["piece"] ["piece"] (defScope s_plain) := ⟨rfl, rfl, rfl, by decide +kernel, rfl, by decide +kernel, by decide +kernel⟩
theorem ok_plain (d : Df K mg "_plain" s_plain ["piece"] f fd) (z : Bl2 mg) (gt : Gtx mg t1 t2 t3 t4 t5)
    (d_name : Df K mg "_name" s_name ["piece"] f1 fd1) (G_name : FnOk P w K mg base (L2.CX P w) 2 f1 fd1 ["piece"] (spNm Z Pt))
    (d_number : Df K mg "_number" s_number ["piece"] f2 fd2) (G_number : FnOk P w K mg base (L2.CX P w) 2 f2 fd2 ["piece"] (spNum Z Pt)) : FnOk P w K mg base (L2.CX P w) 3 f fd ["piece"] (spPlain Z Pt) := by
  refine d.F.okX sc_plain (fun vs H Q E h => ?_) (fun cdv A outer s H vs Q E hr h => ?_)
  · obtain ⟨x, rfl, _⟩ := h
    rfl
  obtain ⟨x, rfl, hl, hT, q1, q2⟩ := h
  refine ⟨_, (pss_cons (ps_if (PW.pt (pw_and (pt_cmpR op_ne (pv 0) pe_str (nomark _)) (pw_and1 (pt_cmpR op_in_sign (pe_ix ix_str (pv 0) pe_int (fun _ _ => rfl)) (pe_glob (by rfl) gt.LETTERS (v := .str _) ⟨_, rfl⟩) rfl)))) (pss_one (ps_ret (pe_tup (pa_cons pe_str (pa_cons (pe_callS G_name (hr.mono (by omega)) (by rfl) d_name.m d_name.k d_name.b (fun σ => passAt (takes_of rfl rfl rfl rfl) σ) (pa_cons (pv 0) pa_nil)) pa_nil))))) pss_nil)
    (pss_one (ps_ret (pe_tup (pa_cons pe_str (pa_cons (pe_callS G_number (hr.mono (by omega)) (by rfl) d_number.m d_number.k d_number.b (fun σ => passAt (takes_of rfl rfl rfl rfl) σ) (pa_cons (pv 0) pa_nil)) pa_nil)))))), ?_⟩
  have e0 : tl (Str.ofString "") = [] := by decide +kernel
  have numc : (tl x).head?.any lowC = false → (tRet (tTup (tCons (tC (V.str "num")) (tCons (tCallS (spNum Z Pt) (fun σ => WE (fun cls d x H => E cls d H) σ) (tCons (tVar 0) tNil)) tNil))) { nx := fun x H' => Q V.non H', rt := Q } (L2.start ["piece"] [V.str x]) H) := fun hh => by
    have ea : atomE (tl x) = (numE (tl x)).map .num := by
      unfold atomE
      rw [hh, if_neg Bool.false_ne_true]
    refine ⟨_, rfl, x, rfl, hl, hT, fun H' n hH hn => ⟨(by show 2 ≤ sizeLine; decide), fun p hp => ?_⟩, fun H' hH hn => ?_⟩
    · exact q1 _ _ (.num n) (Grow.trans (.of hH) (Grow.upd hH.1 hp)) (by rw [ea, hn]; rfl) (.num upd_same)
    · exact q2 _ (.of hH) (by rw [ea, hn]; rfl)
  refine ⟨_, rfl, rfl, ?_⟩
  cases q : tl x with
  | nil =>
    have ex : x = Str.ofString "" := TL.ext_tl (by rw [q, e0])
    rw [q] at numc
    subst ex
    exact ⟨false, congrArg V.bl (by simp), iteF (numc rfl)⟩
  | cons c r =>
    have ex : ¬ V.str x = V.str (Str.ofString "") := fun z => by
      injection z with z
      rw [z, e0] at q
      cases q
    have hc : atI x.cps.toList 0 = some c := by
      rw [show x.cps.toList = c :: r from q]
      exact at_ofA (j := 0) (xs := c :: r) rfl rfl
    refine ⟨true, congrArg V.bl (by rw [decide_eq_false ex]; rfl), iteT ⟨_, rfl, x, 0, c, rfl, rfl, by rw [sizeLine_eq]; omega, hc, c, _, rfl, rfl, _, rfl, ?_⟩⟩
    rw [low_mem]
    cases h : lowC c with
    | true =>
      have ea : atomE (tl x) = if nameB (tl x) = true then some (.nam ⟨(tl x).toArray⟩) else none := by
        unfold atomE
        rw [q, show (c :: r).head?.any lowC = true from h, if_pos rfl]
      refine iteT ⟨_, rfl, x, rfl, hl, hT, fun H' hH hn => ⟨(by show 2 ≤ sizeLine; decide), fun p hp => ?_⟩, fun H' hH hn => ?_⟩
      · refine q1 _ _ (.nam x) (Grow.trans (.of hH) (Grow.upd hH.1 hp)) ?_ (.nam upd_same)
        rw [ea, if_pos hn, TL.mk_tl]
      · exact q2 _ (.of hH) (by rw [ea, hn]; rfl)
    | false =>
      rw [q] at numc
      exact iteF (numc h)
end
end FC
namespace FC
open PySem L2 StX PyProof.Rows GxR
open TL (tl)
/-- how many expressions stand behind the word w -/
def cntOf (x : List Nat) : Option Nat := match opOf x with
  | some _ => some 2
  | none => if x = tl "when" then some 3 else if x = tl "let" then some 2 else none
structure KParts (K : PySem.W.Frag) (w : World) (mg : Str → Option Value) (d : Addr) (es : Array DictEntry) (n : Nat) : Prop where
  m : mg "PARTS" = some (.ref d)
  D : KDict K w d es n
  has : ∀ z k, cntOf (tl z) = some k → ∃ t, PySem.W.nsIn K d z = some (some (.int (k : Int) t))
  no : ∀ z, cntOf (tl z) = none → PySem.W.nsIn K d z = some none
theorem opOf_eq {x : List Nat} {o : Op} (h : opOf x = some o) : x = tl o.str := by
  unfold opOf at h
  repeat' split at h
  all_goals first | (cases h; assumption) | cases h
theorem head_cases (l : List Nat) : (∃ o, wrd l = tl o.str ∧ headE l = some (.two o, aft l) ∧ cntOf (wrd l) = some 2 ∧ wrd l ≠ tl "let") ∨ (wrd l = tl "when" ∧ headE l = some (.whn, aft l) ∧ cntOf (wrd l) = some 3 ∧ wrd l ≠ tl "let") ∨
    (wrd l = tl "let" ∧ cntOf (wrd l) = some 2 ∧ headE l = match pastC 32 (aft l) with | some r => if nameB (wrd r) = true then some (.lett ⟨(wrd r).toArray⟩, aft r) else none | none => none) ∨ (cntOf (wrd l) = none ∧ headE l = none) := by
  unfold headE cntOf
  cases h : opOf (wrd l) with
  | some o =>
    refine .inl ⟨o, opOf_eq h, rfl, rfl, fun z => ?_⟩
    rw [z] at h
    exact absurd h (by rw [show opOf (tl (Str.ofString "let")) = none by decide +kernel]; simp)
  | none =>
    by_cases h1 : wrd l = tl "when"
    · refine .inr (.inl ⟨h1, if_pos h1, if_pos h1, ?_⟩)
      rw [h1]
      decide +kernel
    · by_cases h2 : wrd l = tl "let"
      · refine .inr (.inr (.inl ⟨h2, ?_, ?_⟩))
        · show (if wrd l = tl "when" then some 3 else if wrd l = tl "let" then some 2 else none) = some 2
          rw [if_neg h1, if_pos h2]
        · show (if wrd l = tl "when" then _ else if wrd l = tl "let" then _ else none) = _
          rw [if_neg h1, if_pos h2] <;> rfl
      · refine .inr (.inr (.inr ⟨?_, ?_⟩))
        · show (if wrd l = tl "when" then some 3 else if wrd l = tl "let" then some 2 else none) = none
          rw [if_neg h1, if_neg h2]
        · show (if wrd l = tl "when" then _ else if wrd l = tl "let" then _ else none) = none
          rw [if_neg h1, if_neg h2]
/-- the rest of a bracket's reading: so many to come, these read -/
def runE (f : List Nat → Option (Ex × List Nat)) (h : Hd) (k : Nat) (es : List Ex) (l : List Nat) : Option (Ex × List Nat) :=
  match rdN f k l with
  | some (es', r1) => (match pastC 41 r1 with
    | some r2 => (match h.mk (es ++ es') with
      | some e => some (e, r2)
      | none => none)
    | none => none)
  | none => none
theorem brk_run {f : List Nat → Option (Ex × List Nat)} {l r : List Nat} {h : Hd} (e : headE l = some (h, r)) : brkE f l = runE f h h.cnt [] r := by
  unfold brkE runE
  rw [e]
  rfl
theorem brk_no {f : List Nat → Option (Ex × List Nat)} {l : List Nat} (e : headE l = none) : brkE f l = none := by
  unfold brkE
  rw [e]
theorem run_no1 {f : List Nat → Option (Ex × List Nat)} {h : Hd} {k : Nat} {es : List Ex} {l : List Nat} (e : pastC 32 l = none) : runE f h (k + 1) es l = none := by
  unfold runE
  rw [show rdN f (k + 1) l = none by unfold rdN; rw [e]]
theorem run_no2 {f : List Nat → Option (Ex × List Nat)} {h : Hd} {k : Nat} {es : List Ex} {l r : List Nat} (e : pastC 32 l = some r) (e2 : f r = none) : runE f h (k + 1) es l = none := by
  unfold runE
  rw [show rdN f (k + 1) l = none by unfold rdN; rw [e]; show (match f r with | some (e, r1) => _ | none => none) = none; rw [e2]]
theorem run_step {f : List Nat → Option (Ex × List Nat)} {h : Hd} {k : Nat} {es : List Ex} {l r r1 : List Nat} {e : Ex} (e1 : pastC 32 l = some r) (e2 : f r = some (e, r1)) : runE f h (k + 1) es l = runE f h k (es ++ [e]) r1 := by
  have e3 : rdN f (k + 1) l = match rdN f k r1 with | some (es, r2) => some (e :: es, r2) | none => none := by
    conv => lhs; unfold rdN
    rw [e1]
    show (match f r with | some (e, r1) => (match rdN f k r1 with | some (es, r2) => some (e :: es, r2) | none => none) | none => none) = _
    rw [e2]
  unfold runE
  rw [e3]
  cases rdN f k r1 with
  | none => rfl
  | some q =>
    obtain ⟨es', r2⟩ := q
    show (match pastC 41 r2 with | some r3 => (match h.mk (es ++ e :: es') with | some e => some (e, r3) | none => none) | none => none) = (match pastC 41 r2 with | some r3 => (match h.mk (es ++ [e] ++ es') with | some e => some (e, r3) | none => none) | none => none)
    rw [List.append_assoc]
    rfl
/-- values that bear expressions, one by one -/
def Bs (H : Hp) : List V → List Ex → Prop
  | [], [] => True
  | v :: vs, e :: es => Bears H v e ∧ Bs H vs es
  | _, _ => False
theorem Bs.mono {H H' : Hp} (g : Tups H H') : ∀ {vs : List V} {es : List Ex}, Bs H vs es → Bs H' vs es
  | [], [], _ => True.intro
  | _ :: _, _ :: _, h => ⟨h.1.mono g, Bs.mono g h.2⟩
  | [], _ :: _, h => h
  | _ :: _, [], h => h
theorem Bs.snoc {H : Hp} {v : V} {e : Ex} (b : Bears H v e) : ∀ {vs : List V} {es : List Ex}, Bs H vs es → Bs H (vs ++ [v]) (es ++ [e])
  | [], [], _ => ⟨b, True.intro⟩
  | _ :: _, _ :: _, h => ⟨h.1, Bs.snoc b h.2⟩
  | [], _ :: _, h => h.elim
  | _ :: _, [], h => h.elim
theorem hd_bears {H : Hp} {p : Addr} : ∀ (h : Hd) {vs : List V} {es : List Ex}, Bs H vs es → es.length = h.cnt → H p = some (.tup (h.vals ++ vs)) → ∃ e, h.mk es = some e ∧ Bears H (.ref p) e
  | .two o, [v1, v2], [e1, e2], b, _, hp => ⟨_, rfl, .two hp b.1 b.2.1⟩
  | .whn, [v0, v1, v2], [e0, e1, e2], b, _, hp => ⟨_, rfl, .whn hp b.1 b.2.1 b.2.2.1⟩
  | .lett x, [v1, v2], [e1, e2], b, _, hp => ⟨_, rfl, .lett hp b.1 b.2.1⟩
  | h, vs, [], _, hc, _ => by cases h <;> cases hc
  | h, vs, [_], _, hc, _ => by cases h <;> cases hc
  | .two _, vs, _ :: _ :: _ :: _, _, hc, _ => by cases hc
  | .lett _, vs, _ :: _ :: _ :: _, _, hc, _ => by cases hc
  | .whn, vs, [_, _], _, hc, _ => by cases hc
  | .whn, vs, _ :: _ :: _ :: _ :: _, _, hc, _ => by cases hc
  | .two _, [], [_, _], b, _, _ => b.elim
  | .two _, [_], [_, _], b, _, _ => b.2.elim
  | .two _, _ :: _ :: _ :: _, [_, _], b, _, _ => b.2.2.elim
  | .lett _, [], [_, _], b, _, _ => b.elim
  | .lett _, [_], [_, _], b, _, _ => b.2.elim
  | .lett _, _ :: _ :: _ :: _, [_, _], b, _, _ => b.2.2.elim
  | .whn, [], [_, _, _], b, _, _ => b.elim
  | .whn, [_], [_, _, _], b, _, _ => b.2.elim
  | .whn, [_, _], [_, _, _], b, _, _ => b.2.2.elim
  | .whn, _ :: _ :: _ :: _ :: _, [_, _, _], b, _, _ => b.2.2.2.elim
/-- an if whose ways come together again, the test's answer kept -/
theorem if_mergeB {c : TT} {t u v : TS} {D : Ends} {σ : L2.St} {H : Hp} (M : L2.St → Hp → Prop) (b : Bool) (hc : ∀ Q : Bool → Hp → Prop, Q b H → c σ H Q) (h1 : b = true → ∀ N : L2.St → Hp → Prop, (∀ σ' H', M σ' H' → N σ' H') → t { D with nx := N } σ H)
    (h2 : b = false → ∀ N : L2.St → Hp → Prop, (∀ σ' H', M σ' H' → N σ' H') → u { D with nx := N } σ H) (h3 : ∀ σ' H', M σ' H' → v D σ' H') : tSeq (tIfS c t u) v D σ H := by
  refine hc _ ?_
  cases b with
  | true => exact iteT (h1 rfl _ h3)
  | false => exact iteF (h2 rfl _ h3)
section
variable {P : Program} {w : World} {K : PySem.W.Frag} {mg : Str → Option Value} {base : Heap} {t1 t2 t3 t4 t5 : Tok} {Z f g f1 f2 f3 f4 f5 f6 f7 f8 f9 c Pt dp : Addr} {fd gd fd1 fd2 fd3 fd4 fd5 fd6 fd7 fd8 fd9 : FuncData}
def spRdX (f : List Nat → Option (Ex × List Nat)) (Z Pt : Addr) (s : Str) (i : Nat) (H : Hp) (Q : VK) (E : XK) : Prop :=
  (∀ (H' : Hp) (p : Addr) (v : V) (e : Ex) (j : Nat), Grow Pt H H' → f ((tl s).drop i) = some (e, (tl s).drop j) → j ≤ s.length → H' p = some (.tup [v, .int (j : Int)]) → Bears H' v e → Q (.ref p) H') ∧
    (∀ H', Grow Pt H H' → f ((tl s).drop i) = none → E (.ref Z) none H')
def spEx (Z Pt : Addr) (n : Nat) : Sp := fun vs H Q E => ∃ (s : Str) (i lev : Nat), vs = [.str s, .int (i : Int), .int (lev : Int)] ∧ s.length ≤ 20000 ∧ i ≤ s.length ∧ n + lev = 61 ∧ TabG H Pt ∧ spRdX (rdE n) Z Pt s i H Q E
def spBr (Z Pt : Addr) : Nat → Sp
  | 0 => fun _ _ _ _ => False
  | n + 1 => fun vs H Q E => ∃ (s : Str) (i lev : Nat), vs = [.str s, .int (i : Int), .int (lev : Int)] ∧ s.length ≤ 20000 ∧ i ≤ s.length ∧ n + lev = 60 ∧ TabG H Pt ∧ spRdX (brkE (rdE n)) Z Pt s i H Q E
theorem sc_expression : FnScope ["text", "at", "level", "end"] ["text", "at", "level"] (defScope s_expression) := ⟨rfl, rfl, rfl, by decide +kernel, rfl, by decide +kernel, by decide +kernel⟩
theorem ok_expression (n k : Nat) (hk : 3 ≤ k) (d : Df K mg "_expression" s_expression ["text", "at", "level"] f fd) (z : Bl2 mg) (gt : Gtx mg t1 t2 t3 t4 t5) (E_BadText : Ecls K mg "BadText" Z)
    (d_bracket : Df K mg "_bracket" s_bracket ["text", "at", "level"] f1 fd1) (G_bracket : FnOk P w K mg base (L2.CX P w) k f1 fd1 ["text", "at", "level"] (spBr Z Pt n))
    (d_end : Df K mg "_end" s_end ["text", "at"] f2 fd2) (G_end : FnOk P w K mg base CX0 1 f2 fd2 ["text", "at"] spEnd)
    (d_plain : Df K mg "_plain" s_plain ["piece"] f3 fd3) (G_plain : FnOk P w K mg base (L2.CX P w) 3 f3 fd3 ["piece"] (spPlain Z Pt)) :
    FnOk P w K mg base (L2.CX P w) (k + 1) f fd ["text", "at", "level"] (spEx Z Pt n) := by
  refine d.F.okX sc_expression (fun vs H Q E h => ?_) (fun cdv A outer s H vs Q E hr h => ?_)
  · obtain ⟨s, i, lev, rfl, _⟩ := h
    rfl
  obtain ⟨s, i, lev, rfl, hl, hi, hn, hT, q1, q2⟩ := h
  refine ⟨_, (pss_cons (ps_if (pt_cmpR op_gt (pv 2) (pe_glob (by rfl) gt.DEEPEST (v := .int 60) ⟨_, rfl⟩) (nomark _)) (pss_one (ps_raise rfl (takes_of rfl rfl rfl rfl) (SkE.pmk_own1 PySem.F.excBase_ValueError E_BadText.q E_BadText.m E_BadText.k (raises_own E_BadText.b E_BadText.t) (by rfl) (pe_joined (PJ.cons pe_str (PJ.cons (pe_fmt (pe_glob (by rfl) gt.DEEPEST (v := .int 60) ⟨_, rfl⟩)) (PJ.cons pe_str PJ.nil))))))) pss_nil)
    (pss_cons (ps_if (pt_cmpR op_eq (pe_slice sl_str (pv 0) (po_some (pv 1)) (po_some (pe_op op_add (pv 1) pe_int))) pe_str (nomark _)) (pss_one (ps_ret (pe_callS G_bracket (hr.mono (by omega)) (by rfl) d_bracket.m d_bracket.k d_bracket.b (fun σ => passAt (takes_of rfl rfl rfl rfl) σ) (pa_cons (pv 0) (pa_cons (pe_op op_add (pv 1) pe_int) (pa_cons (pv 2) pa_nil)))))) pss_nil)
    (pss_cons (ps_set (i := 3) sc_expression.nd rfl (.inl rfl) (pe_call G_end (hr.mono (by omega)) (by rfl) d_end.m d_end.k d_end.b .nil pass0 (pa_cons (pv 0) (pa_cons (pv 1) pa_nil))))
    (pss_one (ps_ret (pe_tup (pa_cons (pe_callS G_plain (hr.mono (by omega)) (by rfl) d_plain.m d_plain.k d_plain.b (fun σ => passAt (takes_of rfl rfl rfl rfl) σ) (pa_cons (pe_slice sl_str (pv 0) (po_some (pv 1)) (po_some (pv 3))) pa_nil)) (pa_cons (pv 3) pa_nil)))))))), ?_⟩
  have e0 : (Str.ofString "the text is more than ").length = 22 := by decide +kernel
  have e1 : (Str.ofString " deep").length = 5 := by decide +kernel
  have e2 : (Str.ofString (toString (60 : Int))).length = 2 := by decide +kernel
  refine ⟨_, rfl, _, _, rfl, rfl, _, rfl, ite2 (fun a => ?_) (fun a => ?_)⟩
  · have a' : (60 : Int) < (lev : Int) := of_decide_eq_true a
    have hn0 : n = 0 := by omega
    subst hn0
    refine ⟨_, rfl, (by rw [app_len, e0, sizeLine_eq]; decide), .inr ⟨_, rfl, (by decide +kernel), _, rfl, (by rw [app_len, app_len, e0, e2, sizeLine_eq]; decide), _, rfl, (by rw [app_len, app_len, app_len, e0, e1, e2, sizeLine_eq]; decide), ?_⟩⟩
    exact q2 H (.rf hT) rfl
  have a' : ¬ (60 : Int) < (lev : Int) := fun z => a (decide_eq_true z)
  obtain ⟨n, rfl⟩ : ∃ m, n = m + 1 := ⟨n - 1, by omega⟩
  have ec : cutS s (some (i : Int)) (some ((i : Int) + 1)) = ⟨(((tl s).drop i).take 1).toArray⟩ := by
    have h := cut_nat s (Nat.le_add_right i 1)
    rw [show i + 1 - i = 1 by omega] at h
    exact h
  refine ⟨_, rfl, _, rfl, _, rfl, _, rfl, _, _, rfl, rfl, _, rfl, s, rfl, by rw [sizeLine_eq]; omega, rfl, ?_⟩
  rw [ec]
  have e4 : Str.ofString "(" = ⟨#[40]⟩ := by decide +kernel
  rw [e4]
  by_cases hb : ((tl s).drop i).head? = some 40
  · have hd1 : (tl s).drop i = 40 :: (tl s).drop (i + 1) := by
      cases q : (tl s).drop i with
      | nil =>
        rw [q] at hb
        cases hb
      | cons c r =>
        rw [q] at hb
        have : (tl s).drop (i + 1) = r := by rw [← List.drop_drop, q]; rfl
        rw [this]
        cases hb
        rfl
    have hr1 : rdE (n + 1) ((tl s).drop i) = brkE (rdE n) ((tl s).drop (i + 1)) := by
      show (if ((tl s).drop i).head? = some 40 then brkE (rdE n) ((tl s).drop i).tail else _) = _
      rw [if_pos hb, hd1]
      rfl
    have hi1 : i + 1 ≤ s.length := by
      have := congrArg List.length hd1
      rw [List.length_drop, List.length_cons, ← TL.len_tl] at this
      omega
    refine ⟨true, congrArg V.bl ?_, iteT ?_⟩
    · rw [hd1]
      simp
    · refine ⟨_, rfl, _, rfl, _, _, rfl, rfl, _, rfl, s, i + 1, lev, rfl, hl, hi1, by omega, hT, fun H' p v e j g hr he hp b => ?_, fun H' g hr => ?_⟩
      · exact q1 H' p v e j g (by rw [hr1]; exact hr) he hp b
      · exact q2 H' g (by rw [hr1]; exact hr)
  · have hr1 : rdE (n + 1) ((tl s).drop i) = match atomE (wrd ((tl s).drop i)) with | some e => some (e, aft ((tl s).drop i)) | none => none := by
      show (if ((tl s).drop i).head? = some 40 then brkE (rdE n) ((tl s).drop i).tail else _) = _
      rw [if_neg hb] <;> rfl
    have hw := wrd_le ((tl s).drop i)
    rw [List.length_drop, ← TL.len_tl] at hw
    refine ⟨false, congrArg V.bl ?_, iteF ?_⟩
    · cases q : (tl s).drop i with
      | nil => simp
      | cons c r =>
        rw [q] at hb
        have hc : ¬ c = 40 := fun z => hb (by rw [z]; rfl)
        simp [hc]
    · refine ⟨_, rfl, _, rfl, s, i, rfl, hl, ?_⟩
      refine ⟨_, rfl, _, rfl, _, rfl, _, rfl, _, rfl, s, rfl, by rw [sizeLine_eq]; omega, ?_⟩
      rw [cut_wrd]
      have hwl : (⟨(wrd ((tl s).drop i)).toArray⟩ : Str).length = (wrd ((tl s).drop i)).length := by rw [TL.len_tl]
      refine ⟨⟨(wrd ((tl s).drop i)).toArray⟩, rfl, by omega, hT, fun H' v e g he b => ⟨_, rfl, (by show 2 ≤ sizeLine; decide), fun p hp => ?_⟩, fun H' g he => ?_⟩
      · have g2 := Grow.upd (u := .tup [v, .int ((i + (wrd ((tl s).drop i)).length : Nat) : Int)]) g.1 hp
        have he' : atomE (wrd ((tl s).drop i)) = some e := he
        refine q1 _ p v e (i + (wrd ((tl s).drop i)).length) (g.trans g2) ?_ (by omega) upd_same (b.mono (Grow.tups g.1 g2))
        rw [hr1, he', drop_wrd]
      · have he' : atomE (wrd ((tl s).drop i)) = none := he
        exact q2 _ g (by rw [hr1, he'])
theorem sc_bracket : FnScope ["text", "at", "level", "end", "word", "made", "start", "_", "part"] ["text", "at", "level"] (defScope s_bracket) := ⟨rfl, rfl, rfl, by decide +kernel, rfl, by decide +kernel, by decide +kernel⟩
theorem sp32 : Str.ofString " " = ⟨#[32]⟩ := by decide +kernel
theorem sp41 : Str.ofString ")" = ⟨#[41]⟩ := by decide +kernel
theorem ok_bracket (n k : Nat) (hk : 3 ≤ k) {es0 : Array DictEntry} {n0 : Nat} (d : Df K mg "_bracket" s_bracket ["text", "at", "level"] f fd) (z : Bl2 mg) (zt : mg "tuple" = none) (E_BadText : Ecls K mg "BadText" Z) (kp : KParts K w mg dp es0 n0)
    (d_expression : Df K mg "_expression" s_expression ["text", "at", "level"] f1 fd1) (G_expression : FnOk P w K mg base (L2.CX P w) k f1 fd1 ["text", "at", "level"] (spEx Z Pt n))
    (d_end : Df K mg "_end" s_end ["text", "at"] f2 fd2) (G_end : FnOk P w K mg base CX0 1 f2 fd2 ["text", "at"] spEnd)
    (d_past : Df K mg "_past" s_past ["text", "at", "sign"] f3 fd3) (G_past : FnOk P w K mg base (L2.CX P w) 1 f3 fd3 ["text", "at", "sign"] (spPast Z))
    (d_name : Df K mg "_name" s_name ["piece"] f4 fd4) (G_name : FnOk P w K mg base (L2.CX P w) 2 f4 fd4 ["piece"] (spNm Z Pt)) :
    FnOk P w K mg base (L2.CX P w) (k + 1) f fd ["text", "at", "level"] (spBr Z Pt (n + 1)) := by
  refine d.F.okX sc_bracket (fun vs H Q E h => ?_) (fun cdv A outer s H vs Q E hr h => ?_)
  · obtain ⟨s, i, lev, rfl, _⟩ := h
    rfl
  obtain ⟨s, i, lev, rfl, hl, hi, hn, hT, q1, q2⟩ := h
  refine ⟨_, (pss_cons (ps_set (i := 3) sc_bracket.nd rfl (.inl rfl) (pe_call G_end (hr.mono (by omega)) (by rfl) d_end.m d_end.k d_end.b .nil pass0 (pa_cons (pv 0) (pa_cons (pv 1) pa_nil))))
    (pss_cons (ps_set (i := 4) sc_bracket.nd rfl (.inl rfl) (pe_slice sl_str (pv 0) (po_some (pv 1)) (po_some (pv 3))))
    (pss_cons (ps_if (pt_cmpR (op_notIn_kd kp.D) (pv 4) (pe_glob (by rfl) kp.m (v := .ref _) rfl) rfl) (pss_one (ps_raise rfl (takes_of rfl rfl rfl rfl) (SkE.pmk_own1 PySem.F.excBase_ValueError E_BadText.q E_BadText.m E_BadText.k (raises_own E_BadText.b E_BadText.t) (by rfl) (pe_joined (PJ.cons pe_str (PJ.cons (pe_fmt (pv 1)) PJ.nil)))))) pss_nil)
    (pss_cons (ps_set (i := 5) sc_bracket.nd rfl (.inl rfl) (pe_lst (pa_cons (pv 4) pa_nil)))
    (pss_cons (ps_if (pt_cmpR op_eq (pv 4) pe_str (nomark _)) (pss_cons (ps_set (i := 6) sc_bracket.nd rfl (.inl rfl) (pe_callS G_past (hr.mono (by omega)) (by rfl) d_past.m d_past.k d_past.b (fun σ => passAt (takes_of rfl rfl rfl rfl) σ) (pa_cons (pv 0) (pa_cons (pv 3) (pa_cons pe_str pa_nil)))))
    (pss_cons (ps_set (i := 3) sc_bracket.nd rfl (.inl rfl) (pe_call G_end (hr.mono (by omega)) (by rfl) d_end.m d_end.k d_end.b .nil pass0 (pa_cons (pv 0) (pa_cons (pv 6) pa_nil))))
    (pss_one (ps_expr (pe_bm PySem.F.plainAttrs_list PySem.F.slot_list_append PySem.F.type_list_append mt_append (pv 5) (pa_cons (pe_callS G_name (hr.mono (by omega)) (by rfl) d_name.m d_name.k d_name.b (fun σ => passAt (takes_of rfl rfl rfl rfl) σ) (pa_cons (pe_slice sl_str (pv 0) (po_some (pv 6)) (po_some (pv 3))) pa_nil)) pa_nil)))))) pss_nil)
    (pss_cons (ps_for (passes_of rfl) rfl (pi_range1 (by rfl) z.range (pa_cons (pe_ix ix_kdict (pe_glob (by rfl) kp.m (v := .ref _) rfl) (pv 4) (fun _ _ => rfl)) pa_nil)) (pg_name (i := 7) sc_bracket.nd rfl (.inl rfl)) (pss_cons (ps_asg (pe_callS G_expression (hr.mono (by omega)) (by rfl) d_expression.m d_expression.k d_expression.b (fun σ => passAt (takes_of rfl rfl rfl rfl) σ) (pa_cons (pv 0) (pa_cons (pe_callS G_past (hr.mono (by omega)) (by rfl) d_past.m d_past.k d_past.b (fun σ => passAt (takes_of rfl rfl rfl rfl) σ) (pa_cons (pv 0) (pa_cons (pv 3) (pa_cons pe_str pa_nil)))) (pa_cons (pe_op op_add (pv 2) pe_int) pa_nil)))) (pg_tup rfl (pgs_cons (pg_name (i := 8) sc_bracket.nd rfl (.inl rfl)) (pgs_cons (pg_name (i := 3) sc_bracket.nd rfl (.inl rfl)) pgs_nil))))
    (pss_one (ps_expr (pe_bm PySem.F.plainAttrs_list PySem.F.slot_list_append PySem.F.type_list_append mt_append (pv 5) (pa_cons (pv 8) pa_nil))))))
    (pss_one (ps_ret (pe_tup (pa_cons (pe_callTy call_tuple_of (by rfl) z.tuple (by decide +kernel) (pa_cons (pv 5) pa_nil)) (pa_cons (pe_callS G_past (hr.mono (by omega)) (by rfl) d_past.m d_past.k d_past.b (fun σ => passAt (takes_of rfl rfl rfl rfl) σ) (pa_cons (pv 0) (pa_cons (pv 3) (pa_cons pe_str pa_nil)))) pa_nil))))))))))), ?_⟩
  have hw := wrd_le ((tl s).drop i)
  rw [List.length_drop, ← TL.len_tl] at hw
  have hdw := drop_wrd s i
  refine ⟨_, rfl, _, rfl, s, i, rfl, hl, ?_⟩
  refine ⟨_, rfl, _, rfl, _, rfl, _, rfl, _, rfl, s, rfl, by rw [sizeLine_eq]; omega, ?_⟩
  rw [cut_wrd]
  have hW : tl ⟨(wrd ((tl s).drop i)).toArray⟩ = wrd ((tl s).drop i) := rfl
  generalize (⟨(wrd ((tl s).drop i)).toArray⟩ : Str) = W at hW ⊢
  have small : ∀ m : Nat, m ≤ 20000 → ((m : Nat) : Int).natAbs.log2 < 1920 := fun m hm => by
    have h2 : ((m : Int)).natAbs < 2 ^ 1920 := Nat.lt_of_le_of_lt (show ((m : Int)).natAbs ≤ 20000 by omega) (by decide +kernel)
    by_cases h0 : ((m : Int)).natAbs = 0
    · rw [h0]
      decide +kernel
    · exact (Nat.log2_lt h0).mpr h2
  rcases hc : cntOf (wrd ((tl s).drop i)) with _ | cnt
  · have hno := kp.no W (by rw [hW]; exact hc)
    have hh : headE ((tl s).drop i) = none := by
      rcases head_cases ((tl s).drop i) with ⟨o, _, _, h, _⟩ | ⟨_, _, h, _⟩ | ⟨_, h, _⟩ | ⟨_, h⟩
      · rw [hc] at h; cases h
      · rw [hc] at h; cases h
      · rw [hc] at h; cases h
      · exact h
    have e0 : (Str.ofString "there is no word of an expression at ").length = 37 := by decide +kernel
    have hi2 : ((i : Int)).natAbs < 10 ^ 10 := by omega
    have h4 := int_text_length_le10 (k := 10) (by decide) hi2
    rw [← PySem.ofString_length] at h4
    refine ⟨_, rfl, W, none, rfl, rfl, hno, _, rfl, iteT ⟨_, rfl, (by rw [app_len, e0, sizeLine_eq]; decide), _, rfl, .inr ⟨_, rfl, small i (by omega), _, rfl, (by rw [app_len, app_len, e0, sizeLine_eq]; show 0 + 37 + _ ≤ _; omega), ?_⟩⟩⟩
    exact q2 H (.rf hT) (brk_no hh)
  obtain ⟨tk, hget⟩ := kp.has W cnt (by rw [hW]; exact hc)
  refine ⟨_, rfl, W, some _, rfl, rfl, hget, _, rfl, iteF ?_⟩
  refine ⟨_, rfl, (by show 1 ≤ sizeLine; decide), fun m hm => ?_⟩
  have hmP := TabG.new hT hm
  have g0 : Grow Pt H (upd H m (.lst [.str W])) := Grow.upd hT hm
  dsimp only [gName]
  have keep : ∀ {H1 H2 : Hp} {xs : List V}, Grow Pt H H1 → H1 m = some (.lst xs) → Grow Pt H1 H2 → Grow Pt H H2 ∧ H2 m = some (.lst xs) := fun g1 e g2 => ⟨g1.trans g2, g2.2 m _ hmP e⟩
  have put : ∀ {H1 : Hp} {ys : List V}, Grow Pt H H1 → Grow Pt H (upd H1 m (.lst ys)) := fun {H1 ys} g1 => by
    refine ⟨?_, fun b u hb e => ?_⟩
    · obtain ⟨ps, h1, h2⟩ := g1.1
      exact ⟨ps, by rw [upd_ne (Ne.symm hmP)]; exact h1, h2⟩
    · have hbm : b ≠ m := fun z => by rw [z, hm] at e; cases e
      rw [upd_ne hbm]
      exact g1.2 b u hb e
  refine if_mergeB (fun σ' H' => ∃ (h : Hd) (j : Nat) (x6 : Option V), Grow Pt H H' ∧ H' m = some (.lst h.vals) ∧ j ≤ s.length ∧ headE ((tl s).drop i) = some (h, (tl s).drop j) ∧ h.cnt = cnt ∧
    σ' = [some (.str s), some (.int (i : Int)), some (.int (lev : Int)), some (.int (j : Int)), some (.str W), some (.ref m), x6, none, none]) (decide (V.str W = V.str "let")) (fun Q' hQ => ⟨_, rfl, rfl, _, rfl, hQ⟩) (fun hb N hN => ?_) (fun hb N hN => ?_) (fun σ' H' hM => ?_)
  · have hWl : W = Str.ofString "let" := by
      have := of_decide_eq_true hb
      injection this
    have hwl : wrd ((tl s).drop i) = tl (Str.ofString "let") := by rw [← hW, hWl]
    obtain ⟨hcc, hh⟩ : cntOf (wrd ((tl s).drop i)) = some 2 ∧ headE ((tl s).drop i) = match pastC 32 (aft ((tl s).drop i)) with | some r => if nameB (wrd r) = true then some (.lett ⟨(wrd r).toArray⟩, aft r) else none | none => none := by
      rcases head_cases ((tl s).drop i) with ⟨o, _, _, _, h⟩ | ⟨_, _, _, h⟩ | ⟨_, h1, h2⟩ | ⟨h, _⟩
      · exact absurd hwl h
      · exact absurd hwl h
      · exact ⟨h1, h2⟩
      · rw [hc] at h; cases h
    have hcnt : cnt = 2 := by rw [hc] at hcc; injection hcc
    refine ⟨_, rfl, _, rfl, s, i + (wrd ((tl s).drop i)).length, 32, by rw [sp32], hl, by omega, fun r hr => ?_, fun hr => ?_⟩
    · obtain ⟨hdr, hj⟩ := drop_past hr
      rw [hdw] at hr
      rw [hr] at hh
      have hw2 := wrd_le ((tl s).drop (i + (wrd ((tl s).drop i)).length + 1))
      rw [List.length_drop, ← TL.len_tl] at hw2
      have hdw2 := drop_wrd s (i + (wrd ((tl s).drop i)).length + 1)
      have hcw2 := cut_wrd s (i + (wrd ((tl s).drop i)).length + 1)
      rw [hdr] at hw2 hdw2 hcw2
      refine ⟨_, rfl, _, rfl, s, i + (wrd ((tl s).drop i)).length + 1, rfl, hl, ?_⟩
      rw [hdr]
      refine ⟨_, rfl, .inl ⟨rfl, _, .inl (.inl upd_same)⟩, _, rfl, _, rfl, _, rfl, _, rfl, _, rfl, s, rfl, by rw [sizeLine_eq]; omega, ?_⟩
      rw [hcw2]
      refine ⟨_, rfl, (by rw [TL.len_tl]; show (wrd r).length ≤ 20000; omega), g0.1, fun H' hH hn => ?_, fun H' hH hn => ?_⟩
      · have hn' : nameB (wrd r) = true := hn
        have hh' : headE ((tl s).drop i) = some (.lett ⟨(wrd r).toArray⟩, aft r) := hh.trans (if_pos hn')
        obtain ⟨g1, e1⟩ := keep g0 upd_same (Grow.of hH)
        refine ⟨m, _, _, rfl, rfl, e1, (by show 1 < sizeLine; decide), hN _ _ ⟨.lett ⟨(wrd r).toArray⟩, i + (wrd ((tl s).drop i)).length + 1 + (wrd r).length, _, put g1, ?_, by omega, by rw [hdw2]; exact hh', by rw [hcnt]; rfl, rfl⟩⟩
        rw [upd_same, hWl]
        rfl
      · have hn' : nameB (wrd r) = false := hn
        exact q2 _ (g0.trans (.of hH)) (brk_no (hh.trans (if_neg (by rw [hn']; decide))))
    · rw [hdw] at hr
      rw [hr] at hh
      exact q2 _ g0 (brk_no hh)
  · have hne : wrd ((tl s).drop i) ≠ tl (Str.ofString "let") := fun z => by
      have : W = Str.ofString "let" := TL.ext_tl (by rw [hW, z])
      rw [this] at hb
      exact absurd hb (by simp)
    refine hN _ _ ?_
    rcases head_cases ((tl s).drop i) with ⟨o, h1, h2, h3, _⟩ | ⟨h1, h2, h3, _⟩ | ⟨h1, _⟩ | ⟨h, _⟩
    · have hWo : W = o.str := TL.ext_tl (by rw [hW, h1])
      refine ⟨.two o, i + (wrd ((tl s).drop i)).length, none, g0, ?_, by omega, by rw [hdw]; exact h2, ?_, rfl⟩
      · rw [upd_same, hWo]
        rfl
      · rw [hc] at h3
        injection h3 with h3
        exact h3.symm
    · have hWo : W = Str.ofString "when" := TL.ext_tl (by rw [hW, h1])
      refine ⟨.whn, i + (wrd ((tl s).drop i)).length, none, g0, ?_, by omega, by rw [hdw]; exact h2, ?_, rfl⟩
      · rw [upd_same, hWo]
        rfl
      · rw [hc] at h3
        injection h3 with h3
        exact h3.symm
    · exact absurd h1 hne
    · rw [hc] at h
      cases h
  · obtain ⟨h, j, x6, g1, e1, hj, hh, hcn, rfl⟩ := hM
    have hc3 : cnt ≤ 3 ∧ 2 ≤ cnt := by
      rw [← hcn]
      cases h with
      | two o => exact ⟨by show 2 ≤ 3; decide, by show 2 ≤ 2; decide⟩
      | whn => exact ⟨by show 3 ≤ 3; decide, by show 2 ≤ 3; decide⟩
      | lett x => exact ⟨by show 2 ≤ 3; decide, by show 2 ≤ 2; decide⟩
    have hv2 : h.vals.length ≤ 2 := by
      cases h with
      | two o => show 1 ≤ 2; decide
      | whn => show 1 ≤ 2; decide
      | lett x => show 2 ≤ 2; decide
    refine ⟨_, rfl, dp, W, .int (cnt : Int), rfl, rfl, ⟨es0, n0, _, kp.D.at_, kp.D.lit, hget, ⟨tk, rfl⟩⟩, (cnt : Int), rfl, by omega, by omega, ?_⟩
    refine for_range (lo := 0) (n := cnt) (fun k σ H2 => ∃ (vs : List V) (es : List Ex) (j : Nat) (x7 x8 : Option V), Grow Pt H H2 ∧ H2 m = some (.lst (h.vals ++ vs)) ∧ Bs H2 vs es ∧ es.length = k ∧ vs.length = k ∧ j ≤ s.length ∧
      brkE (rdE n) ((tl s).drop i) = runE (rdE n) h (h.cnt - k) es ((tl s).drop j) ∧ σ = [some (.str s), some (.int (i : Int)), some (.int (lev : Int)), some (.int (j : Int)), some (.str W), some (.ref m), x6, x7, x8])
      ⟨[], [], j, none, none, g1, by rw [List.append_nil]; exact e1, True.intro, rfl, rfl, hj, brk_run hh, rfl⟩ (fun k σ H2 hk2 hP => ?_) (fun σ H2 hP => ?_)
    · obtain ⟨vs, es, j, x7, x8, g2, e2, hB, hes, hvs, hj, hrun, rfl⟩ := hP
      have hk3 : h.cnt - k = (h.cnt - (k + 1)) + 1 := by omega
      rw [hk3] at hrun
      refine ⟨_, rfl, _, rfl, _, rfl, s, j, 32, by rw [sp32], hl, by omega, fun r hr => ?_, fun hr => ?_⟩
      · obtain ⟨hdr, hj1⟩ := drop_past hr
        refine ⟨_, rfl, _, _, rfl, rfl, s, j + 1, lev + 1, rfl, hl, hj1, by omega, g2.1, fun H3 p v e j3 g3 hrd hj3 hp b => ?_, fun H3 g3 hrd => ?_⟩
        · rw [hdr] at hrd
          obtain ⟨g4, e4⟩ := keep g2 e2 g3
          have b3 := Bs.snoc b (hB.mono (Grow.tups g2.1 g3))
          have hB4 : Bs (upd H3 m (.lst ((h.vals ++ vs) ++ [v]))) (vs ++ [v]) (es ++ [e]) := b3.mono fun a xs ea => by
            have ham : a ≠ m := fun z => by rw [z, e4] at ea; cases ea
            rw [upd_ne ham]
            exact ea
          refine ⟨p, _, rfl, .inl (.inl hp), rfl, _, _, rfl, _, _, rfl, rfl, ?_⟩
          refine ⟨_, rfl, .inl ⟨rfl, _, .inl (.inl e4)⟩, _, rfl, m, _, _, rfl, rfl, e4, ?_, vs ++ [v], es ++ [e], j3, _, _, put g4, by rw [upd_same, List.append_assoc], hB4, by rw [List.length_append, hes]; rfl, by rw [List.length_append, hvs]; rfl, hj3, by rw [hrun]; exact run_step hr hrd, rfl⟩
          rw [List.length_append]
          exact small1000 (by omega)
        · rw [hdr] at hrd
          exact q2 _ (g2.trans g3) (hrun.trans (run_no2 hr hrd))
      · exact q2 _ g2 (hrun.trans (run_no1 hr))
    · obtain ⟨vs, es, j, x7, x8, g2, e2, hB, hes, hvs, hj, hrun, rfl⟩ := hP
      rw [hcn, Nat.sub_self] at hrun
      refine ⟨_, rfl, m, _, rfl, .inl ⟨.inl (.inl e2), fun l hl2 => ?_⟩⟩
      have g3 := Grow.upd (u := .tup (h.vals ++ vs)) g2.1 hl2
      obtain ⟨e, he, hb⟩ := hd_bears h (hB.mono (Grow.tups g2.1 g3)) (by rw [hes, hcn]) upd_same
      have hrun2 : runE (rdE n) h 0 es ((tl s).drop j) = match pastC 41 ((tl s).drop j) with | some r2 => some (e, r2) | none => none := by
        show (match pastC 41 ((tl s).drop j) with | some r2 => (match h.mk (es ++ []) with | some e => some (e, r2) | none => none) | none => none) = _
        rw [List.append_nil, he]
      refine ⟨_, rfl, _, rfl, s, j, 41, by rw [sp41], hl, by omega, fun r hr => ?_, fun hr => ?_⟩
      · obtain ⟨hdr, hj1⟩ := drop_past hr
        refine ⟨(by show 2 ≤ sizeLine; decide), fun p hp => ?_⟩
        have g4 := Grow.upd (u := .tup [.ref l, .int ((j + 1 : Nat) : Int)]) g3.1 hp
        refine q1 _ p (.ref l) e (j + 1) (g2.trans (g3.trans g4)) ?_ hj1 upd_same (hb.mono (Grow.tups g3.1 g4))
        rw [hrun, hrun2, hr, hdr]
      · refine q2 _ (g2.trans g3) ?_
        rw [hrun, hrun2, hr]
end
end FC
namespace FC
open PySem L2 StX PyProof.Rows GxR
open TL (tl)
section
variable {P : Program} {w : World} {K : PySem.W.Frag} {mg : Str → Option Value} {base : Heap} {t1 t2 t3 t4 t5 : Tok} {Z f g f1 f2 f3 f4 f5 f6 f7 f8 f9 c Pt dp : Addr} {fd gd fd1 fd2 fd3 fd4 fd5 fd6 fd7 fd8 fd9 : FuncData}
theorem no_br : FnOk P w K mg base (L2.CX P w) 3 f fd ["text", "at", "level"] (spBr Z Pt 0) := ⟨fun vs H Q E h => h.elim, fun A outer s H args us vs Q E _ _ _ _ h => h.elim⟩
/-- the functions that read, with what they stand on -/
structure RDs (K : PySem.W.Frag) (w : World) (mg : Str → Option Value) (base : Heap) (Z Pt c dp : Addr) (es0 : Array DictEntry) (n0 : Nat) (t1 t2 t3 t4 t5 : Tok) (f1 f2 f3 f4 f5 f6 f7 f8 : Addr) (fd1 fd2 fd3 fd4 fd5 fd6 fd7 fd8 : FuncData) : Prop where
  expression : Df K mg "_expression" s_expression ["text", "at", "level"] f1 fd1
  bracket : Df K mg "_bracket" s_bracket ["text", "at", "level"] f2 fd2
  end_ : Df K mg "_end" s_end ["text", "at"] f3 fd3
  past : Df K mg "_past" s_past ["text", "at", "sign"] f4 fd4
  plain : Df K mg "_plain" s_plain ["piece"] f5 fd5
  name : Df K mg "_name" s_name ["piece"] f6 fd6
  number : Df K mg "_number" s_number ["piece"] f7 fd7
  all_of : Df K mg "_all_of" s_all_of ["piece", "signs"] f8 fd8
  code : fd8.code = .ref c
  TB : TabB base mg c Pt
  z : Bl2 mg
  zall : mg "all" = none
  ztup : mg "tuple" = none
  gt : Gtx mg t1 t2 t3 t4 t5
  kp : KParts K w mg dp es0 n0
  E : Ecls K mg "BadText" Z
variable {es0 : Array DictEntry} {n0 : Nat}
theorem all_expression (R : RDs K w mg base Z Pt c dp es0 n0 t1 t2 t3 t4 t5 f1 f2 f3 f4 f5 f6 f7 f8 fd1 fd2 fd3 fd4 fd5 fd6 fd7 fd8) : ∀ n, FnOk P w K mg base (L2.CX P w) (2 * n + 4) f1 fd1 ["text", "at", "level"] (spEx Z Pt n)
  | 0 => by
    have GA := ok_all_of (P := P) (w := w) (base := base) R.all_of R.z R.zall R.code R.TB
    have GN := ok_name (P := P) R.name R.z R.gt R.E R.all_of GA
    have GM := ok_number (P := P) R.number R.z R.gt R.E R.all_of GA
    exact ok_expression 0 3 (Nat.le_refl _) R.expression R.z R.gt R.E R.bracket no_br R.end_ (ok_end R.end_ R.z) R.plain (ok_plain R.plain R.z R.gt R.name GN R.number GM)
  | n + 1 => by
    have GA := ok_all_of (P := P) (w := w) (base := base) R.all_of R.z R.zall R.code R.TB
    have GN := ok_name (P := P) R.name R.z R.gt R.E R.all_of GA
    have GM := ok_number (P := P) R.number R.z R.gt R.E R.all_of GA
    have GB := ok_bracket (P := P) n (2 * n + 4) (by omega) R.bracket R.z R.ztup R.E R.kp R.expression (all_expression R n) R.end_ (ok_end R.end_ R.z) R.past (ok_past R.past R.E) R.name GN
    exact ok_expression (n + 1) (2 * n + 5) (by omega) R.expression R.z R.gt R.E R.bracket GB R.end_ (ok_end R.end_ R.z) R.plain (ok_plain R.plain R.z R.gt R.name GN R.number GM)
def spRd (Z Pt : Addr) : Sp := fun vs H Q E => ∃ s : Str, vs = [.str s] ∧ s.length ≤ 20000 ∧ TabG H Pt ∧ (∀ (H' : Hp) (v : V) (e : Ex), Grow Pt H H' → rdE 60 (tl s) = some (e, []) → Bears H' v e → Q v H') ∧
  (∀ H', Grow Pt H H' → (∀ e, rdE 60 (tl s) ≠ some (e, [])) → E (.ref Z) none H')
theorem sc_read : FnScope ["text", "expr", "end"] ["text"] (defScope s_read) := ⟨rfl, rfl, rfl, by decide +kernel, rfl, by decide +kernel, by decide +kernel⟩
theorem ok_read (d : Df K mg "read" s_read ["text"] f fd) (R : RDs K w mg base Z Pt c dp es0 n0 t1 t2 t3 t4 t5 f1 f2 f3 f4 f5 f6 f7 f8 fd1 fd2 fd3 fd4 fd5 fd6 fd7 fd8) : FnOk P w K mg base (L2.CX P w) 125 f fd ["text"] (spRd Z Pt) := by
  have z := R.z
  have E_BadText := R.E
  have d_expression := R.expression
  have G_expression := all_expression (P := P) R 60
  refine d.F.okX sc_read (fun vs H Q E h => ?_) (fun cdv A outer s H vs Q E hr h => ?_)
  · obtain ⟨s, rfl, _⟩ := h
    rfl
  obtain ⟨s, rfl, hl, hT, q1, q2⟩ := h
  refine ⟨_, (pss_cons (ps_asg (pe_callS G_expression (hr.mono (by omega)) (by rfl) d_expression.m d_expression.k d_expression.b (fun σ => passAt (takes_of rfl rfl rfl rfl) σ) (pa_cons (pv 0) (pa_cons pe_int (pa_cons pe_int pa_nil)))) (pg_tup rfl (pgs_cons (pg_name (i := 1) sc_read.nd rfl (.inl rfl)) (pgs_cons (pg_name (i := 2) sc_read.nd rfl (.inl rfl)) pgs_nil))))
    (pss_cons (ps_if (pt_cmpR op_ne (pv 2) (pe_callB call_len_str (by rfl) z.len PySem.boot_len (pa_cons (pv 0) pa_nil)) (nomark _)) (pss_one (ps_raise rfl (takes_of rfl rfl rfl rfl) (SkE.pmk_own1 PySem.F.excBase_ValueError E_BadText.q E_BadText.m E_BadText.k (raises_own E_BadText.b E_BadText.t) (by rfl) (pe_joined (PJ.cons pe_str (PJ.cons (pe_fmt (pv 2)) (PJ.cons pe_str PJ.nil))))))) pss_nil)
    (pss_one (ps_ret (pv 1))))), ?_⟩
  have hd0 : (tl s).drop 0 = tl s := rfl
  refine ⟨_, rfl, s, 0, 1, rfl, hl, Nat.zero_le _, rfl, hT, fun H' p v e j g hr1 hj hp b => ?_, fun H' g hr1 => ?_⟩
  · rw [hd0] at hr1
    refine ⟨p, _, rfl, .inl (.inl hp), rfl, _, _, rfl, _, _, rfl, rfl, ?_⟩
    refine ⟨_, rfl, _, rfl, s, rfl, by rw [sizeLine_eq]; omega, rfl, ?_⟩
    by_cases he : j = s.length
    · subst he
      refine ⟨false, congrArg V.bl (by simp), iteF ⟨_, rfl, q1 H' v e g ?_ b⟩⟩
      rw [hr1, List.drop_eq_nil_of_le (by rw [← TL.len_tl]; exact Nat.le_refl _)]
    · have hne : ¬ V.int (j : Int) = V.int (s.length : Int) := fun z => by
        injection z with z
        omega
      refine ⟨true, congrArg V.bl (by rw [decide_eq_false hne]; rfl), iteT ?_⟩
      have e0 : (Str.ofString "the expression ends at ").length = 23 := by decide +kernel
      have e1 : (Str.ofString ", the text doesn't").length = 18 := by decide +kernel
      have hi2 : ((j : Int)).natAbs < 10 ^ 10 := by omega
      have h4 := int_text_length_le10 (k := 10) (by decide) hi2
      rw [← PySem.ofString_length] at h4
      have small : ((j : Nat) : Int).natAbs.log2 < 1920 := by
        have h2 : ((j : Int)).natAbs < 2 ^ 1920 := Nat.lt_of_le_of_lt (show ((j : Int)).natAbs ≤ 20000 by omega) (by decide +kernel)
        by_cases h0 : ((j : Int)).natAbs = 0
        · rw [h0]
          decide +kernel
        · exact (Nat.log2_lt h0).mpr h2
      refine ⟨_, rfl, (by rw [app_len, e0, sizeLine_eq]; decide), _, rfl, .inr ⟨_, rfl, small, _, rfl, (by rw [app_len, app_len, e0, sizeLine_eq]; show 0 + 23 + _ ≤ _; omega), _, rfl, (by rw [app_len, app_len, app_len, e0, e1, sizeLine_eq]; show 0 + 23 + _ + 18 ≤ _; omega), ?_⟩⟩
      refine q2 H' g fun e' he' => ?_
      rw [hr1] at he'
      have h5 := (Prod.mk.inj (Option.some.inj he')).2
      have h6 := congrArg List.length h5
      rw [List.length_drop, List.length_nil, ← TL.len_tl] at h6
      omega
  · rw [hd0] at hr1
    exact q2 H' g fun e he => by rw [hr1] at he; cases he
end
end FC
namespace FC
open PySem L2 StX PyProof.Rows
open TL (tl)
/-- the module's PARTS as it lies -/
def partsEs (h1 h2 h3 h4 h5 h6 h7 h8 h9 : Int) (k1 k2 k3 k4 k5 k6 k7 k8 k9 v1 v2 v3 v4 v5 v6 v7 v8 v9 : Tok) : Array DictEntry :=
  #[⟨h1, .str "sum" k1, .int 2 v1⟩, ⟨h2, .str "less" k2, .int 2 v2⟩, ⟨h3, .str "times" k3, .int 2 v3⟩, ⟨h4, .str "part" k4, .int 2 v4⟩, ⟨h5, .str "rest" k5, .int 2 v5⟩, ⟨h6, .str "below" k6, .int 2 v6⟩, ⟨h7, .str "same" k7, .int 2 v7⟩, ⟨h8, .str "when" k8, .int 3 v8⟩, ⟨h9, .str "let" k9, .int 2 v9⟩]
theorem cnt_none {z : Str} (h : cntOf (tl z) = none) : z ≠ "sum" ∧ z ≠ "less" ∧ z ≠ "times" ∧ z ≠ "part" ∧ z ≠ "rest" ∧ z ≠ "below" ∧ z ≠ "same" ∧ z ≠ "when" ∧ z ≠ "let" := by
  refine ⟨?_, ?_, ?_, ?_, ?_, ?_, ?_, ?_, ?_⟩ <;> (intro e; rw [e] at h; exact absurd h (by decide +kernel))
theorem cnt_some {z : Str} {k : Nat} (h : cntOf (tl z) = some k) : (z = "sum" ∧ k = 2) ∨ (z = "less" ∧ k = 2) ∨ (z = "times" ∧ k = 2) ∨ (z = "part" ∧ k = 2) ∨ (z = "rest" ∧ k = 2) ∨ (z = "below" ∧ k = 2) ∨ (z = "same" ∧ k = 2) ∨ (z = "when" ∧ k = 3) ∨ (z = "let" ∧ k = 2) := by
  unfold cntOf at h
  cases ho : opOf (tl z) with
  | some o =>
    rw [ho] at h
    have e : z = o.str := TL.ext_tl (opOf_eq ho)
    cases h
    cases o <;> simp [e, Op.str]
  | none =>
    rw [ho] at h
    have h : (if tl z = tl "when" then some 3 else if tl z = tl "let" then some 2 else none) = some k := h
    by_cases h1 : tl z = tl "when"
    · rw [if_pos h1] at h
      cases h
      exact .inr (.inr (.inr (.inr (.inr (.inr (.inr (.inl ⟨TL.ext_tl h1, rfl⟩)))))))
    · rw [if_neg h1] at h
      by_cases h2 : tl z = tl "let"
      · rw [if_pos h2] at h
        cases h
        exact .inr (.inr (.inr (.inr (.inr (.inr (.inr (.inr ⟨TL.ext_tl h2, rfl⟩)))))))
      · rw [if_neg h2] at h
        cases h
section
variable {K : PySem.W.Frag} {w : World} {mg : Str → Option Value} {dp : Addr} {n : Nat} {h1 h2 h3 h4 h5 h6 h7 h8 h9 : Int} {k1 k2 k3 k4 k5 k6 k7 k8 k9 v1 v2 v3 v4 v5 v6 v7 v8 v9 : Tok}
theorem kparts (m : mg "PARTS" = some (.ref dp)) (l : K.lookup dp = some ⟨.type "dict", none, .dict (partsEs h1 h2 h3 h4 h5 h6 h7 h8 h9 k1 k2 k3 k4 k5 k6 k7 k8 k9 v1 v2 v3 v4 v5 v6 v7 v8 v9) n, #[]⟩)
    (lit : PySem.W.KeysLit w.params (partsEs h1 h2 h3 h4 h5 h6 h7 h8 h9 k1 k2 k3 k4 k5 k6 k7 k8 k9 v1 v2 v3 v4 v5 v6 v7 v8 v9).toList) (low : (dp == sysModules) = false) :
    KParts K w mg dp (partsEs h1 h2 h3 h4 h5 h6 h7 h8 h9 k1 k2 k3 k4 k5 k6 k7 k8 k9 v1 v2 v3 v4 v5 v6 v7 v8 v9) n := by
  refine ⟨m, ⟨l, lit, low⟩, fun z k h => ?_, fun z h => ?_⟩
  · unfold PySem.W.nsIn
    rw [l]
    rcases cnt_some h with ⟨rfl, rfl⟩ | ⟨rfl, rfl⟩ | ⟨rfl, rfl⟩ | ⟨rfl, rfl⟩ | ⟨rfl, rfl⟩ | ⟨rfl, rfl⟩ | ⟨rfl, rfl⟩ | ⟨rfl, rfl⟩ | ⟨rfl, rfl⟩ <;> exact ⟨_, rfl⟩
  · obtain ⟨a1, a2, a3, a4, a5, a6, a7, a8, a9⟩ := cnt_none h
    unfold PySem.W.nsIn
    rw [l]
    have key : ∀ (x : Str) (t : Tok), z ≠ x → (Value.str x t).isStr z = false := fun x t hz => by
      show (x == z) = false
      rw [beq_eq_false_iff_ne]
      exact Ne.symm hz
    simp only [partsEs, List.find?, key _ _ a1, key _ _ a2, key _ _ a3, key _ _ a4, key _ _ a5, key _ _ a6, key _ _ a7, key _ _ a8, key _ _ a9, DictEntry.refKey, List.any, Bool.or_false]
    rfl
end
end FC
/-! the end of a law with one code object's table -/
namespace FC
open PySem L2 StX PyProof.Rows PySem.Spec
def spLawT (K : PySem.W.Frag) (Pt : Addr) : Sp := fun vs H Q _ => ∃ (a : Addr) (ns : List Int), vs = [.ref a] ∧ SqL K H a (ns.map V.int) ∧ ns.length ≤ 63 ∧ GxR.TabG H Pt ∧ ∀ H', Q (.bl true) H'
theorem tabIn_of {K : PySem.W.Frag} {x : Str} {f c P : Addr} {oc : Value} {od : Option Addr} {fd : FuncData} {sl : Array (Option Value)} {o1 : Value} {o2 : Option Addr} {vs : Array Value} {sl2 : Array (Option Value)} (a : PySem.W.nsIn K mainGlobals x = some (some (.ref f))) (l : K.lookup f = some ⟨oc, od, .func fd, sl⟩) (hc : fd.code = .ref c)
    (lc : K.lookup c = some ⟨o1, o2, .fields vs, sl2⟩) (hv : vs[11]? = some (.ref P)) : PySem.W.tabIn K x = some (c, P) := by
  unfold PySem.W.tabIn
  rw [a]
  show (match K.lookup f with | some ⟨_, _, .func fd, _⟩ => _ | _ => none) = _
  rw [l]
  show (match fd.code with | .ref c => _ | _ => none) = _
  rw [hc]
  show (match K.lookup c with | some ⟨_, _, .fields vs, _⟩ => _ | _ => none) = _
  rw [lc]
  show (match (vs[11]? : Option Value) with | some (.ref P) => some (c, P) | _ => none) = _
  rw [hv]
theorem walkT {l : PySem.W.OpenLaw} {q : Program} {loose : List Str} {XP : (Str → Option Value) → Heap → Prop} {YP : World → Heap → Prop} {d d2 : DefRec} {K : Params → PySem.W.Frag} {cA PA : Addr} {k : Nat} (hn : l.most = some 63) (hdf : d.params.defaults = [])
    (hY : ∀ (w : World) (h : Heap), YP w h → (K w.params).In h) (hk : Room k callerA)
    (hr : (recsOf q).find? (fun e => e.name == Str.ofString "_all_of") = some d2) (ht : ∀ w : World, PySem.W.tabIn (K w.params) "_all_of" = some (cA, PA)) (nT : ∀ w : World, (K w.params).lookup PA = none)
    (F : ∀ (w : World) (mg : Str → Option Value) (fa : Addr) (h : Heap), (K w.params).In h → h.Ns mainGlobals mg → mg d.name = some (.ref fa) →
      ∃ fd : FuncData, (∀ (s : Shared) (u : Value), BindsTo s fd ⟨[u], []⟩ [("_law_script", u)]) ∧ ∀ base : Heap, (K w.params).In base → base.Ns mainGlobals mg → GxR.TabB base mg cA PA → FnOk l.prog w (K w.params) mg base CX0 k fa fd ["_law_script"] (spLawT (K w.params) PA)) :
    PySem.W.WalkO q loose XP YP l.row.toRowW d [] (fun f vs => PySem.call f vs) := by
  refine Att.attach_callB hn hdf fun w s₀ s₁ mg mb fa o pm cd doc a vs ns G Y ho hd hcd hmg hobj hints hlen hbits hg => ?_
  have KX := hY w _ Y
  obtain ⟨hC, hP⟩ := PySem.W.tab_of G.T KX hr (ht w)
  obtain ⟨fd, hb, hF⟩ := F w mg fa _ KX G.T.g hmg
  refine LamX.law_callTs (cs := [(cA, PA)]) KX G.T.g G.T.b G.T.builtins G.T.nolimit hg (fun p hp => ?_) (fun p hp => ?_) (fun p hp => ?_) G.T.bmain hobj hints (Nat.le_trans hlen (by decide)) hk
    (fun base XB GB TB => hF base XB GB ⟨(TB _ List.mem_cons_self).code, (TB _ List.mem_cons_self).bm, (TB _ List.mem_cons_self).gP⟩) hb (fun H hH hS => ⟨a, ns, rfl, hS, hlen, ⟨#[], hH _ List.mem_cons_self, ?_⟩, fun _ => rfl⟩) fun _ _ _ z => z
  · rw [List.mem_singleton.mp hp]
    exact hP
  · rw [List.mem_singleton.mp hp]
    exact nT w
  · rw [List.mem_singleton.mp hp]
    exact hC
  · trivial
end FC
namespace FC
open PySem L2 StX PyProof.Rows GxR
open TL (tl)
section
variable {P : Program} {w : World} {K : PySem.W.Frag} {mg : Str → Option Value} {base : Heap} {t1 t2 t3 t4 t5 : Tok} {Z f g f1 f2 f3 f4 f5 f6 f7 f8 f9 c Pt dp : Addr} {fd gd fd1 fd2 fd3 fd4 fd5 fd6 fd7 fd8 fd9 : FuncData}
/-! ### the law's own reader -/
theorem sc_law_end : FnScope ["_law_line", "_law_at"] ["_law_line", "_law_at"] (defScope s_law_end) := ⟨rfl, rfl, rfl, by decide +kernel, rfl, by decide +kernel, by decide +kernel⟩
theorem ok_lend (d : Df K mg "_law_end" s_law_end ["_law_line", "_law_at"] f fd) (z : Bl2 mg) : FnOk P w K mg base CX0 1 f fd ["_law_line", "_law_at"] spEnd := by
  refine d.F.ok sc_law_end (fun vs H Q E h => ?_) (fun cdv A outer s H vs Q E hr h => ?_)
  · obtain ⟨s, i, rfl, _⟩ := h
    rfl
  obtain ⟨s, i, rfl, hl, q⟩ := h
  refine ⟨_, (pss_cons (ps_while PassesOwn.never (PW.pt (pw_and (pt_cmpR op_lt (pv 1) (pe_callB call_len_str (by rfl) z.len PySem.boot_len (pa_cons (pv 0) pa_nil)) (nomark _)) (pw_and1 (pt_cmpR op_notIn_sign (pe_ix ix_str (pv 0) (pv 1) (fun _ _ => rfl)) pe_str rfl)))) (pss_one (ps_set (i := 1) sc_law_end.nd rfl (.inl rfl) (pe_op op_add (pv 1) pe_int))))
    (pss_one (ps_ret (pv 1)))), ?_⟩
  have hl2 : s.length = (tl s).length := TL.len_tl s
  have hw := wrd_le ((tl s).drop i)
  rw [List.length_drop] at hw
  refine while_by (fun σ H' => H' = H ∧ ∃ k, σ = [some (.str s), some (.int ((i + k : Nat) : Int))] ∧ k ≤ (wrd ((tl s).drop i)).length) (fun σ _ => match σ with
    | [_, some (.int n)] => i + (wrd ((tl s).drop i)).length - n.toNat
    | _ => 0) ⟨rfl, 0, rfl, Nat.zero_le _⟩ (fun σ H' hI => ?_) (fun σ H' Q1 Q2 hm h => ?_)
  · obtain ⟨rfl, k, rfl, hk⟩ := hI
    have stop : k = (wrd ((tl s).drop i)).length → tRet (tVar 1) { nx := fun x H' => Q V.non H', rt := Q } [some (V.str s), some (V.int ((i + k : Nat) : Int))] H' := fun e => by
      rw [e]
      exact ⟨_, rfl, q⟩
    refine ⟨_, rfl, _, rfl, s, rfl, by rw [sizeLine_eq]; omega, _, _, rfl, rfl, _, rfl, ?_⟩
    refine ite2 (fun a => ?_) (fun a => ?_)
    · have a' : ((i + k : Nat) : Int) < ((s.length : Nat) : Int) := of_decide_eq_true a
      have hlt : i + k < (tl s).length := by omega
      have hc : atI s.cps.toList ((i + k : Nat) : Int) = some ((tl s)[i + k]) := at_ofA rfl (List.getElem?_eq_getElem hlt)
      refine ⟨_, rfl, _, rfl, s, _, _, rfl, rfl, by rw [sizeLine_eq]; omega, hc, _, _, rfl, rfl, _, rfl, ?_⟩
      have hdk : ((tl s).drop i)[k]? = some ((tl s)[i + k]) := by rw [List.getElem?_drop, List.getElem?_eq_getElem hlt]
      have hsep : ∀ cc : Nat, decide (cc ∈ (Str.ofString " ()").cps.toList) = sepC cc := fun cc => by
        have e : (Str.ofString " ()").cps.toList = [32, 40, 41] := by decide +kernel
        rw [e]
        unfold sepC
        simp [Bool.or_assoc]
        rfl
      rw [hsep]
      obtain ⟨h1, h2⟩ := wrd_at ((tl s).drop i) hk hdk
      refine ite2 (fun b => ?_) (fun b => ?_)
      · have b' : sepC (tl s)[i + k] = false := by simpa using b
        have hlt2 := h1 b'
        refine ⟨_, rfl, _, _, rfl, rfl, ⟨rfl, k + 1, ?_, hlt2⟩, ?_⟩
        · show [some (V.str s), some (V.int (((i + k : Nat) : Int) + 1))] = _
          rw [show ((i + k : Nat) : Int) + 1 = ((i + (k + 1) : Nat) : Int) by omega]
        · show i + (wrd ((tl s).drop i)).length - (((i + k : Nat) : Int) + 1).toNat < i + (wrd ((tl s).drop i)).length - ((i + k : Nat) : Int).toNat
          omega
      · have b' : sepC (tl s)[i + k] = true := by simpa using b
        exact stop (h2 b')
    · have a' : ¬ ((i + k : Nat) : Int) < ((s.length : Nat) : Int) := fun z => a (decide_eq_true z)
      exact stop (by omega)
  · obtain ⟨v1, e1, v2, e2, z1, ez, hz, b1, b2, eb1, eb2, b3, eb3, h⟩ := h
    refine ⟨v1, e1, v2, e2, z1, ez, hz, b1, b2, eb1, eb2, b3, eb3, ?_⟩
    cases b3 with
    | false => exact hm _ _ h
    | true =>
      obtain ⟨w1, f1, w2, f2, c1, c2, c3, g1, g2, g3, g4, c4, c5, g5, g6, g7, g8, h⟩ := h
      exact ⟨w1, f1, w2, f2, c1, c2, c3, g1, g2, g3, g4, c4, c5, g5, g6, g7, g8, hm _ _ h⟩
/-- whether a text is a name -/
def spNameB : Sp := fun vs H Q _ => ∃ x : Str, vs = [.str x] ∧ x.length ≤ 20000 ∧ Q (.bl (nameB (tl x))) H
theorem ok_nameB (d : Df K mg "_law_is_name" s_law_is_name ["_law_word"] f fd) (z : Bl2 mg) : FnOk P w K mg base CX0 1 f fd ["_law_word"] spNameB := by
  refine d.F.ok scIsName (fun vs H Q E h => ?_) (fun cdv A outer s H vs Q E hr h => ?_)
  · obtain ⟨x, rfl, _⟩ := h
    rfl
  obtain ⟨x, rfl, hl, q⟩ := h
  refine ⟨_, (pss_cons (ps_if (PW.pt (pw_or (pt_not (pt_val (pe_callB call_isi (by rfl) z.isi (by decide +kernel) (pa_cons (pv 0) (pa_cons (pe_bltn (by rfl) z.str (by decide +kernel) (v := .ty "str") rfl) pa_nil))))) (pw_or1 (pt_not (pt_chain op_le op_le pe_int (pe_callB call_len_str (by rfl) z.len PySem.boot_len (pa_cons (pv 0) pa_nil)) pe_int))))) (pss_one (ps_ret pe_bl)) pss_nil)
    (pss_cons (ps_for PassesOwn.never rfl (pi_str (pv 0)) (pg_name (i := 1) scIsName.nd rfl (.inl rfl)) (pss_one (ps_if (pt_cmpR op_notIn_sign (pv 1) pe_str rfl) (pss_one (ps_ret pe_bl)) pss_nil)))
    (pss_one (ps_ret pe_bl)))), ?_⟩
  have e : (tl x).length = x.length := (TL.len_tl x).symm
  have e8 : ¬ (1 ≤ x.length ∧ x.length ≤ 8) → nameB (tl x) = false := fun h => by
    unfold nameB
    rw [e]
    by_cases h1 : 1 ≤ x.length
    · rw [decide_eq_false (show ¬ x.length ≤ 8 from fun z => h ⟨h1, z⟩), Bool.and_false, Bool.false_and]
    · rw [decide_eq_false h1, Bool.false_and, Bool.false_and]
  refine ⟨_, rfl, .str x, .ty "str", .type "str", .type "str", true, rfl, .ty _, .base (.str x), kit_ty (by decide +kernel), true, rfl, iteF ?_⟩
  refine ⟨_, rfl, x, rfl, by rw [sizeLine_eq]; omega, ?_⟩
  by_cases h1 : 1 ≤ x.length
  · by_cases h2 : x.length ≤ 8
    · refine ⟨_, _, rfl, rfl, true, congrArg V.bl (decide_eq_true (by omega)), iteT ⟨_, _, rfl, rfl, true, congrArg V.bl (decide_eq_true (by omega)), iteF ?_⟩⟩
      have e9 : nameB (tl x) = (tl x).all lowC := by
        unfold nameB
        rw [e, decide_eq_true h1, decide_eq_true h2, Bool.true_and, Bool.true_and]
      refine ⟨_, rfl, x, rfl, ?_⟩
      refine for_str (x := x) (fun i σ H2 => H2 = H ∧ ((tl x).take i).all lowC = true ∧ ∃ zz, σ = [some (.str x), zz]) ⟨rfl, rfl, _, rfl⟩ (fun i cc σ H2 hc hP => ?_) (fun σ H2 hP => ?_)
      · obtain ⟨rfl, hall, zz, rfl⟩ := hP
        have hc' : (tl x)[i]? = some cc := by rw [← hc]; simp
        refine ⟨_, rfl, cc, _, rfl, rfl, _, rfl, ?_⟩
        rw [low_mem]
        cases hcc : lowC cc with
        | true =>
          refine iteF ⟨rfl, ?_, _, rfl⟩
          rw [List.take_add_one, hc', List.all_append, hall]
          show (true && ([cc].all lowC)) = true
          rw [Bool.true_and, List.all_cons, hcc]
          rfl
        | false =>
          refine iteT ?_
          have hf : nameB (tl x) = false := by
            rw [e9]
            rw [Bool.eq_false_iff]
            intro z
            have := List.all_eq_true.mp z cc (List.mem_of_getElem? hc')
            rw [hcc] at this
            cases this
          rw [hf] at q
          exact q
      · obtain ⟨rfl, hall, zz, rfl⟩ := hP
        have ht : nameB (tl x) = true := by
          rw [e9]
          rw [List.take_of_length_le (by rw [e]; exact Nat.le_refl _)] at hall
          exact hall
        rw [ht] at q
        exact q
    · rw [e8 fun z => h2 z.2] at q
      exact ⟨_, _, rfl, rfl, true, congrArg V.bl (decide_eq_true (by omega)), iteT ⟨_, _, rfl, rfl, false, congrArg V.bl (decide_eq_false (by omega)), iteT q⟩⟩
  · rw [e8 fun z => h1 z.1] at q
    exact ⟨_, _, rfl, rfl, false, congrArg V.bl (decide_eq_false (by omega)), iteF ⟨_, rfl, iteT q⟩⟩
end
end FC
/-! which pieces write a number: no leading 0 -/
namespace FC
open PySem L2 StX PyProof.Rows
open TL (tl)
theorem val_snoc (l : List Nat) (d : Nat) : NumText.digitsVal (l ++ [d]) = NumText.digitsVal l * 10 + (d - 48) := by
  unfold NumText.digitsVal
  rw [List.foldl_append]
  rfl
theorem foldl_pos : ∀ (l : List Nat) (a : Nat), 1 ≤ a → 1 ≤ l.foldl (fun acc c => acc * 10 + (c - 48)) a
  | [], a, h => h
  | c :: l, a, h => foldl_pos l _ (by show 1 ≤ a * 10 + (c - 48); omega)
theorem val_pos {l : List Nat} (hd : NumText.AllDigits l) (hne : l ≠ []) (h0 : l.head? ≠ some 48) : 1 ≤ NumText.digitsVal l := by
  cases l with
  | nil => exact absurd rfl hne
  | cons c r =>
    have h1 := hd.head
    have h2 : c ≠ 48 := fun z => h0 (by rw [z]; rfl)
    exact foldl_pos r _ (by show 1 ≤ 0 * 10 + (c - 48); omega)
theorem num_canon : ∀ (n : Nat) (l : List Nat), l.length = n → NumText.AllDigits l → l ≠ [] → (l.head? ≠ some 48 ∨ l = [48]) → TL.numL (NumText.digitsVal l) = l := by
  intro n
  induction n with
  | zero =>
    intro l hl _ hne _
    exact absurd (List.eq_nil_of_length_eq_zero hl) hne
  | succ n ih =>
    intro l hl hd hne h0
    rcases List.eq_nil_or_concat l with e | ⟨i, d, e⟩
    · exact absurd e hne
    · rw [List.concat_eq_append] at e
      subst e
      have hdd := hd d (by simp)
      cases i with
      | nil =>
        have e1 : NumText.digitsVal ([] ++ [d]) = d - 48 := by
          rw [val_snoc]
          show 0 * 10 + (d - 48) = _
          omega
        rw [e1, TL.numL_lt (by omega)]
        show [48 + (d - 48)] = [d]
        rw [show 48 + (d - 48) = d by omega]
      | cons c r =>
        have h9 : (c :: r).head? ≠ some 48 := by
          rcases h0 with h | h
          · exact h
          · have := congrArg List.length h
            simp at this
        have hdi : NumText.AllDigits (c :: r) := fun x hx => hd x (List.mem_append_left _ hx)
        have hp := val_pos hdi (by simp) h9
        have hi := ih (c :: r) (by rw [List.length_append] at hl; simpa using hl) hdi (by simp) (.inl h9)
        rw [val_snoc, TL.numL_step (by omega)]
        have e1 : (NumText.digitsVal (c :: r) * 10 + (d - 48)) / 10 = NumText.digitsVal (c :: r) := by omega
        have e2 : 48 + (NumText.digitsVal (c :: r) * 10 + (d - 48)) % 10 = d := by omega
        rw [e1, e2, hi]
theorem numL_head : ∀ (n : Nat), 1 ≤ n → (TL.numL n).head? ≠ some 48 := by
  intro n
  induction n using Nat.strongRecOn with
  | _ n ih =>
    intro h1
    by_cases h : n < 10
    · rw [TL.numL_lt h]
      intro z
      have : 48 + n = 48 := by simpa using z
      omega
    · rw [TL.numL_step (by omega)]
      have h2 := ih (n / 10) (by omega) (by omega)
      cases q : TL.numL (n / 10) with
      | nil => exact absurd q (TL.numL_ne _)
      | cons c r =>
        rw [q] at h2
        exact h2
theorem numL_zero : TL.numL 0 = [48] := TL.numL_lt (by decide)
/-- a number's text is the piece itself: no leading 0 -/
theorem text_same {w : List Nat} (hd : NumText.AllDigits (figs w)) (hne : figs w ≠ []) : tl (Str.ofString (toString (valI w))) = w ↔ ¬ ((figs w).head? = some 48 ∧ w ≠ [48]) := by
  cases w with
  | nil => exact absurd rfl hne
  | cons c r =>
    by_cases hc : c = 45
    · subst hc
      have e1 : figs (45 :: r) = r := rfl
      rw [e1] at hd hne ⊢
      have e2 : valI (45 :: r) = -((NumText.digitsVal r : Nat) : Int) := rfl
      rw [e2]
      by_cases h0 : r.head? = some 48
      · refine ⟨fun h => ?_, fun h => absurd ⟨h0, by simp⟩ h⟩
        intro _
        by_cases hz : NumText.digitsVal r = 0
        · rw [hz] at h
          have e3 : tl (Str.ofString (toString (-((0 : Nat) : Int)))) = [48] := by decide +kernel
          rw [e3] at h
          simp at h
        · rw [tl_neg _ hz] at h
          have h2 : TL.numL (NumText.digitsVal r) = r := by simpa using h
          have h3 := numL_head (NumText.digitsVal r) (by omega)
          rw [h2] at h3
          exact h3 h0
      · have hp := val_pos hd hne h0
        rw [tl_neg _ (by omega), num_canon _ r rfl hd hne (.inl h0)]
        exact ⟨fun _ z => h0 z.1, fun _ => rfl⟩
    · have e1 : figs (c :: r) = c :: r := by
        unfold figs
        split
        · rename_i e
          cases e
          exact absurd rfl hc
        · rfl
      have e2 : valI (c :: r) = ((NumText.digitsVal (c :: r) : Nat) : Int) := by
        unfold valI
        split
        · rename_i e
          cases e
          exact absurd rfl hc
        · rfl
      rw [e1] at hd hne ⊢
      rw [e2, TL.tl_num]
      by_cases h0 : (c :: r).head? = some 48
      · by_cases h1 : c :: r = [48]
        · rw [h1]
          refine ⟨fun _ z => z.2 rfl, fun _ => ?_⟩
          exact numL_zero
        · refine ⟨fun h => ?_, fun h => absurd ⟨h0, h1⟩ h⟩
          by_cases hz : NumText.digitsVal (c :: r) = 0
          · rw [hz, numL_zero] at h
            exact absurd h.symm h1
          · have h3 := numL_head _ (show 1 ≤ NumText.digitsVal (c :: r) by omega)
            rw [h] at h3
            exact absurd h0 h3
      · rw [num_canon _ _ rfl hd hne (.inl h0)]
        exact ⟨fun _ z => h0 z.1, fun _ => rfl⟩
theorem atom_law (w : List Nat) : atomE w = if nameB w = true then some (.nam ⟨w.toArray⟩) else (numE w).map .num := by
  unfold atomE
  by_cases hh : w.head?.any lowC = true
  · rw [if_pos hh]
    by_cases hn : nameB w = true
    · rw [if_pos hn, if_pos hn]
    · rw [if_neg hn, if_neg hn]
      cases w with
      | nil => cases hh
      | cons c r =>
        have hc : lowC c = true := hh
        have h45 : c ≠ 45 := fun z => by rw [z] at hc; exact absurd hc (by decide)
        have e1 : figs (c :: r) = c :: r := by
          unfold figs
          split
          · rename_i e
            cases e
            exact absurd rfl h45
          · rfl
        have : numE (c :: r) = none := by
          unfold numE
          rw [e1]
          refine if_neg fun z => ?_
          have hd := List.all_eq_true.mp z.2.2.1 c List.mem_cons_self
          rw [dig_nolow hd] at hc
          cases hc
        rw [this]
        rfl
  · rw [if_neg hh]
    have hn : ¬ nameB w = true := fun z => by
      unfold nameB at z
      rw [Bool.and_eq_true, Bool.and_eq_true, decide_eq_true_eq, List.all_eq_true] at z
      cases w with
      | nil => exact absurd z.1.1 (by decide)
      | cons c r => exact hh (z.2 c List.mem_cons_self)
    rw [if_neg hn]
theorem rdN_ok {n : Nat} {f : List Nat → Option (Ex × List Nat)} (hf : ∀ l e r, f l = some (e, r) → e.ok ∧ e.deep ≤ n) : ∀ (k : Nat) (l : List Nat) (es : List Ex) (r : List Nat), rdN f k l = some (es, r) → ∀ e ∈ es, e.ok ∧ e.deep ≤ n
  | 0, l, es, r, h, e, he => by
    cases h
    cases he
  | k + 1, l, es, r, h, e, he => by
    unfold rdN at h
    cases h1 : pastC 32 l with
    | none => rw [h1] at h; cases h
    | some r0 =>
      rw [h1] at h
      have h : (match f r0 with | some (e, r1) => (match rdN f k r1 with | some (es, r2) => some (e :: es, r2) | none => none) | none => none) = some (es, r) := h
      cases h2 : f r0 with
      | none => rw [h2] at h; cases h
      | some q =>
        obtain ⟨e1, r1⟩ := q
        rw [h2] at h
        have h : (match rdN f k r1 with | some (es, r2) => some (e1 :: es, r2) | none => none) = some (es, r) := h
        cases h3 : rdN f k r1 with
        | none => rw [h3] at h; cases h
        | some q2 =>
          obtain ⟨es1, r2⟩ := q2
          rw [h3] at h
          cases h
          rcases List.mem_cons.mp he with rfl | he
          · exact hf _ _ _ h2
          · exact rdN_ok hf k r1 es1 r h3 e he
theorem mk_ok {n : Nat} {h : Hd} {es : List Ex} {e : Ex} (hm : h.mk es = some e) (hx : ∀ x, h = .lett x → NameOk x) (he : ∀ e ∈ es, e.ok ∧ e.deep ≤ n) : e.ok ∧ e.deep ≤ n + 1 := by
  unfold Hd.mk at hm
  split at hm
  · cases hm
    rename_i o a b
    have h1 := he a (by simp)
    have h2 := he b (by simp)
    have hdd : (Ex.two o a b).deep = max a.deep b.deep + 1 := rfl
    exact ⟨⟨h1.1, h2.1⟩, by omega⟩
  · cases hm
    rename_i c a b
    have h0 := he c (by simp)
    have h1 := he a (by simp)
    have h2 := he b (by simp)
    have hdd : (Ex.whn c a b).deep = max (max c.deep a.deep) b.deep + 1 := rfl
    exact ⟨⟨h0.1, h1.1, h2.1⟩, by omega⟩
  · cases hm
    rename_i x a b
    have h1 := he a (by simp)
    have h2 := he b (by simp)
    have hdd : (Ex.lett x a b).deep = max a.deep b.deep + 1 := rfl
    exact ⟨⟨hx x rfl, h1.1, h2.1⟩, by omega⟩
  · cases hm
theorem head_name {l r : List Nat} {x : Str} (h : headE l = some (.lett x, r)) : NameOk x := by
  unfold headE at h
  cases h1 : opOf (wrd l) with
  | some o => rw [h1] at h; cases h
  | none =>
    rw [h1] at h
    have h : (if wrd l = tl "when" then some (Hd.whn, aft l) else if wrd l = tl "let" then (match pastC 32 (aft l) with | some r => if nameB (wrd r) = true then some (Hd.lett ⟨(wrd r).toArray⟩, aft r) else none | none => none) else none) = some (.lett x, r) := h
    by_cases h2 : wrd l = tl "when"
    · rw [if_pos h2] at h
      cases h
    · rw [if_neg h2] at h
      by_cases h3 : wrd l = tl "let"
      · rw [if_pos h3] at h
        cases h4 : pastC 32 (aft l) with
        | none => rw [h4] at h; cases h
        | some r0 =>
          rw [h4] at h
          have h : (if nameB (wrd r0) = true then some (Hd.lett ⟨(wrd r0).toArray⟩, aft r0) else none) = some (.lett x, r) := h
          by_cases h5 : nameB (wrd r0) = true
          · rw [if_pos h5] at h
            cases h
            exact nameB_ok h5
          · rw [if_neg h5] at h
            cases h
      · rw [if_neg h3] at h
        cases h
theorem rd_ok : ∀ (n : Nat) (l : List Nat) (e : Ex) (r : List Nat), rdE n l = some (e, r) → e.ok ∧ e.deep ≤ n
  | 0, l, e, r, h => by cases h
  | n + 1, l, e, r, h => by
    have h : (if l.head? = some 40 then brkE (rdE n) l.tail else match atomE (wrd l) with | some e => some (e, aft l) | none => none) = some (e, r) := h
    by_cases hb : l.head? = some 40
    · rw [if_pos hb] at h
      unfold brkE at h
      cases h1 : headE l.tail with
      | none => rw [h1] at h; cases h
      | some q =>
        obtain ⟨hd, r0⟩ := q
        rw [h1] at h
        have h : (match rdN (rdE n) hd.cnt r0 with | some (es, r1) => (match pastC 41 r1 with | some r2 => (match hd.mk es with | some e => some (e, r2) | none => none) | none => none) | none => none) = some (e, r) := h
        cases h2 : rdN (rdE n) hd.cnt r0 with
        | none => rw [h2] at h; cases h
        | some q2 =>
          obtain ⟨es, r1⟩ := q2
          rw [h2] at h
          have h : (match pastC 41 r1 with | some r2 => (match hd.mk es with | some e => some (e, r2) | none => none) | none => none) = some (e, r) := h
          cases h3 : pastC 41 r1 with
          | none => rw [h3] at h; cases h
          | some r2 =>
            rw [h3] at h
            have h : (match hd.mk es with | some e => some (e, r2) | none => none) = some (e, r) := h
            cases h4 : hd.mk es with
            | none => rw [h4] at h; cases h
            | some e' =>
              rw [h4] at h
              cases h
              exact mk_ok h4 (fun x hx => by subst hx; exact head_name h1) (rdN_ok (rd_ok n) _ _ _ _ h2)
    · rw [if_neg hb] at h
      cases h1 : atomE (wrd l) with
      | none => rw [h1] at h; cases h
      | some e' =>
        rw [h1] at h
        cases h
        unfold atomE at h1
        split at h1
        · split at h1
          · rename_i hn
            cases h1
            exact ⟨nameB_ok hn, by show 1 ≤ n + 1; omega⟩
          · cases h1
        · cases h2 : numE (wrd l) with
          | none => rw [h2] at h1; cases h1
          | some m =>
            rw [h2] at h1
            cases h1
            unfold numE at h2
            split at h2
            · rename_i hh
              cases h2
              exact ⟨hh.2.2.2.1, by show 1 ≤ n + 1; omega⟩
            · cases h2
def okR (l : List Nat) : Bool := match rdE 60 l with
  | some (_, []) => true
  | _ => false
theorem okR_yes {l : List Nat} {e : Ex} (h : rdE 60 l = some (e, [])) : okR l = true := by
  unfold okR
  rw [h]
theorem okR_no {l : List Nat} (h : ∀ e, rdE 60 l ≠ some (e, [])) : okR l = false := by
  unfold okR
  split
  · rename_i e h2
    exact absurd h2 (h e)
  · rfl
end FC
namespace FC
open PySem L2 StX PyProof.Rows GxR
open TL (tl)
section
variable {P : Program} {w : World} {K : PySem.W.Frag} {mg : Str → Option Value} {base : Heap} {t1 t2 t3 t4 t5 : Tok} {Z f g f1 f2 f3 f4 f5 f6 f7 f8 f9 c Pt dp : Addr} {fd gd fd1 fd2 fd3 fd4 fd5 fd6 fd7 fd8 fd9 : FuncData}
def spAtom : Sp := fun vs H Q _ => ∃ x : Str, vs = [.str x] ∧ x.length ≤ 20000 ∧ (∀ H' v e, Same H H' → atomE (tl x) = some e → Bears H' v e → Q v H') ∧ (atomE (tl x) = none → Q .non H)
theorem tAnd_at {A B : TT} {σ : L2.St} {H : Hp} {K : Bool → Hp → Prop} (b1 b2 : Bool) (hA : ∀ Q : Bool → Hp → Prop, Q b1 H → A σ H Q) (hB : ∀ Q : Bool → Hp → Prop, Q b2 H → B σ H Q) (hK : K (b1 && b2) H) : tAnd A B σ H K := by
  refine hA _ ?_
  cases b1 with
  | true => exact iteT (hB _ hK)
  | false => exact iteF hK
theorem sc_law_atom : FnScope ["_law_word", "_law_figures", "_law_sign"] ["_law_word"] (defScope s_law_atom) := ⟨rfl, rfl, rfl, by decide +kernel, rfl, by decide +kernel, by decide +kernel⟩
theorem cut_head1 (x : Str) : cutS x none (some 1) = ⟨((tl x).take 1).toArray⟩ := by
  unfold cutS
  rw [HT.sIx_none]
  have e1 : HT.sIx x.length x.length (some 1) = min 1 x.length := by
    rw [sIx_pos (by decide)]
    rfl
  rw [e1]
  congr 2
  rw [List.drop_zero, Nat.sub_zero]
  show (tl x).take (min 1 x.length) = (tl x).take 1
  rw [TL.len_tl]
  cases tl x with
  | nil => simp
  | cons c r => simp
theorem ok_atom (d : Df K mg "_law_atom" s_law_atom ["_law_word"] f fd) (z : Bl2 mg) (d_isName : Df K mg "_law_is_name" s_law_is_name ["_law_word"] f1 fd1) (G_isName : FnOk P w K mg base CX0 1 f1 fd1 ["_law_word"] spNameB) :
    FnOk P w K mg base CX0 2 f fd ["_law_word"] spAtom := by
  refine d.F.ok sc_law_atom (fun vs H Q E h => ?_) (fun cdv A outer s H vs Q E hr h => ?_)
  · obtain ⟨x, rfl, _⟩ := h
    rfl
  obtain ⟨x, rfl, hl, q1, q2⟩ := h
  refine ⟨_, (pss_cons (ps_if (pt_val (pe_call G_isName (hr.mono (by omega)) (by rfl) d_isName.m d_isName.k d_isName.b .nil pass0 (pa_cons (pv 0) pa_nil))) (pss_one (ps_ret (pe_tup (pa_cons pe_str (pa_cons (pv 0) pa_nil))))) pss_nil)
    (pss_cons (ps_set (i := 1) sc_law_atom.nd rfl (.inl rfl) (pv 0))
    (pss_cons (ps_if (pt_cmpR op_eq (pe_slice sl_str (pv 0) po_none (po_some pe_int)) pe_str (nomark _)) (pss_one (ps_set (i := 1) sc_law_atom.nd rfl (.inl rfl) (pe_slice sl_str (pv 0) (po_some pe_int) po_none))) pss_nil)
    (pss_cons (ps_if (PW.pt (pw_or (pt_cmpR op_eq (pv 1) pe_str (nomark _)) (pw_or (pt_cmpR op_gt (pe_callB call_len_str (by rfl) z.len PySem.boot_len (pa_cons (pv 1) pa_nil)) pe_int (nomark _)) (pw_or1 (PW.pt (pw_and (pt_cmpR op_eq (pe_ix ix_str (pv 1) pe_int (fun _ _ => rfl)) pe_str (nomark _)) (pw_and1 (pt_cmpR op_ne (pv 0) pe_str (nomark _))))))))) (pss_one (ps_ret pe_non)) pss_nil)
    (pss_cons (ps_for PassesOwn.never rfl (pi_str (pv 1)) (pg_name (i := 2) sc_law_atom.nd rfl (.inl rfl)) (pss_one (ps_if (pt_cmpR op_notIn_sign (pv 2) pe_str rfl) (pss_one (ps_ret pe_non)) pss_nil)))
    (pss_cons (ps_if (pt_cmpR op_gt (pe_callB call_abs (by rfl) z.abs (by decide +kernel) (pa_cons (pe_callTy call_int_str (by rfl) z.int (by decide +kernel) (pa_cons (pv 0) pa_nil)) pa_nil)) pe_int (nomark _)) (pss_one (ps_ret pe_non)) pss_nil)
    (pss_one (ps_ret (pe_tup (pa_cons pe_str (pa_cons (pe_callTy call_int_str (by rfl) z.int (by decide +kernel) (pa_cons (pv 0) pa_nil)) pa_nil))))))))))), ?_⟩
  have hat := atom_law (tl x)
  refine ⟨_, rfl, x, rfl, hl, _, rfl, ?_⟩
  cases hn : nameB (tl x) with
  | true =>
    rw [if_pos hn] at hat
    refine iteT ⟨_, rfl, (by show 2 ≤ sizeLine; decide), fun p hp => ?_⟩
    exact q1 _ _ (.nam x) (same_new hp _) (by rw [hat, TL.mk_tl]) (.nam upd_same)
  | false =>
  rw [if_neg (by rw [hn]; decide)] at hat
  refine iteF ⟨_, rfl, ?_⟩
  have hmin : Str.ofString "-" = ⟨#[45]⟩ := by decide +kernel
  have hf := figS_tl x
  have hst := start_minus x
  generalize hB : Txt.startswith x (Str.ofString "-") = bb at hst
  dsimp only [gName]
  refine if_mergeB (fun σ' H' => H' = H ∧ σ' = [some (.str x), some (.str (figS x)), none]) bb (fun Q' hQ => ?_) (fun hb N hN => ?_) (fun hb N hN => ?_) (fun σ' H' hM => ?_)
  · refine ⟨_, rfl, _, rfl, x, rfl, by rw [sizeLine_eq]; omega, rfl, bb, congrArg V.bl ?_, hQ⟩
    rw [cut_head1, hmin]
    cases hb : bb with
    | true =>
      obtain ⟨r, hr⟩ := hst.mp hb
      rw [hr]
      simp
    | false =>
      have : ¬ ∃ r, tl x = 45 :: r := fun z => by rw [hst.mpr z] at hb; cases hb
      cases q : tl x with
      | nil => simp
      | cons c r =>
        have hc : ¬ c = 45 := fun z => this ⟨r, by rw [q, z]⟩
        simp [hc]
  · have e : figS x = cutS x (some 1) none := if_pos (by rw [hB]; exact hb)
    refine ⟨_, rfl, _, rfl, x, rfl, by rw [sizeLine_eq]; omega, hN _ _ ⟨rfl, ?_⟩⟩
    rw [e]
    rfl
  · have e : figS x = x := if_neg (by rw [hB, hb]; decide)
    refine hN _ _ ⟨rfl, ?_⟩
    rw [e]
    rfl
  obtain ⟨rfl, rfl⟩ := hM
  have hlen : (figS x).length ≤ 20000 := by
    unfold figS
    split
    · exact Nat.le_trans (cutS_length x _ _) hl
    · exact hl
  generalize figS x = F at hf hlen
  have hFl : F.length = (figs (tl x)).length := by rw [TL.len_tl, hf]
  have bad : ¬ (1 ≤ (figs (tl x)).length ∧ (figs (tl x)).length ≤ 10 ∧ (figs (tl x)).all digC = true ∧ NumOk (valI (tl x)) ∧ tl (Str.ofString (toString (valI (tl x)))) = tl x) → Q .non H' := fun h => by
    have : numE (tl x) = none := if_neg h
    exact q2 (by rw [hat, this]; rfl)
  have hz : Str.ofString "0" = ⟨#[48]⟩ := by decide +kernel
  have he : tl (Str.ofString "") = [] := by decide +kernel
  by_cases h1 : F = Str.ofString ""
  · have h0 : (figs (tl x)).length = 0 := by rw [← hf, h1, he]; rfl
    exact ⟨_, rfl, rfl, true, congrArg V.bl (by rw [h1]; simp), iteT (bad fun z => by have := z.1; omega)⟩
  have h1' : ¬ V.str F = V.str (Str.ofString "") := fun z => h1 (by injection z)
  have hne : figs (tl x) ≠ [] := fun z => h1 (TL.ext_tl (by rw [hf, z, he]))
  have hpos : 1 ≤ (figs (tl x)).length := List.length_pos_iff.mpr hne
  refine ⟨_, rfl, rfl, false, congrArg V.bl (decide_eq_false h1'), iteF ⟨_, rfl, F, rfl, by rw [sizeLine_eq]; omega, _, _, rfl, rfl, _, rfl, ?_⟩⟩
  refine ite2 (fun a => ?_) (fun a => ?_)
  · have a' : (10 : Int) < (F.length : Int) := of_decide_eq_true a
    exact iteT (bad fun z => by have := z.2.1; omega)
  have a' : ¬ (10 : Int) < (F.length : Int) := fun z => a (decide_eq_true z)
  obtain ⟨c0, r0, hcr⟩ := List.exists_cons_of_ne_nil hne
  have hc : atI F.cps.toList 0 = some c0 := by
    rw [show F.cps.toList = figs (tl x) from hf, hcr]
    exact at_ofA (j := 0) (xs := c0 :: r0) rfl rfl
  refine tAnd_at (decide (c0 = 48)) (!decide (V.str x = V.str (Str.ofString "0"))) (fun Q' hQ => ⟨_, rfl, F, 0, c0, rfl, rfl, by rw [sizeLine_eq]; omega, hc, rfl, _, congrArg V.bl ?_, hQ⟩) (fun Q' hQ => ⟨_, rfl, rfl, _, rfl, hQ⟩) ?_
  · rw [hz]
    simp
  have hx0 : V.str x = V.str (Str.ofString "0") ↔ tl x = [48] := by
    constructor
    · intro z
      injection z with z
      rw [z, hz]
    · intro z
      exact congrArg V.str (TL.ext_tl (by rw [z, hz]))
  by_cases hlead : (figs (tl x)).head? = some 48 ∧ tl x ≠ [48]
  · have e1 : decide (c0 = 48) = true := by
      have := hlead.1
      rw [hcr] at this
      simpa using this
    have e2 : (!decide (V.str x = V.str (Str.ofString "0"))) = true := by
      rw [decide_eq_false (fun z => hlead.2 (hx0.mp z))]
      rfl
    rw [e1, e2]
    refine iteT ?_
    by_cases hd : NumText.AllDigits (figs (tl x))
    · exact bad fun z => (text_same hd hne).mp z.2.2.2.2 hlead
    · exact bad fun z => hd fun cc hcc => by
        have := List.all_eq_true.mp z.2.2.1 cc hcc
        unfold digC at this
        rw [Bool.and_eq_true, decide_eq_true_eq, decide_eq_true_eq] at this
        exact this
  · have e1 : (decide (c0 = 48) && !decide (V.str x = V.str (Str.ofString "0"))) = false := by
      by_cases h4 : c0 = 48
      · have : tl x = [48] := Classical.byContradiction fun z => hlead ⟨by rw [hcr, h4]; rfl, z⟩
        rw [decide_eq_true (hx0.mpr this)]
        simp
      · rw [decide_eq_false h4]
        rfl
    rw [e1]
    refine iteF ?_
    refine ⟨_, rfl, F, rfl, ?_⟩
    refine for_str (x := F) (fun i σ H2 => H2 = H' ∧ ((figs (tl x)).take i).all digC = true ∧ ∃ zz, σ = [some (.str x), some (.str F), zz]) ⟨rfl, rfl, _, rfl⟩ (fun i cc σ H2 hc hP => ?_) (fun σ H2 hP => ?_)
    · obtain ⟨rfl, hall, zz, rfl⟩ := hP
      have hc' : (figs (tl x))[i]? = some cc := by rw [← hf, ← hc]; simp
      refine ⟨_, rfl, cc, _, rfl, rfl, _, rfl, ?_⟩
      rw [dig_mem]
      cases hcc : digC cc with
      | true =>
        refine iteF ⟨rfl, ?_, _, rfl⟩
        rw [List.take_add_one, hc', List.all_append, hall]
        show (true && ([cc].all digC)) = true
        rw [Bool.true_and, List.all_cons, hcc]
        rfl
      | false =>
        exact iteT (bad fun z => by
          have := List.all_eq_true.mp z.2.2.1 cc (List.mem_of_getElem? hc')
          rw [hcc] at this
          cases this)
    · obtain ⟨rfl, hall, zz, rfl⟩ := hP
      rw [List.take_of_length_le (by rw [← hFl]; exact Nat.le_refl _)] at hall
      have hd : NumText.AllDigits (figs (tl x)) := fun cc hcc => by
        have := List.all_eq_true.mp hall cc hcc
        unfold digC at this
        rw [Bool.and_eq_true, decide_eq_true_eq, decide_eq_true_eq] at this
        exact this
      have hx11 : x.length ≤ 11 := by
        rw [TL.len_tl]
        have := figs_len (tl x)
        omega
      have hiv := int_val hd hne (show x.length ≤ 4300 by omega)
      refine ⟨_, rfl, x, valI (tl x), rfl, hiv, by omega, _, rfl, _, _, rfl, rfl, _, rfl, ite2 (fun a => ?_) (fun a => ?_)⟩
      · have a' := of_decide_eq_true a
        rw [absI] at a'
        exact bad fun z => by have := z.2.2.2.1.1; have := z.2.2.2.1.2; omega
      · have a' : ¬ _ := fun z => a (decide_eq_true z)
        rw [absI] at a'
        have hok : NumOk (valI (tl x)) := ⟨by omega, by omega⟩
        refine ⟨_, rfl, x, valI (tl x), rfl, hiv, by omega, (by show 2 ≤ sizeLine; decide), fun p hp => ?_⟩
        refine q1 _ _ (.num (valI (tl x))) (same_new hp _) ?_ (.num upd_same)
        have : numE (tl x) = some (valI (tl x)) := if_pos ⟨hpos, by omega, hall, hok, (text_same hd hne).mpr hlead⟩
        rw [hat, this]
        rfl
end
end FC
namespace FC
open PySem L2 StX PyProof.Rows GxR
open TL (tl)
abbrev nine : List V := [.str "sum", .str "less", .str "times", .str "part", .str "rest", .str "below", .str "same", .str "when", .str "let"]
theorem in9_no {W : Str} (h : cntOf (tl W) = none) : inV (.str W) nine = false := by
  obtain ⟨a1, a2, a3, a4, a5, a6, a7, a8, a9⟩ := cnt_none h
  have key : ∀ x : Str, W ≠ x → eqV (V.str x) (V.str W) = false := fun x hx => by
    have hx' : ¬ x = W := fun z => hx z.symm
    simp [eqV, hx']
  unfold inV
  simp only [nine, List.any_cons, List.any_nil, key _ a1, key _ a2, key _ a3, key _ a4, key _ a5, key _ a6, key _ a7, key _ a8, key _ a9, Bool.or_false]
theorem in9_yes {W : Str} {k : Nat} (h : cntOf (tl W) = some k) : inV (.str W) nine = true := by
  rcases cnt_some h with ⟨rfl, rfl⟩ | ⟨rfl, rfl⟩ | ⟨rfl, rfl⟩ | ⟨rfl, rfl⟩ | ⟨rfl, rfl⟩ | ⟨rfl, rfl⟩ | ⟨rfl, rfl⟩ | ⟨rfl, rfl⟩ | ⟨rfl, rfl⟩ <;> decide
section
variable {P : Program} {w : World} {K : PySem.W.Frag} {mg : Str → Option Value} {base : Heap} {t1 t2 t3 t4 t5 : Tok} {Z f g f1 f2 f3 f4 f5 f6 f7 f8 f9 c Pt dp : Addr} {fd gd fd1 fd2 fd3 fd4 fd5 fd6 fd7 fd8 fd9 : FuncData}
def spHead : Sp := fun vs H Q _ => ∃ (s : Str) (i : Nat), vs = [.str s, .int (i : Int)] ∧ s.length ≤ 20000 ∧ i ≤ s.length ∧
  (∀ (H' : Hp) (p r : Addr) (h : Hd) (j : Nat), Same H H' → headE ((tl s).drop i) = some (h, (tl s).drop j) → j ≤ s.length → H' p = some (.tup [.ref r, .int (j : Int)]) → H' r = some (.lst h.vals) → Q (.ref p) H') ∧
  (headE ((tl s).drop i) = none → ∀ H', Same H H' → Q .non H')
theorem sc_law_head : FnScope ["_law_line", "_law_at", "_law_end_here", "_law_word", "_law_name"] ["_law_line", "_law_at"] (defScope s_law_head) := ⟨rfl, rfl, rfl, by decide +kernel, rfl, by decide +kernel, by decide +kernel⟩
theorem ok_head (d : Df K mg "_law_head" s_law_head ["_law_line", "_law_at"] f fd) (z : Bl2 mg) (d_lend : Df K mg "_law_end" s_law_end ["_law_line", "_law_at"] f1 fd1) (G_lend : FnOk P w K mg base CX0 1 f1 fd1 ["_law_line", "_law_at"] spEnd)
    (d_isName : Df K mg "_law_is_name" s_law_is_name ["_law_word"] f2 fd2) (G_isName : FnOk P w K mg base CX0 1 f2 fd2 ["_law_word"] spNameB) :
    FnOk P w K mg base CX0 2 f fd ["_law_line", "_law_at"] spHead := by
  refine d.F.ok sc_law_head (fun vs H Q E h => ?_) (fun cdv A outer s H vs Q E hr h => ?_)
  · obtain ⟨s, i, rfl, _⟩ := h
    rfl
  obtain ⟨s, i, rfl, hl, hi, q1, q2⟩ := h
  refine ⟨_, (pss_cons (ps_set (i := 2) sc_law_head.nd rfl (.inl rfl) (pe_call G_lend (hr.mono (by omega)) (by rfl) d_lend.m d_lend.k d_lend.b .nil pass0 (pa_cons (pv 0) (pa_cons (pv 1) pa_nil))))
    (pss_cons (ps_set (i := 3) sc_law_head.nd rfl (.inl rfl) (pe_slice sl_str (pv 0) (po_some (pv 1)) (po_some (pv 2))))
    (pss_cons (ps_if (pt_cmpR op_notIn_seq (pv 3) (pe_lst (pa_cons pe_str (pa_cons pe_str (pa_cons pe_str (pa_cons pe_str (pa_cons pe_str (pa_cons pe_str (pa_cons pe_str (pa_cons pe_str (pa_cons pe_str pa_nil)))))))))) rfl) (pss_one (ps_ret pe_non)) pss_nil)
    (pss_cons (ps_if (pt_cmpR op_ne (pv 3) pe_str (nomark _)) (pss_one (ps_ret (pe_tup (pa_cons (pe_lst (pa_cons (pv 3) pa_nil)) (pa_cons (pv 2) pa_nil))))) pss_nil)
    (pss_cons (ps_set (i := 4) sc_law_head.nd rfl (.inl rfl) (pe_slice sl_str (pv 0) (po_some (pe_op op_add (pv 2) pe_int)) (po_some (pe_call G_lend (hr.mono (by omega)) (by rfl) d_lend.m d_lend.k d_lend.b .nil pass0 (pa_cons (pv 0) (pa_cons (pe_op op_add (pv 2) pe_int) pa_nil))))))
    (pss_cons (ps_if (PW.pt (pw_or (pt_cmpR op_ne (pe_slice sl_str (pv 0) (po_some (pv 2)) (po_some (pe_op op_add (pv 2) pe_int))) pe_str (nomark _)) (pw_or1 (pt_not (pt_val (pe_call G_isName (hr.mono (by omega)) (by rfl) d_isName.m d_isName.k d_isName.b .nil pass0 (pa_cons (pv 4) pa_nil))))))) (pss_one (ps_ret pe_non)) pss_nil)
    (pss_one (ps_ret (pe_tup (pa_cons (pe_lst (pa_cons (pv 3) (pa_cons (pv 4) pa_nil))) (pa_cons (pe_op op_add (pe_op op_add (pv 2) pe_int) (pe_callB call_len_str (by rfl) z.len PySem.boot_len (pa_cons (pv 4) pa_nil))) pa_nil))))))))))), ?_⟩
  have hw := wrd_le ((tl s).drop i)
  rw [List.length_drop, ← TL.len_tl] at hw
  have hdw := drop_wrd s i
  refine ⟨_, rfl, _, rfl, s, i, rfl, hl, ?_⟩
  refine ⟨_, rfl, _, rfl, _, rfl, _, rfl, _, rfl, s, rfl, by rw [sizeLine_eq]; omega, ?_⟩
  rw [cut_wrd]
  have hW : tl ⟨(wrd ((tl s).drop i)).toArray⟩ = wrd ((tl s).drop i) := rfl
  generalize (⟨(wrd ((tl s).drop i)).toArray⟩ : Str) = W at hW ⊢
  refine ⟨_, rfl, (by show 9 ≤ sizeLine; decide), fun L hL => ?_⟩
  have g1 := same_new hL (.lst [V.str "sum", V.str "less", V.str "times", V.str "part", V.str "rest", V.str "below", V.str "same", V.str "when", V.str "let"])
  have ec : ∀ j : Nat, cutS s (some (j : Int)) (some ((j : Int) + 1)) = ⟨(((tl s).drop j).take 1).toArray⟩ := fun j => by
    have h := cut_nat s (Nat.le_add_right j 1)
    rw [show j + 1 - j = 1 by omega] at h
    exact h
  rcases hc : cntOf (wrd ((tl s).drop i)) with _ | cnt
  · have hh : headE ((tl s).drop i) = none := by
      rcases head_cases ((tl s).drop i) with ⟨o, _, _, h, _⟩ | ⟨_, _, h, _⟩ | ⟨_, h, _⟩ | ⟨_, h⟩
      · rw [hc] at h; cases h
      · rw [hc] at h; cases h
      · rw [hc] at h; cases h
      · exact h
    have hin := in9_no (W := W) (by rw [hW]; exact hc)
    exact ⟨L, _, rfl, .inl (.inl (.inl upd_same)), rfl, rfl, true, congrArg V.bl (by show (!inV (.str W) nine) = true; rw [hin]; rfl), iteT (q2 hh _ g1)⟩
  have hin := in9_yes (W := W) (by rw [hW]; exact hc)
  refine ⟨L, _, rfl, .inl (.inl (.inl upd_same)), rfl, rfl, false, congrArg V.bl (by show (!inV (.str W) nine) = false; rw [hin]; rfl), iteF ?_⟩
  generalize upd H L (.lst [V.str "sum", V.str "less", V.str "times", V.str "part", V.str "rest", V.str "below", V.str "same", V.str "when", V.str "let"]) = H1 at g1 ⊢
  have plain : ∀ h : Hd, W = h.str → h.vals = [.str h.str] → headE ((tl s).drop i) = some (h, aft ((tl s).drop i)) → W ≠ Str.ofString "let" → ∀ r p : Addr, H1 r = none → upd H1 r (.lst [.str W]) p = none →
      Q (.ref p) (upd (upd H1 r (.lst [.str W])) p (.tup [.ref r, .int ((i + (wrd ((tl s).drop i)).length : Nat) : Int)])) := fun h hWh hv hh _ r p hr hp => by
    have g2 := same_new hr (.lst [.str W])
    have g3 := same_new hp (.tup [.ref r, .int ((i + (wrd ((tl s).drop i)).length : Nat) : Int)])
    refine q1 _ p r h (i + (wrd ((tl s).drop i)).length) (g1.trans (g2.trans g3)) (by rw [hdw]; exact hh) (by omega) upd_same ?_
    rw [g3 _ _ upd_same, hv, hWh]
  by_cases hlet : W = Str.ofString "let"
  · have hwl : wrd ((tl s).drop i) = tl (Str.ofString "let") := by rw [← hW, hlet]
    obtain ⟨hcc, hh⟩ : cntOf (wrd ((tl s).drop i)) = some 2 ∧ headE ((tl s).drop i) = match pastC 32 (aft ((tl s).drop i)) with | some r => if nameB (wrd r) = true then some (.lett ⟨(wrd r).toArray⟩, aft r) else none | none => none := by
      rcases head_cases ((tl s).drop i) with ⟨o, _, _, _, h⟩ | ⟨_, _, _, h⟩ | ⟨_, h1, h2⟩ | ⟨h, _⟩
      · exact absurd hwl h
      · exact absurd hwl h
      · exact ⟨h1, h2⟩
      · rw [hc] at h; cases h
    refine ⟨_, rfl, rfl, false, congrArg V.bl (by rw [hlet]; simp), iteF ?_⟩
    have hWl : wrd ((tl s).drop i) = tl W := hW.symm
    generalize he : i + (wrd ((tl s).drop i)).length = e at *
    have hcw : cutS s (some ((e : Int) + 1)) (some ((e + 1 + (wrd ((tl s).drop (e + 1))).length : Nat) : Int)) = ⟨(wrd ((tl s).drop (e + 1))).toArray⟩ := cut_wrd s (e + 1)
    have hw2 := wrd_le ((tl s).drop (e + 1))
    rw [List.length_drop, ← TL.len_tl] at hw2
    have hdw2 := drop_wrd s (e + 1)
    refine ⟨_, rfl, _, rfl, _, _, rfl, rfl, _, rfl, _, rfl, _, rfl, _, _, rfl, rfl, s, e + 1, rfl, hl, _, rfl, s, rfl, by rw [sizeLine_eq]; omega, ?_⟩
    rw [hcw]
    refine ⟨_, rfl, _, rfl, _, rfl, _, rfl, _, _, rfl, rfl, _, rfl, s, rfl, by rw [sizeLine_eq]; omega, ?_⟩
    rw [ec, sp32]
    rw [← hdw] at hh
    cases q : pastC 32 ((tl s).drop e) with
    | none =>
      rw [q] at hh
      refine ⟨rfl, true, congrArg V.bl ?_, iteT (q2 hh _ g1)⟩
      cases q2 : (tl s).drop e with
      | nil => simp
      | cons cc r =>
        rw [q2] at q
        have hcc : ¬ cc = 32 := fun z => by
          have : pastC 32 (cc :: r) = some r := if_pos z
          rw [this] at q
          cases q
        simp [hcc]
    | some r =>
      rw [q] at hh
      obtain ⟨hdr, hj⟩ := drop_past q
      have hcut : (((tl s).drop e).take 1) = [32] := by
        cases q2 : (tl s).drop e with
        | nil => rw [q2] at q; cases q
        | cons cc r' =>
          rw [q2] at q
          by_cases hcc : cc = 32
          · rw [hcc]; rfl
          · have : pastC 32 (cc :: r') = none := if_neg hcc
            rw [this] at q
            cases q
      rw [hcut]
      rw [hdr] at hw2 hdw2 ⊢
      refine ⟨rfl, false, congrArg V.bl (by simp), iteF ⟨_, rfl, ⟨(wrd r).toArray⟩, rfl, (by rw [TL.len_tl]; show (wrd r).length ≤ 20000; omega), _, rfl, ?_⟩⟩
      have hnb : nameB (tl ⟨(wrd r).toArray⟩) = nameB (wrd r) := rfl
      rw [hnb]
      cases hn : nameB (wrd r) with
      | false => exact iteT (q2 (hh.trans (if_neg (by rw [hn]; decide))) _ g1)
      | true =>
        have hh' := hh.trans (if_pos hn)
        refine iteF ⟨_, rfl, _, rfl, (by show 2 ≤ sizeLine; decide), fun rr hr => ⟨_, rfl, _, _, rfl, rfl, _, rfl, ⟨(wrd r).toArray⟩, rfl, (by rw [TL.len_tl, sizeLine_eq]; show (wrd r).length ≤ _; omega), _, _, rfl, rfl, (by show 2 ≤ sizeLine; decide), fun p hp => ?_⟩⟩
        have g2 := same_new hr (.lst [.str W, .str ⟨(wrd r).toArray⟩])
        have g3 := same_new hp (.tup [.ref rr, .int ((e + 1 + (wrd r).length : Nat) : Int)])
        refine q1 _ p rr (.lett ⟨(wrd r).toArray⟩) (e + 1 + (wrd r).length) (g1.trans (g2.trans g3)) (by rw [hh', hdw2]) (by omega) upd_same ?_
        show upd (upd H1 rr (.lst [.str W, .str ⟨(wrd r).toArray⟩])) p (.tup [.ref rr, .int ((e + 1 + (wrd r).length : Nat) : Int)]) rr = _
        rw [g3 _ _ upd_same, hlet]
        rfl
  · have hne : ¬ V.str W = V.str (Str.ofString "let") := fun z => hlet (by injection z)
    refine ⟨_, rfl, rfl, true, congrArg V.bl (by rw [decide_eq_false hne]; rfl), iteT ⟨_, rfl, (by show 1 ≤ sizeLine; decide), fun r hr => ⟨_, rfl, (by show 2 ≤ sizeLine; decide), fun p hp => ?_⟩⟩⟩
    rcases head_cases ((tl s).drop i) with ⟨o, h1, h2, h3, _⟩ | ⟨h1, h2, h3, _⟩ | ⟨h1, _⟩ | ⟨h, _⟩
    · exact plain (.two o) (TL.ext_tl (by rw [hW, h1]; rfl)) rfl h2 hlet r p hr hp
    · exact plain .whn (TL.ext_tl (by rw [hW, h1]; rfl)) rfl h2 hlet r p hr hp
    · exact absurd (TL.ext_tl (by rw [hW, h1])) hlet
    · rw [hc] at h
      cases h
end
end FC
namespace FC
open PySem L2 StX PyProof.Rows GxR
open TL (tl)
theorem past_yes {cc : Nat} {l r : List Nat} (h : pastC cc l = some r) : l.take 1 = [cc] := by
  cases l with
  | nil => cases h
  | cons d l =>
    by_cases hd : d = cc
    · rw [hd]; rfl
    · have : pastC cc (d :: l) = none := if_neg hd
      rw [this] at h
      cases h
theorem past_no {cc : Nat} {l : List Nat} (h : pastC cc l = none) : ¬ V.str ⟨(l.take 1).toArray⟩ = V.str ⟨#[cc]⟩ := by
  intro z
  injection z with z
  have z : l.take 1 = [cc] := congrArg (fun x : Str => x.cps.toList) z
  cases l with
  | nil => cases z
  | cons d l =>
    have hd : d = cc := by simpa using z
    have : pastC cc (d :: l) = some l := if_pos hd
    rw [this] at h
    cases h
theorem hd_at (h : Hd) : atI h.vals 0 = some (.str h.str) := by cases h <;> rfl
theorem hd_cnt (h : Hd) : (2 : Int) + (if decide (V.str h.str = V.str (Str.ofString "when")) = true then 1 else 0) = (h.cnt : Int) := by
  cases h with
  | two o => cases o <;> decide +kernel
  | whn => decide +kernel
  | lett x =>
    show (2 : Int) + (if decide (V.str (Str.ofString "let") = V.str (Str.ofString "when")) = true then 1 else 0) = 2
    decide +kernel
section
variable {P : Program} {w : World} {K : PySem.W.Frag} {mg : Str → Option Value} {base : Heap} {t1 t2 t3 t4 t5 : Tok} {Z f g f1 f2 f3 f4 f5 f6 f7 f8 f9 c Pt dp : Addr} {fd gd fd1 fd2 fd3 fd4 fd5 fd6 fd7 fd8 fd9 : FuncData}
def spLRead (n : Nat) : Sp := fun vs H Q _ => ∃ (s : Str) (i : Nat), vs = [.str s, .int (i : Int), .int (n : Int)] ∧ s.length ≤ 20000 ∧ i ≤ s.length ∧
  (∀ (H' : Hp) (p : Addr) (v : V) (e : Ex) (j : Nat), Same H H' → rdE n ((tl s).drop i) = some (e, (tl s).drop j) → j ≤ s.length → H' p = some (.tup [v, .int (j : Int)]) → Bears H' v e → Q (.ref p) H') ∧
  (rdE n ((tl s).drop i) = none → ∀ H', Same H H' → Q .non H')
def spLRd : Nat → Sp
  | 0 => fun _ _ _ _ => False
  | n + 1 => spLRead n
theorem sc_law_read : FnScope ["_law_line", "_law_at", "_law_room", "_law_end_here", "_law_atom_here", "_law_head_here", "_law_row", "_law_turn", "_law_found"] ["_law_line", "_law_at", "_law_room"] (defScope s_law_read) := ⟨rfl, rfl, rfl, by decide +kernel, rfl, by decide +kernel, by decide +kernel⟩
theorem ok_lread (n k : Nat) (hk : 2 ≤ k) (d_lread : Df K mg "_law_read" s_law_read ["_law_line", "_law_at", "_law_room"] f fd) (z : Bl2 mg) (G_lread : FnOk P w K mg base CX0 k f fd ["_law_line", "_law_at", "_law_room"] (spLRd n))
    (d_lend : Df K mg "_law_end" s_law_end ["_law_line", "_law_at"] f1 fd1) (G_lend : FnOk P w K mg base CX0 1 f1 fd1 ["_law_line", "_law_at"] spEnd)
    (d_atom : Df K mg "_law_atom" s_law_atom ["_law_word"] f2 fd2) (G_atom : FnOk P w K mg base CX0 2 f2 fd2 ["_law_word"] spAtom)
    (d_head : Df K mg "_law_head" s_law_head ["_law_line", "_law_at"] f3 fd3) (G_head : FnOk P w K mg base CX0 2 f3 fd3 ["_law_line", "_law_at"] spHead) :
    FnOk P w K mg base CX0 (k + 1) f fd ["_law_line", "_law_at", "_law_room"] (spLRead n) := by
  refine d_lread.F.ok sc_law_read (fun vs H Q E h => ?_) (fun cdv A outer s H vs Q E hr h => ?_)
  · obtain ⟨s, i, rfl, _⟩ := h
    rfl
  obtain ⟨s, i, rfl, hl, hi, q1, q2⟩ := h
  refine ⟨_, (pss_cons (ps_if (pt_cmpR op_lt (pv 2) pe_int (nomark _)) (pss_one (ps_ret pe_non)) pss_nil)
    (pss_cons (ps_if (pt_cmpR op_ne (pe_slice sl_str (pv 0) (po_some (pv 1)) (po_some (pe_op op_add (pv 1) pe_int))) pe_str (nomark _)) (pss_cons (ps_set (i := 3) sc_law_read.nd rfl (.inl rfl) (pe_call G_lend (hr.mono (by omega)) (by rfl) d_lend.m d_lend.k d_lend.b .nil pass0 (pa_cons (pv 0) (pa_cons (pv 1) pa_nil))))
    (pss_cons (ps_set (i := 4) sc_law_read.nd rfl (.inl rfl) (pe_call G_atom (hr.mono (by omega)) (by rfl) d_atom.m d_atom.k d_atom.b .nil pass0 (pa_cons (pe_slice sl_str (pv 0) (po_some (pv 1)) (po_some (pv 3))) pa_nil)))
    (pss_cons (ps_if (pt_cmpR op_isN (pv 4) pe_non (nomark _)) (pss_one (ps_ret pe_non)) pss_nil)
    (pss_one (ps_ret (pe_tup (pa_cons (pv 4) (pa_cons (pv 3) pa_nil)))))))) pss_nil)
    (pss_cons (ps_set (i := 5) sc_law_read.nd rfl (.inl rfl) (pe_call G_head (hr.mono (by omega)) (by rfl) d_head.m d_head.k d_head.b .nil pass0 (pa_cons (pv 0) (pa_cons (pe_op op_add (pv 1) pe_int) pa_nil))))
    (pss_cons (ps_if (pt_cmpR op_isN (pv 5) pe_non (nomark _)) (pss_one (ps_ret pe_non)) pss_nil)
    (pss_cons (ps_set (i := 6) sc_law_read.nd rfl (.inl rfl) (pe_ix ix_tup (pv 5) pe_int (fun _ _ => rfl)))
    (pss_cons (ps_set (i := 3) sc_law_read.nd rfl (.inl rfl) (pe_ix ix_tup (pv 5) pe_int (fun _ _ => rfl)))
    (pss_cons (ps_for PassesOwn.never rfl (pi_range1 (by rfl) z.range (pa_cons (pe_op op_add pe_int (pe_callTy call_int1 (by rfl) z.int (by decide +kernel) (pa_cons (pe_cmpR op_eq (pe_ix ix_list (pv 6) pe_int (fun _ _ => rfl)) pe_str (nomark _)) pa_nil))) pa_nil)) (pg_name (i := 7) sc_law_read.nd rfl (.inl rfl)) (pss_cons (ps_if (pt_cmpR op_ne (pe_slice sl_str (pv 0) (po_some (pv 3)) (po_some (pe_op op_add (pv 3) pe_int))) pe_str (nomark _)) (pss_one (ps_ret pe_non)) pss_nil)
    (pss_cons (ps_set (i := 8) sc_law_read.nd rfl (.inl rfl) (pe_call G_lread (hr.mono (by omega)) (by rfl) d_lread.m d_lread.k d_lread.b .nil pass0 (pa_cons (pv 0) (pa_cons (pe_op op_add (pv 3) pe_int) (pa_cons (pe_op op_sub (pv 2) pe_int) pa_nil)))))
    (pss_cons (ps_if (pt_cmpR op_isN (pv 8) pe_non (nomark _)) (pss_one (ps_ret pe_non)) pss_nil)
    (pss_cons (ps_set (i := 6) sc_law_read.nd rfl (.inl rfl) (pe_op op_cat (pv 6) (pe_lst (pa_cons (pe_ix ix_tup (pv 8) pe_int (fun _ _ => rfl)) pa_nil))))
    (pss_one (ps_set (i := 3) sc_law_read.nd rfl (.inl rfl) (pe_ix ix_tup (pv 8) pe_int (fun _ _ => rfl)))))))))
    (pss_cons (ps_if (pt_cmpR op_ne (pe_slice sl_str (pv 0) (po_some (pv 3)) (po_some (pe_op op_add (pv 3) pe_int))) pe_str (nomark _)) (pss_one (ps_ret pe_non)) pss_nil)
    (pss_one (ps_ret (pe_tup (pa_cons (pe_callTy call_tuple_of (by rfl) z.tuple (by decide +kernel) (pa_cons (pv 6) pa_nil)) (pa_cons (pe_op op_add (pv 3) pe_int) pa_nil))))))))))))), ?_⟩
  refine ⟨_, rfl, _, _, rfl, rfl, _, rfl, ite2 (fun a => ?_) (fun a => ?_)⟩
  · have a' : (n : Int) < 1 := of_decide_eq_true a
    have hn0 : n = 0 := by omega
    subst hn0
    exact q2 rfl _ (Same.refl _)
  have a' : ¬ (n : Int) < 1 := fun z => a (decide_eq_true z)
  obtain ⟨n, rfl⟩ : ∃ m, n = m + 1 := ⟨n - 1, by omega⟩
  have ec : ∀ j : Nat, cutS s (some (j : Int)) (some ((j : Int) + 1)) = ⟨(((tl s).drop j).take 1).toArray⟩ := fun j => by
    have h := cut_nat s (Nat.le_add_right j 1)
    rw [show j + 1 - j = 1 by omega] at h
    exact h
  have e4 : Str.ofString "(" = ⟨#[40]⟩ := by decide +kernel
  refine ⟨_, rfl, _, rfl, _, rfl, _, rfl, _, _, rfl, rfl, _, rfl, s, rfl, by rw [sizeLine_eq]; omega, rfl, ?_⟩
  rw [ec, e4]
  by_cases hb : ((tl s).drop i).head? = some 40
  · have hd1 : (tl s).drop i = 40 :: (tl s).drop (i + 1) := by
      cases q : (tl s).drop i with
      | nil =>
        rw [q] at hb
        cases hb
      | cons c r =>
        rw [q] at hb
        have : (tl s).drop (i + 1) = r := by rw [← List.drop_drop, q]; rfl
        rw [this]
        cases hb
        rfl
    have hr1 : rdE (n + 1) ((tl s).drop i) = brkE (rdE n) ((tl s).drop (i + 1)) := by
      show (if ((tl s).drop i).head? = some 40 then brkE (rdE n) ((tl s).drop i).tail else _) = _
      rw [if_pos hb, hd1] <;> rfl
    have hi1 : i + 1 ≤ s.length := by
      have := congrArg List.length hd1
      rw [List.length_drop, List.length_cons, ← TL.len_tl] at this
      omega
    rw [hr1] at q2
    refine ⟨false, congrArg V.bl ?_, iteF ?_⟩
    · rw [hd1]
      simp
    refine ⟨_, rfl, _, rfl, _, _, rfl, rfl, s, i + 1, rfl, hl, hi1, fun H1 p r h j g1 hh hj hp hrr => ?_, fun hh H1 g1 => ?_⟩
    · have hv2 : h.vals.length ≤ 2 := by
        cases h with
        | two o => show 1 ≤ 2; decide
        | whn => show 1 ≤ 2; decide
        | lett x => show 2 ≤ 2; decide
      have hc3 : h.cnt ≤ 3 := by
        cases h with
        | two o => show 2 ≤ 3; decide
        | whn => show 3 ≤ 3; decide
        | lett x => show 2 ≤ 3; decide
      refine ⟨_, rfl, rfl, false, congrArg V.bl (by simp), iteF ?_⟩
      refine ⟨_, rfl, p, _, 0, _, rfl, rfl, .inl (.inl hp), rfl, ?_⟩
      refine ⟨_, rfl, p, _, 1, _, rfl, rfl, .inl (.inl hp), rfl, ?_⟩
      refine ⟨_, rfl, r, _, 0, _, rfl, rfl, .inl (.inl hrr), hd_at h, rfl, .inr ⟨_, rfl, _, _, rfl, rfl, (h.cnt : Int), congrArg (fun z => [V.int z]) (hd_cnt h), by omega, by omega, ?_⟩⟩
      refine for_range (lo := 0) (n := h.cnt) (fun k σ H2 => ∃ (r2 : Addr) (vs : List V) (es : List Ex) (j : Nat) (x7 x8 : Option V), Same H H2 ∧ H2 r2 = some (.lst (h.vals ++ vs)) ∧ Bs H2 vs es ∧ es.length = k ∧ vs.length = k ∧ j ≤ s.length ∧
        brkE (rdE n) ((tl s).drop (i + 1)) = runE (rdE n) h (h.cnt - k) es ((tl s).drop j) ∧ σ = [some (.str s), some (.int (i : Int)), some (.int ((n + 1 : Nat) : Int)), some (.int (j : Int)), none, some (.ref p), some (.ref r2), x7, x8])
        ⟨r, [], [], j, none, none, g1, by rw [List.append_nil]; exact hrr, True.intro, rfl, rfl, hj, brk_run hh, rfl⟩ (fun k σ H2 hk2 hP => ?_) (fun σ H2 hP => ?_)
      · obtain ⟨r2, vs, es, j, x7, x8, g2, e2, hB, hes, hvs, hj, hrun, rfl⟩ := hP
        have hk3 : h.cnt - k = (h.cnt - (k + 1)) + 1 := by omega
        rw [hk3] at hrun
        refine ⟨_, rfl, _, rfl, _, rfl, _, rfl, _, _, rfl, rfl, _, rfl, s, rfl, by rw [sizeLine_eq]; omega, ?_⟩
        rw [ec, sp32]
        cases hr : pastC 32 ((tl s).drop j) with
        | none => exact ⟨rfl, true, congrArg V.bl (by rw [decide_eq_false (past_no hr)]; rfl), iteT (q2 (hrun.trans (run_no1 hr)) _ g2)⟩
        | some rr =>
          obtain ⟨hdr, hj1⟩ := drop_past hr
          refine ⟨rfl, false, congrArg V.bl (by rw [past_yes hr]; simp), iteF ?_⟩
          refine ⟨_, rfl, _, rfl, _, _, rfl, rfl, _, rfl, _, _, rfl, rfl, s, j + 1, congrArg (fun q : Int => [V.str s, V.int ((j + 1 : Nat) : Int), V.int q]) (show ((n + 1 : Nat) : Int) - 1 = (n : Int) by omega), hl, hj1, fun H3 p3 v e j3 g3 hrd hj3 hp3 b => ?_, fun hrd H3 g3 => ?_⟩
          · rw [hdr] at hrd
            refine ⟨_, rfl, rfl, false, congrArg V.bl (by simp), iteF ?_⟩
            refine ⟨_, rfl, _, rfl, p3, _, 0, _, rfl, rfl, .inl (.inl hp3), rfl, (by show 1 ≤ sizeLine; decide), fun l1 hl1 => ?_⟩
            have gl := same_new hl1 (.lst [v])
            refine ⟨r2, l1, _, _, rfl, rfl, gl _ _ (g3 _ _ e2), upd_same, ?_, fun l2 hl2 => ?_⟩
            · rw [List.length_append]
              exact Nat.le_of_lt (small1000 (by show h.vals.length + vs.length + 1 ≤ 1000; omega))
            · have gl2 := same_new hl2 (.lst ((h.vals ++ vs) ++ [v]))
              have g4 := gl.trans gl2
              have b3 := Bs.snoc b (hB.mono (Tups.of g3))
              refine ⟨_, rfl, p3, _, 1, _, rfl, rfl, .inl (.inl (g4 _ _ hp3)), rfl, l2, vs ++ [v], es ++ [e], j3, _, _, g2.trans (g3.trans g4), ?_, b3.mono (Tups.of g4), by rw [List.length_append, hes]; rfl, by rw [List.length_append, hvs]; rfl, hj3, by rw [hrun]; exact run_step hr hrd, rfl⟩
              rw [upd_same, List.append_assoc]
          · rw [hdr] at hrd
            exact ⟨_, rfl, rfl, true, congrArg V.bl (by simp), iteT (q2 (hrun.trans (run_no2 hr hrd)) _ (g2.trans g3))⟩
      · obtain ⟨r2, vs, es, j, x7, x8, g2, e2, hB, hes, hvs, hj, hrun, rfl⟩ := hP
        rw [Nat.sub_self] at hrun
        refine ⟨_, rfl, _, rfl, _, rfl, _, rfl, _, _, rfl, rfl, _, rfl, s, rfl, by rw [sizeLine_eq]; omega, ?_⟩
        rw [ec, sp41]
        cases hr : pastC 41 ((tl s).drop j) with
        | none =>
          have : runE (rdE n) h 0 es ((tl s).drop j) = none := by
            show (match pastC 41 ((tl s).drop j) with | some r2 => (match h.mk (es ++ []) with | some e => some (e, r2) | none => none) | none => none) = _
            rw [hr]
          exact ⟨rfl, true, congrArg V.bl (by rw [decide_eq_false (past_no hr)]; rfl), iteT (q2 (hrun.trans this) _ g2)⟩
        | some rr =>
          obtain ⟨hdr, hj1⟩ := drop_past hr
          refine ⟨rfl, false, congrArg V.bl (by rw [past_yes hr]; simp), iteF ?_⟩
          refine ⟨_, rfl, r2, _, rfl, .inl ⟨.inl (.inl e2), fun l hl2 => ?_⟩⟩
          have g3 := same_new hl2 (.tup (h.vals ++ vs))
          obtain ⟨e, he, hb⟩ := hd_bears h (hB.mono (Tups.of g3)) hes upd_same
          refine ⟨_, rfl, _, _, rfl, rfl, (by show 2 ≤ sizeLine; decide), fun p4 hp4 => ?_⟩
          have g4 := same_new hp4 (.tup [.ref l, .int ((j + 1 : Nat) : Int)])
          refine q1 _ p4 (.ref l) e (j + 1) (g2.trans (g3.trans g4)) ?_ hj1 upd_same (hb.mono (Tups.of g4))
          rw [hr1, hrun]
          show (match pastC 41 ((tl s).drop j) with | some r2 => (match h.mk (es ++ []) with | some e => some (e, r2) | none => none) | none => none) = _
          rw [hr, List.append_nil, he, hdr]
    · exact ⟨_, rfl, rfl, true, congrArg V.bl (by simp), iteT (q2 (brk_no hh) _ g1)⟩
  · have hr1 : rdE (n + 1) ((tl s).drop i) = match atomE (wrd ((tl s).drop i)) with | some e => some (e, aft ((tl s).drop i)) | none => none := by
      show (if ((tl s).drop i).head? = some 40 then brkE (rdE n) ((tl s).drop i).tail else _) = _
      rw [if_neg hb] <;> rfl
    have hw := wrd_le ((tl s).drop i)
    rw [List.length_drop, ← TL.len_tl] at hw
    refine ⟨true, congrArg V.bl ?_, iteT ?_⟩
    · cases q : (tl s).drop i with
      | nil => simp
      | cons c r =>
        rw [q] at hb
        have hc : ¬ c = 40 := fun z => hb (by rw [z]; rfl)
        simp [hc]
    · refine ⟨_, rfl, _, rfl, s, i, rfl, hl, ?_⟩
      refine ⟨_, rfl, _, rfl, _, rfl, _, rfl, _, rfl, s, rfl, by rw [sizeLine_eq]; omega, ?_⟩
      rw [cut_wrd]
      have hwl : (⟨(wrd ((tl s).drop i)).toArray⟩ : Str).length = (wrd ((tl s).drop i)).length := by rw [TL.len_tl]
      refine ⟨⟨(wrd ((tl s).drop i)).toArray⟩, rfl, by omega, fun H' v e g he b => ?_, fun he => ?_⟩
      · obtain ⟨b1, r1, rfl, hb1⟩ := b.first
        have he' : atomE (wrd ((tl s).drop i)) = some e := he
        refine ⟨_, rfl, rfl, false, congrArg V.bl (by simp), iteF ⟨_, rfl, _, rfl, (by show 2 ≤ sizeLine; decide), fun p hp => ?_⟩⟩
        have g2 := same_new hp (.tup [.ref b1, .int ((i + (wrd ((tl s).drop i)).length : Nat) : Int)])
        refine q1 _ p _ e (i + (wrd ((tl s).drop i)).length) (g.trans g2) ?_ (by omega) upd_same (b.mono (Tups.of g2))
        rw [hr1, he', drop_wrd]
      · have he' : atomE (wrd ((tl s).drop i)) = none := he
        exact ⟨_, rfl, rfl, true, congrArg V.bl (by simp), iteT (q2 (by rw [hr1, he']) _ (Same.refl _))⟩
theorem no_rd : FnOk P w K mg base CX0 2 f fd ["_law_line", "_law_at", "_law_room"] (spLRd 0) := ⟨fun vs H Q E h => h.elim, fun A outer s H args us vs Q E _ _ _ _ h => h.elim⟩
theorem all_lread (d : Df K mg "_law_read" s_law_read ["_law_line", "_law_at", "_law_room"] f fd) (z : Bl2 mg) (d_lend : Df K mg "_law_end" s_law_end ["_law_line", "_law_at"] f1 fd1) (d_atom : Df K mg "_law_atom" s_law_atom ["_law_word"] f2 fd2)
    (d_head : Df K mg "_law_head" s_law_head ["_law_line", "_law_at"] f3 fd3) (d_isName : Df K mg "_law_is_name" s_law_is_name ["_law_word"] f4 fd4) : ∀ n, FnOk P w K mg base CX0 (n + 3) f fd ["_law_line", "_law_at", "_law_room"] (spLRead n)
  | 0 => ok_lread 0 2 (Nat.le_refl _) d z no_rd d_lend (ok_lend d_lend z) d_atom (ok_atom d_atom z d_isName (ok_nameB d_isName z)) d_head (ok_head d_head z d_lend (ok_lend d_lend z) d_isName (ok_nameB d_isName z))
  | n + 1 => ok_lread (n + 1) (n + 3) (by omega) d z (all_lread d z d_lend d_atom d_head d_isName n) d_lend (ok_lend d_lend z) d_atom (ok_atom d_atom z d_isName (ok_nameB d_isName z)) d_head (ok_head d_head z d_lend (ok_lend d_lend z) d_isName (ok_nameB d_isName z))
/-- what a text writes, or None -/
def spDue : Sp := fun vs H Q _ => ∃ s : Str, vs = [.str s] ∧ s.length ≤ 20000 ∧ (∀ (H' : Hp) (v : V) (e : Ex), Same H H' → rdE 60 (tl s) = some (e, []) → Bears H' v e → Q v H') ∧
  ((∀ e, rdE 60 (tl s) ≠ some (e, [])) → ∀ H', Same H H' → Q .non H')
theorem sc_law_due_of : FnScope ["_law_line", "_law_found"] ["_law_line"] (defScope s_law_due_of) := ⟨rfl, rfl, rfl, by decide +kernel, rfl, by decide +kernel, by decide +kernel⟩
theorem ok_dueOf (d : Df K mg "_law_due_of" s_law_due_of ["_law_line"] f fd) (z : Bl2 mg) (d_lread : Df K mg "_law_read" s_law_read ["_law_line", "_law_at", "_law_room"] f1 fd1) (G_lread : FnOk P w K mg base CX0 63 f1 fd1 ["_law_line", "_law_at", "_law_room"] (spLRead 60)) :
    FnOk P w K mg base CX0 64 f fd ["_law_line"] spDue := by
  refine d.F.ok sc_law_due_of (fun vs H Q E h => ?_) (fun cdv A outer s H vs Q E hr h => ?_)
  · obtain ⟨s, rfl, _⟩ := h
    rfl
  obtain ⟨s, rfl, hl, q1, q2⟩ := h
  refine ⟨_, (pss_cons (ps_set (i := 1) sc_law_due_of.nd rfl (.inl rfl) (pe_call G_lread (hr.mono (by omega)) (by rfl) d_lread.m d_lread.k d_lread.b .nil pass0 (pa_cons (pv 0) (pa_cons pe_int (pa_cons pe_int pa_nil)))))
    (pss_cons (ps_if (PW.pt (pw_or (pt_cmpR op_isN (pv 1) pe_non (nomark _)) (pw_or1 (pt_cmpR op_ne (pe_ix ix_tup (pv 1) pe_int (fun _ _ => rfl)) (pe_callB call_len_str (by rfl) z.len PySem.boot_len (pa_cons (pv 0) pa_nil)) (nomark _))))) (pss_one (ps_ret pe_non)) pss_nil)
    (pss_one (ps_ret (pe_ix ix_tup (pv 1) pe_int (fun _ _ => rfl)))))), ?_⟩
  have hd0 : (tl s).drop 0 = tl s := rfl
  refine ⟨_, rfl, s, 0, rfl, hl, Nat.zero_le _, fun H' p v e j g hr1 hj hp b => ?_, fun hr1 H' g => ?_⟩
  · rw [hd0] at hr1
    refine ⟨_, rfl, rfl, false, congrArg V.bl (by simp), iteF ?_⟩
    refine ⟨_, rfl, p, _, 1, _, rfl, rfl, .inl (.inl hp), rfl, _, rfl, s, rfl, by rw [sizeLine_eq]; omega, rfl, ?_⟩
    by_cases he : j = s.length
    · subst he
      refine ⟨false, congrArg V.bl (by simp), iteF ⟨_, rfl, p, _, 0, _, rfl, rfl, .inl (.inl hp), rfl, q1 H' v e g ?_ b⟩⟩
      rw [hr1, List.drop_eq_nil_of_le (by rw [← TL.len_tl]; exact Nat.le_refl _)]
    · have hne : ¬ V.int (j : Int) = V.int (s.length : Int) := fun z => by
        injection z with z
        omega
      refine ⟨true, congrArg V.bl (by rw [decide_eq_false hne]; rfl), iteT ?_⟩
      refine q2 (fun e' he' => ?_) H' g
      rw [hr1] at he'
      have h5 := (Prod.mk.inj (Option.some.inj he')).2
      have h6 := congrArg List.length h5
      rw [List.length_drop, List.length_nil, ← TL.len_tl] at h6
      omega
  · rw [hd0] at hr1
    exact ⟨_, rfl, rfl, true, congrArg V.bl (by simp), iteT (q2 (fun e he => by rw [hr1] at he; cases he) H' g)⟩
end
end FC
namespace FC
open PySem L2 StX PyProof.Rows
/-! ### isinstance of a caught exception, whatever its class -/
def rIsV (K : PySem.W.Frag) (a : Addr) (cls : Value) (d : Option Addr) : List V → Hp → VK → Prop := fun xs H Q => ∃ (c : V) (cv : Value) (b : Bool) (D : Addr), cls = .ref D ∧ ExcC K D ∧ (d = none ∨ ∃ dd fs, d = some dd ∧ H dd = some (.xd fs)) ∧ xs = [.ref a, c] ∧ (∀ u, RelV c u → u = cv) ∧ PySem.W.kitOne K (.ref D) cv = some b ∧ Q (.bl b) H
theorem call_isV {X : Cx} {a : Addr} {oe : Obj} {cls : Value} {d : Option Addr} {pn : List (Addr × Obj)} (hz : Zc cls d oe) (hf : ∃ vs, oe.data = .fields vs) : CallR (X.suite a ((a, oe) :: pn)) (.builtin "isinstance") (rIsV X.K a cls d) := by
  intro pins s σ H xs us Q I r h
  obtain ⟨c, cv, b, D, rfl, C, hd, rfl, hcv, e, q⟩ := h
  have hcl : (PySem.W.clsIn X.K D).isSome = true := by
    obtain ⟨cd, hc, _⟩ := PySem.W.any_some C.hd
    rw [hc]
    rfl
  cases r with
  | cons rx rr =>
    cases rr with
    | cons rt rr =>
      cases rr
      cases rx
      have ec := hcv _ rt
      subst ec
      obtain ⟨hget, _⟩ := I.pin (a, oe) (List.mem_append.mpr (.inl List.mem_cons_self))
      obtain ⟨vs, hv⟩ := hf
      rcases hd with rfl | ⟨dd, fs, rfl, hdd⟩
      · have J : PySem.W.InstAt s.heap a oe D none := ⟨hget, hz.1, by unfold PySem.W.notCls; rw [hv] <;> rfl, by rw [hz.2]; trivial⟩
        exact PySem.W.kia_one (PySem.W.kitx_exc hcl C.hg C.hk C.hs C.ha C.hn C.ht C.hm) I.kIn J e (fun z => nomatch z) fun tk => ⟨.bl b, H, I.kept (t' := tk) fun _ _ z => z, rfl, q⟩
      · have hx : ObjOk X.prog X.w H s.heap dd (.xd fs) := I.hok dd _ hdd
        obtain ⟨mA, hns, hr⟩ := hx
        obtain ⟨od, ho, hl⟩ := lookIn_ns hns
        have J : PySem.W.InstAt s.heap a oe D (some od) := ⟨hget, hz.1, by unfold PySem.W.notCls; rw [hv] <;> rfl, by rw [hz.2]; exact ho⟩
        exact PySem.W.kia_one (PySem.W.kitx_exc hcl C.hg C.hk C.hs C.ha C.hn C.ht C.hm) I.kIn J e (fun z => nomatch z) fun tk => ⟨.bl b, H, I.kept (t' := tk) fun _ _ z => z, rfl, q⟩
theorem kit_yes {K : PySem.W.Frag} {C D : Addr} (hd : PySem.W.hasDictIn K C = true) (ht : PySem.W.typeIn K (.ref C) = some (.type "type")) (h : PySem.W.subIn K (.ref D) (.ref C) = some true) : PySem.W.kitOne K (.ref D) (.ref C) = some true := by
  unfold PySem.W.kitOne
  split
  · rfl
  · obtain ⟨cd, hc, _⟩ := PySem.W.any_some hd
    show (if ((PySem.W.clsIn K C).isSome && PySem.W.typeIn K (.ref C) == some (.type "type")) = true then PySem.W.subIn K (.ref D) (.ref C) else none) = some true
    rw [if_pos (by rw [hc, ht]; rfl)]
    exact h
theorem kit_no {K : PySem.W.Frag} {C D : Addr} (hd : PySem.W.hasDictIn K C = true) (ht : PySem.W.typeIn K (.ref C) = some (.type "type")) (hs : PySem.W.subIn K (.ref C) (.ref C) = some true) (h : PySem.W.subIn K (.ref D) (.ref C) = some false) : PySem.W.kitOne K (.ref D) (.ref C) = some false := by
  unfold PySem.W.kitOne
  split
  · rename_i e
    have e' : D = C := Value.ref.inj (beq_iff_eq.mp e)
    subst e'
    rw [hs] at h
    cases h
  · obtain ⟨cd, hc, _⟩ := PySem.W.any_some hd
    show (if ((PySem.W.clsIn K C).isSome && PySem.W.typeIn K (.ref C) == some (.type "type")) = true then PySem.W.subIn K (.ref D) (.ref C) else none) = some false
    rw [if_pos (by rw [hc, ht]; rfl)]
    exact h
theorem kit_VE {K : PySem.W.Frag} {D : Addr} (h : PySem.W.subIn K (.ref D) (.type "ValueError") = some true) : PySem.W.kitOne K (.ref D) (.type "ValueError") = some true := by
  unfold PySem.W.kitOne
  split
  · rfl
  · show (if PySem.W.kitMeta "ValueError" = true then PySem.W.subIn K (.ref D) (.type "ValueError") else none) = some true
    rw [if_pos (by decide +kernel)]
    exact h
end FC
namespace FC
open PySem L2 StX PyProof.Rows
/-- an if whose ways come together again -/
theorem if_merge {c : TT} {t u v : TS} {D : Ends} {σ : L2.St} {H : Hp} (M : L2.St → Hp → Prop) (hc : ∀ Q : Bool → Hp → Prop, Q true H → Q false H → c σ H Q) (h1 : ∀ N : L2.St → Hp → Prop, (∀ σ' H', M σ' H' → N σ' H') → t { D with nx := N } σ H)
    (h2 : ∀ N : L2.St → Hp → Prop, (∀ σ' H', M σ' H' → N σ' H') → u { D with nx := N } σ H) (h3 : ∀ σ' H', M σ' H' → v D σ' H') : tSeq (tIfS c t u) v D σ H := hc _ (iteT (h1 _ h3)) (iteF (h2 _ h3))
end FC
namespace FC
open PySem L2 StX PyProof.Rows
/-! ### the program's value: its contract -/
/-- what an expression comes to: the number, or the class of the refusal (a refused name in the error's own dict) -/
def spVal (U B T : Addr) (n : Nat) : Sp := fun vs H Q E => ∃ (v : V) (e : Ex) (d : Addr) (l : AL), vs = [v, .ref d] ∧ Bears H v e ∧ e.ok ∧ e.deep ≤ n ∧ H d = some (.dK (dS l)) ∧ AOk l ∧ l.length + e.deep ≤ 1000 ∧
  (∀ (H' : Hp) (k : Int), Same H H' → value e (stg l) = .is k → Q (.int k) H') ∧ (∀ (H' : Hp) (x : Str) (dx : Addr), Same H H' → value e (stg l) = .unset x → H' dx = some (.xd [("word", .str x)]) → E (.ref U) (some dx) H') ∧
  (∀ H' : Hp, Same H H' → value e (stg l) = .nought → E (.ref B) none H') ∧ (∀ H' : Hp, Same H H' → value e (stg l) = .great → E (.ref T) none H')
def spNumOf (U : Addr) : Sp := fun vs H Q E => ∃ (x : Str) (d : Addr) (l : AL), vs = [.str x, .ref d] ∧ x.length ≤ 8 ∧ H d = some (.dK (dS l)) ∧ (∀ k, stg l x = some k → Q (.int k) H) ∧ (stg l x = none → ∀ (H' : Hp) (dx : Addr), Same H H' → H' dx = some (.xd [("word", .str x)]) → E (.ref U) (some dx) H')
/-- a name's refusal made: what stood stands -/
theorem raise_same {H : Hp} {a dx : Addr} {o1 o2 o3 o4 : HO} (ha : H a = none) (hd : H dx = none) : Same H (upd (del (upd (upd (upd H a o1) dx o2) a o3) a) dx o4) := fun b u e => by
  have nb : b ≠ a := fun z => by rw [z, ha] at e; cases e
  have nd : b ≠ dx := fun z => by rw [z, hd] at e; cases e
  rw [upd_ne nd, del_ne nb, upd_ne nb, upd_ne nd, upd_ne nb]
  exact e
end FC
namespace FC
open PySem L2 StX PyProof.Rows GxR
open TL (tl)
structure Cls0 (K : PySem.W.Frag) (mg : Str → Option Value) (x : Str) (C : Addr) : Prop where
  m : mg x = some (.ref C)
  d : PySem.W.hasDictIn K C = true
  t : PySem.W.typeIn K (.ref C) = some (.type "type")
  s : PySem.W.subIn K (.ref C) (.ref C) = some true
  b : PySem.W.subIn K (.ref C) (.type "BaseException") = some true
theorem Cls0.no {K : PySem.W.Frag} {mg : Str → Option Value} {x : Str} {C D : Addr} (c : Cls0 K mg x C) (h : PySem.W.subIn K (.ref D) (.ref C) = some false) : PySem.W.kitOne K (.ref D) (.ref C) = some false := kit_no c.d c.t c.s h
theorem Cls0.yes {K : PySem.W.Frag} {mg : Str → Option Value} {x : Str} {C : Addr} (c : Cls0 K mg x C) : PySem.W.kitOne K (.ref C) (.ref C) = some true := kit_yes c.d c.t c.s
theorem Cls0.exm {K : PySem.W.Frag} {mg : Str → Option Value} {x : Str} {C : Addr} (c : Cls0 K mg x C) {cls : Value} {b : Bool} (h : PySem.W.subIn K cls (.ref C) = some b) : PySem.W.exmOne K cls (.ref C) = some b := PySem.W.exm_ref c.b c.d c.t h
structure KZ (K : PySem.W.Frag) (mg : Str → Option Value) (U B T Z F : Addr) : Prop where
  cU : Cls0 K mg "Unset" U
  cB : Cls0 K mg "ByNought" B
  cT : Cls0 K mg "TooGreat" T
  xZ : Ecls K mg "BadText" Z
  xF : Ecls K mg "FoldError" F
  eZ : ExcC K Z
  ZZ : PySem.W.subIn K (.ref Z) (.ref Z) = some true
  ZF : PySem.W.subIn K (.ref Z) (.ref F) = some true
  ZU : PySem.W.subIn K (.ref Z) (.ref U) = some false
  ZB : PySem.W.subIn K (.ref Z) (.ref B) = some false
  ZT : PySem.W.subIn K (.ref Z) (.ref T) = some false
  ZV : PySem.W.subIn K (.ref Z) (.type "ValueError") = some true
section
variable {P : Program} {w : World} {K : PySem.W.Frag} {mg : Str → Option Value} {base : Heap} {t1 t2 t3 t4 t5 : Tok} {Z U B T F f g f1 f2 f3 f4 f5 f6 f7 f8 f9 c Pt dp : Addr} {fd gd fd1 fd2 fd3 fd4 fd5 fd6 fd7 fd8 fd9 : FuncData}
def spRefused (Pt : Addr) : Sp := fun vs H Q _ => ∃ s : Str, vs = [.str s] ∧ s.length ≤ 20000 ∧ TabG H Pt ∧ ∀ H', Grow Pt H H' → Q (.bl (!okR (tl s))) H'
theorem sc_law_refused_by_any : FnScope ["_law_line", "e"] ["_law_line"] (defScope s_law_refused_by_any) := ⟨rfl, rfl, rfl, by decide +kernel, rfl, by decide +kernel, by decide +kernel⟩
theorem ok_refused (d : Df K mg "_law_refused_by_any" s_law_refused_by_any ["_law_line"] f fd) (z : Bl2 mg) (zVE : mg "ValueError" = none) (k : KZ K mg U B T Z F) (d_read : Df K mg "read" s_read ["text"] f1 fd1)
    (G_read : FnOk P w K mg base (L2.CX P w) 125 f1 fd1 ["text"] (spRd Z Pt)) : FnOk P w K mg base CX0 126 f fd ["_law_line"] (spRefused Pt) := by
  have E_Unset := k.cU
  have E_ByNought := k.cB
  have E_TooGreat := k.cT
  have E_FoldError := k.xF
  refine d.F.ok sc_law_refused_by_any (fun vs H Q E h => ?_) (fun cdv A outer s H vs Q E hr h => ?_)
  · obtain ⟨x, rfl, _⟩ := h
    rfl
  obtain ⟨x, rfl, hl, hT, q⟩ := h
  refine ⟨_, (pss_cons (ps_try_as (i := 1) rfl rfl sc_law_refused_by_any.nd rfl rfl ⟨by rfl, by decide, .inl E_FoldError.m⟩ takes0 (fun W pn xe tk _ => (pss_one (ps_expr (pe_callS G_read (hr.mono (by omega)) (by rfl) d_read.m d_read.k d_read.b (fun σ => passAt tk σ) (pa_cons (pv 0) pa_nil))))) (fun a oe cls d pn hz hf => (pss_cons (ps_if (PW.pt (pw_or (pt_val (pe_callB (call_isV hz hf) (by rfl) z.isi (by decide +kernel) (pa_cons (pv 1) (pa_cons (pe_glob (by rfl) E_Unset.m (v := .ref _) rfl) pa_nil)))) (pw_or (pt_val (pe_callB (call_isV hz hf) (by rfl) z.isi (by decide +kernel) (pa_cons (pv 1) (pa_cons (pe_glob (by rfl) E_ByNought.m (v := .ref _) rfl) pa_nil)))) (pw_or1 (pt_val (pe_callB (call_isV hz hf) (by rfl) z.isi (by decide +kernel) (pa_cons (pv 1) (pa_cons (pe_glob (by rfl) E_TooGreat.m (v := .ref _) rfl) pa_nil)))))))) (pss_one (ps_ret pe_bl)) pss_nil)
    (pss_one (ps_ret (pe_callB (call_isV hz hf) (by rfl) z.isi (by decide +kernel) (pa_cons (pv 1) (pa_cons (pe_bltn (by rfl) zVE (by decide +kernel) (v := .ty "ValueError") rfl) pa_nil))))))))
    (pss_one (ps_ret pe_bl))), ?_⟩
  refine ⟨_, rfl, x, rfl, hl, hT, fun H' v e g hr1 b => ?_, fun H' g hno => ⟨true, E_FoldError.exm k.ZF, fun _ a0 _ => ?_, fun zz => Bool.noConfusion zz⟩⟩
  · have := q H' g
    rw [okR_yes hr1] at this
    exact this
  · have q := q H' g
    rw [okR_no hno] at q
    refine ⟨_, rfl, _, .ref U, false, Z, rfl, k.eZ, .inl rfl, rfl, fun _ r => r, k.cU.no k.ZU, _, rfl, iteF ?_⟩
    refine ⟨_, rfl, _, .ref B, false, Z, rfl, k.eZ, .inl rfl, rfl, fun _ r => r, k.cB.no k.ZB, _, rfl, iteF ?_⟩
    refine ⟨_, rfl, _, .ref T, false, Z, rfl, k.eZ, .inl rfl, rfl, fun _ r => r, k.cT.no k.ZT, _, rfl, iteF ?_⟩
    exact ⟨_, rfl, _, .type "ValueError", true, Z, rfl, k.eZ, .inl rfl, rfl, fun _ r => r, kit_VE k.ZV, q⟩
def spRight (Pt : Addr) : Sp := fun vs H Q _ => ∃ s : Str, vs = [.str s] ∧ s.length ≤ 20000 ∧ TabG H Pt ∧ ∀ H', Grow Pt H H' → Q (.bl true) H'
theorem sc_law_read_right : FnScope ["_law_line", "_law_due", "_law_found"] ["_law_line"] (defScope s_law_read_right) := ⟨rfl, rfl, rfl, by decide +kernel, rfl, by decide +kernel, by decide +kernel⟩
theorem ok_right (d : Df K mg "_law_read_right" s_law_read_right ["_law_line"] f fd) (z : Bl2 mg) (k : KZ K mg U B T Z F) (d_read : Df K mg "read" s_read ["text"] f1 fd1) (G_read : FnOk P w K mg base (L2.CX P w) 125 f1 fd1 ["text"] (spRd Z Pt))
    (d_dueOf : Df K mg "_law_due_of" s_law_due_of ["_law_line"] f2 fd2) (G_dueOf : FnOk P w K mg base CX0 64 f2 fd2 ["_law_line"] spDue)
    (d_refused : Df K mg "_law_refused_by_any" s_law_refused_by_any ["_law_line"] f3 fd3) (G_refused : FnOk P w K mg base CX0 126 f3 fd3 ["_law_line"] (spRefused Pt))
    (d_isExpr : Df K mg "_law_is_expr" s_law_is_expr ["_law_expr"] f4 fd4) (G_isExpr : FnOk P w K mg base CX0 101 f4 fd4 ["_law_expr"] (spIsExpr 100)) : FnOk P w K mg base CX0 127 f fd ["_law_line"] (spRight Pt) := by
  have E_BadText := k.xZ
  refine d.F.ok sc_law_read_right (fun vs H Q E h => ?_) (fun cdv A outer s H vs Q E hr h => ?_)
  · obtain ⟨x, rfl, _⟩ := h
    rfl
  obtain ⟨x, rfl, hl, hT, q⟩ := h
  refine ⟨_, (pss_cons (ps_set (i := 1) sc_law_read_right.nd rfl (.inl rfl) (pe_call G_dueOf (hr.mono (by omega)) (by rfl) d_dueOf.m d_dueOf.k d_dueOf.b .nil pass0 (pa_cons (pv 0) pa_nil)))
    (pss_cons (ps_if (pt_cmpR op_ne (pe_call G_refused (hr.mono (by omega)) (by rfl) d_refused.m d_refused.k d_refused.b .nil pass0 (pa_cons (pv 0) pa_nil)) (pe_cmpR op_isN (pv 1) pe_non (nomark _)) (nomark _)) (pss_one (ps_ret pe_bl)) pss_nil)
    (pss_cons (ps_try_only rfl rfl ⟨by rfl, by decide, .inl E_BadText.m⟩ takes0 (fun W pn xe tk _ => (pss_one (ps_set (i := 2) sc_law_read_right.nd rfl (.inl rfl) (pe_callS G_read (hr.mono (by omega)) (by rfl) d_read.m d_read.k d_read.b (fun σ => passAt tk σ) (pa_cons (pv 0) pa_nil))))) (fun a oe cls d pn _ _ => (pss_one (ps_ret (pe_cmpR op_isN (pv 1) pe_non (nomark _))))))
    (pss_one (ps_ret (pe_and (pe_cmpR op_notN (pv 1) pe_non (nomark _)) (pe_and (pe_call G_isExpr (hr.mono (by omega)) (by rfl) d_isExpr.m d_isExpr.k d_isExpr.b .nil pass0 (pa_cons (pv 2) pa_nil)) (pe_one (pe_cmpR (op_eqX hr.x) (pv 2) (pv 1) (nomark _)))))))))), ?_⟩
  have sg : ∀ {H' : Hp}, Same H H' → Grow Pt H H' := fun {H'} g => by
    obtain ⟨ps, h1, h2⟩ := hT
    exact ⟨⟨ps, g _ _ h1, h2⟩, fun b u _ e => g b u e⟩
  refine ⟨_, rfl, x, rfl, hl, fun H1 v e g1 hr1 b => ?_, fun hno H1 g1 => ?_⟩
  · have G1 := sg g1
    obtain ⟨b1, r1, rfl, hb1⟩ := b.first
    obtain ⟨ok, hd⟩ := rd_ok _ _ _ _ hr1
    refine ⟨_, rfl, x, rfl, hl, G1.1, fun H2 g2 => ?_⟩
    rw [okR_yes hr1]
    refine ⟨_, rfl, rfl, rfl, false, congrArg V.bl (by simp), iteF ?_⟩
    refine ⟨_, rfl, x, rfl, hl, g2.1, fun H3 v3 e3 g3 hr3 b3 => ?_, fun H3 g3 hno => absurd hr1 (hno e)⟩
    rw [hr1] at hr3
    cases hr3
    refine ⟨_, rfl, rfl, true, congrArg V.bl (by simp), iteT ⟨_, rfl, v3, e, rfl, b3, ok, by omega, fun H4 g4 => ⟨true, rfl, iteT ⟨_, rfl, _, rfl, e, e, b3.mono (Tups.of g4), ((b.mono (Grow.tups G1.1 g2)).mono (Grow.tups g2.1 g3)).mono (Tups.of g4), ok, ok, by omega, ?_⟩⟩⟩⟩
    have e9 : (V.bl (if false = true then !decide (e = e) else decide (e = e))) = V.bl true := congrArg V.bl (by simp)
    rw [e9]
    have G3 := G1.trans (g2.trans g3)
    refine q H4 ⟨?_, fun b u hb e => g4 b u (G3.2 b u hb e)⟩
    obtain ⟨ps, h1, h2⟩ := G3.1
    exact ⟨ps, g4 _ _ h1, h2⟩
  · have G1 := sg g1
    refine ⟨_, rfl, x, rfl, hl, G1.1, fun H2 g2 => ?_⟩
    rw [okR_no hno]
    refine ⟨_, rfl, rfl, rfl, false, congrArg V.bl (by simp), iteF ?_⟩
    refine ⟨_, rfl, x, rfl, hl, g2.1, fun H3 v3 e3 g3 hr3 b3 => absurd hr3 (hno e3), fun H3 g3 _ => ⟨true, E_BadText.exm k.ZZ, fun _ a0 _ => ?_, fun zz => Bool.noConfusion zz⟩⟩
    refine ⟨_, rfl, rfl, ?_⟩
    have := q H3 (G1.trans (g2.trans g3))
    exact this
end
end FC
namespace FC
open PySem L2 StX PyProof.Rows GxR
open TL (tl)
section
variable {P : Program} {w : World} {K : PySem.W.Frag} {mg : Str → Option Value} {base : Heap} {t1 t2 t3 t4 t5 : Tok} {Z U B T F f g f1 f2 f3 f4 f5 f6 f7 f8 f9 c Pt dp : Addr} {fd gd fd1 fd2 fd3 fd4 fd5 fd6 fd7 fd8 fd9 : FuncData}
/-! ### the law's lines -/
def spOdd : Sp := fun vs H Q _ => ∃ k : Int, vs = [.int k] ∧ 0 ≤ k ∧ ∀ (H' : Hp) (x : Str), Same H H' → x.length ≤ 20 → Q (.str x) H'
def strV : V → Bool
  | .str x => decide (x.length ≤ 20)
  | _ => false
theorem strV_out {v : V} (h : strV v = true) : ∃ x : Str, v = .str x ∧ x.length ≤ 20 := by
  cases v with
  | str x => exact ⟨x, rfl, of_decide_eq_true h⟩
  | _ => cases h
theorem sc_law_odd : FnScope ["_law_k", "_law_lines"] ["_law_k"] (defScope s_law_odd) := ⟨rfl, rfl, rfl, by decide +kernel, rfl, by decide +kernel, by decide +kernel⟩
theorem ok_odd (d : Df K mg "_law_odd" s_law_odd ["_law_k"] f fd) (z : Bl2 mg) : FnOk P w K mg base CX0 1 f fd ["_law_k"] spOdd := by
  refine d.F.ok sc_law_odd (fun vs H Q E h => ?_) (fun cdv A outer s H vs Q E hr h => ?_)
  · obtain ⟨x, rfl, _⟩ := h
    rfl
  obtain ⟨x, rfl, h0, q⟩ := h
  refine ⟨_, (pss_cons (ps_set (i := 1) sc_law_odd.nd rfl (.inl rfl) (pe_lst (pa_cons pe_str (pa_cons pe_str (pa_cons pe_str (pa_cons pe_str (pa_cons pe_str (pa_cons pe_str (pa_cons pe_str (pa_cons pe_str (pa_cons pe_str (pa_cons pe_str (pa_cons pe_str pa_nil)))))))))))))
    (pss_cons (ps_set (i := 1) sc_law_odd.nd rfl (.inl rfl) (pe_op op_cat (pv 1) (pe_lst (pa_cons pe_str (pa_cons pe_str (pa_cons pe_str (pa_cons pe_str (pa_cons pe_str (pa_cons pe_str (pa_cons pe_str (pa_cons pe_str (pa_cons pe_str (pa_cons pe_str pa_nil)))))))))))))
    (pss_cons (ps_set (i := 1) sc_law_odd.nd rfl (.inl rfl) (pe_op op_cat (pv 1) (pe_lst (pa_cons pe_str (pa_cons pe_str (pa_cons pe_str (pa_cons pe_str (pa_cons pe_str (pa_cons pe_str (pa_cons pe_str (pa_cons pe_str pa_nil)))))))))))
    (pss_cons (ps_set (i := 1) sc_law_odd.nd rfl (.inl rfl) (pe_op op_cat (pv 1) (pe_lst (pa_cons pe_str (pa_cons pe_str (pa_cons pe_str (pa_cons pe_str (pa_cons pe_str (pa_cons pe_str (pa_cons pe_str pa_nil))))))))))
    (pss_cons (ps_set (i := 1) sc_law_odd.nd rfl (.inl rfl) (pe_op op_cat (pv 1) (pe_lst (pa_cons pe_str (pa_cons pe_str (pa_cons pe_str (pa_cons pe_str (pa_cons pe_str (pa_cons pe_str pa_nil)))))))))
    (pss_cons (ps_set (i := 1) sc_law_odd.nd rfl (.inl rfl) (pe_op op_cat (pv 1) (pe_lst (pa_cons pe_str (pa_cons pe_str (pa_cons pe_str (pa_cons pe_str (pa_cons pe_str (pa_cons pe_str pa_nil)))))))))
    (pss_one (ps_ret (pe_ix ix_list (pv 1) (pe_op op_mod (pv 0) pe_int) (fun _ _ => rfl)))))))))), ?_⟩
  have cat : ∀ {H0 : Hp} {l b : Addr} {xs zs : List V}, Same H H0 → H0 l = some (.lst xs) → H0 b = none → Same H (upd H0 b (.lst zs)) ∧ upd H0 b (.lst zs) l = some (.lst xs) := fun g e hb => ⟨g.trans (same_new hb _), same_new hb _ _ _ e⟩
  refine ⟨(by show 11 ≤ sizeLine; decide), fun l0 hl0 => ?_⟩
  have g0 := same_new hl0 (.lst [V.str "", V.str " ", V.str "(", V.str ")", V.str "()", V.str "(sum)", V.str "(sum 1)", V.str "(sum 1 2", V.str "(sum 1 2))", V.str "(sum 1 2 3)", V.str "(sum  1 2)"])
  refine ⟨_, rfl, (by show 10 ≤ sizeLine; decide), fun b1 hb1 => ⟨l0, b1, _, _, rfl, rfl, same_new hb1 _ _ _ upd_same, upd_same, (by show 21 ≤ sizeLine; decide), fun l1 hl1 => ?_⟩⟩
  refine ⟨_, rfl, (by show 8 ≤ sizeLine; decide), fun b2 hb2 => ⟨l1, b2, _, _, rfl, rfl, same_new hb2 _ _ _ upd_same, upd_same, (by show 29 ≤ sizeLine; decide), fun l2 hl2 => ?_⟩⟩
  refine ⟨_, rfl, (by show 7 ≤ sizeLine; decide), fun b3 hb3 => ⟨l2, b3, _, _, rfl, rfl, same_new hb3 _ _ _ upd_same, upd_same, (by show 36 ≤ sizeLine; decide), fun l3 hl3 => ?_⟩⟩
  refine ⟨_, rfl, (by show 6 ≤ sizeLine; decide), fun b4 hb4 => ⟨l3, b4, _, _, rfl, rfl, same_new hb4 _ _ _ upd_same, upd_same, (by show 42 ≤ sizeLine; decide), fun l4 hl4 => ?_⟩⟩
  refine ⟨_, rfl, (by show 6 ≤ sizeLine; decide), fun b5 hb5 => ⟨l4, b5, _, _, rfl, rfl, same_new hb5 _ _ _ upd_same, upd_same, (by show 48 ≤ sizeLine; decide), fun l5 hl5 => ?_⟩⟩
  refine ⟨_, rfl, _, rfl, _, _, rfl, rfl, (show (0 : Int) < 48 by decide), ?_⟩
  obtain ⟨v, hv, hm⟩ := at_modA (xs := [V.str "", V.str " ", V.str "(", V.str ")", V.str "()", V.str "(sum)", V.str "(sum 1)", V.str "(sum 1 2", V.str "(sum 1 2))", V.str "(sum 1 2 3)", V.str "(sum  1 2)"] ++ [V.str "(sum 1 2 )", V.str "( sum 1 2)", V.str "(sum 1  2)", V.str "(Sum 1 2)", V.str "(sum 1 2) ", V.str " 1", V.str "1 ", V.str "-0", V.str "00", V.str "01"] ++
    [V.str "-01", V.str "+1", V.str "--1", V.str "1000000000", V.str "1000000001", V.str "-1000000000", V.str "-1000000001", V.str "12345678901"] ++ [V.str "9999999999", V.str "abcdefgh", V.str "abcdefghi", V.str "X", V.str "(let x 1)", V.str "(let 1 2 3)", V.str "(let x 1 2)"] ++
    [V.str "(let sum sum let)", V.str "(when 1 2)", V.str "(when 1 2 3)", V.str "(num 1)", V.str "(name x)", V.str "(less x -7)"] ++ [V.str "(sum 1 2)\n", V.str "1\n", V.str "\t1", V.str "(sum 1\t2)", V.str "(sum\n1 2)", V.str "x\n"]) (m := x) 48 rfl (by decide)
  have hall : ∀ v ∈ ([V.str "", V.str " ", V.str "(", V.str ")", V.str "()", V.str "(sum)", V.str "(sum 1)", V.str "(sum 1 2", V.str "(sum 1 2))", V.str "(sum 1 2 3)", V.str "(sum  1 2)"] ++ [V.str "(sum 1 2 )", V.str "( sum 1 2)", V.str "(sum 1  2)", V.str "(Sum 1 2)", V.str "(sum 1 2) ", V.str " 1", V.str "1 ", V.str "-0", V.str "00", V.str "01"] ++
    [V.str "-01", V.str "+1", V.str "--1", V.str "1000000000", V.str "1000000001", V.str "-1000000000", V.str "-1000000001", V.str "12345678901"] ++ [V.str "9999999999", V.str "abcdefgh", V.str "abcdefghi", V.str "X", V.str "(let x 1)", V.str "(let 1 2 3)", V.str "(let x 1 2)"] ++
    [V.str "(let sum sum let)", V.str "(when 1 2)", V.str "(when 1 2 3)", V.str "(num 1)", V.str "(name x)", V.str "(less x -7)"] ++ [V.str "(sum 1 2)\n", V.str "1\n", V.str "\t1", V.str "(sum 1\t2)", V.str "(sum\n1 2)", V.str "x\n"]), strV v = true := List.all_eq_true.mp (by decide +kernel)
  obtain ⟨y, rfl, hy⟩ := strV_out (hall v hm)
  exact ⟨l5, _, _, _, rfl, rfl, .inl (.inl upd_same), hv, q _ y (g0.trans ((same_new hb1 _).trans ((same_new hl1 _).trans ((same_new hb2 _).trans ((same_new hl2 _).trans ((same_new hb3 _).trans ((same_new hl3 _).trans ((same_new hb4 _).trans ((same_new hl4 _).trans ((same_new hb5 _).trans (same_new hl5 _))))))))))) hy⟩
end
end FC
namespace FC
open PySem L2 StX PyProof.Rows GxR
open TL (tl)
section
variable {P : Program} {w : World} {K : PySem.W.Frag} {mg : Str → Option Value} {base : Heap} {t1 t2 t3 t4 t5 : Tok} {Z U B T F f g f1 f2 f3 f4 f5 f6 f7 f8 f9 c Pt dp : Addr} {fd gd fd1 fd2 fd3 fd4 fd5 fd6 fd7 fd8 fd9 : FuncData}
def spMended : Sp := fun vs H Q _ => ∃ (x : Str) (k : Int), vs = [.str x, .int k] ∧ x.length ≤ 19000 ∧ 0 ≤ k ∧ ∀ y : Str, y.length ≤ x.length + 1 → Q (.str y) H
theorem sc_law_mended : FnScope ["_law_line", "_law_cell", "_law_signs", "_law_sign", "_law_at"] ["_law_line", "_law_cell"] (defScope s_law_mended) := ⟨rfl, rfl, rfl, by decide +kernel, rfl, by decide +kernel, by decide +kernel⟩
abbrev ms1 : Str := " ()-0123456789abcdefghijklmnopqrstuvwxyz!\"#$&'*+,./:;<=>?@ABCDEFGHIJKLMNOPQRSTUVWXYZ"
abbrev ms2 : Str := "[\\]^_`{|}~\n\t"
abbrev ms3 : Str := " ()-0123456789x\n\t"
theorem ms12 : (ms1 ++ ms2).length = ms1.length + ms2.length := app_len _ _
theorem cut_pre {x : Str} {i : Nat} (h : i ≤ x.length) : (cutS x none (some (i : Int))).length = i := by
  unfold cutS
  rw [HT.sIx_none, HT.sIx_nat]
  show (((tl x).drop 0).take (min i x.length - 0)).toArray.size = i
  rw [List.drop_zero, Nat.sub_zero, List.size_toArray, List.length_take, ← TL.len_tl]
  omega
theorem cut_suf (x : Str) (i : Nat) : (cutS x (some (i : Int)) none).length = x.length - i := by
  unfold cutS
  rw [HT.sIx_none, HT.sIx_nat]
  show (((tl x).drop (min i x.length)).take (x.length - min i x.length)).toArray.size = x.length - i
  rw [List.size_toArray, List.length_take, List.length_drop, ← TL.len_tl]
  omega
theorem ok_mended (d : Df K mg "_law_mended" s_law_mended ["_law_line", "_law_cell"] f fd) (z : Bl2 mg) : FnOk P w K mg base CX0 1 f fd ["_law_line", "_law_cell"] spMended := by
  refine d.F.ok sc_law_mended (fun vs H Q E h => ?_) (fun cdv A outer s H vs Q E hr h => ?_)
  · obtain ⟨x, k, rfl, _⟩ := h
    rfl
  obtain ⟨x, k, rfl, hl, h0, q⟩ := h
  refine ⟨_, (pss_cons (ps_set (i := 2) sc_law_mended.nd rfl (.inl rfl) pe_str)
    (pss_cons (ps_set (i := 2) sc_law_mended.nd rfl (.inl rfl) (pe_op op_add_str (pv 2) pe_str))
    (pss_cons (ps_set (i := 3) sc_law_mended.nd rfl (.inl rfl) (pe_ix ix_str (pv 2) (pe_op op_mod (pe_op op_fdiv (pv 1) pe_int) (pe_callB call_len_str (by rfl) z.len PySem.boot_len (pa_cons (pv 2) pa_nil))) (fun _ _ => rfl)))
    (pss_cons (ps_if (pt_cmpR op_eq (pe_op op_mod (pe_op op_fdiv (pv 1) pe_int) pe_int) pe_int (nomark _)) (pss_one (ps_set (i := 3) sc_law_mended.nd rfl (.inl rfl) (pe_ix ix_str pe_str (pe_op op_mod (pe_op op_fdiv (pv 1) pe_int) pe_int) (fun _ _ => rfl)))) pss_nil)
    (pss_cons (ps_set (i := 4) sc_law_mended.nd rfl (.inl rfl) (pe_op op_mod (pe_op op_fdiv (pv 1) pe_int) (pe_op op_add (pe_callB call_len_str (by rfl) z.len PySem.boot_len (pa_cons (pv 0) pa_nil)) pe_int)))
    (pss_cons (ps_if (pt_cmpR op_eq (pe_op op_mod (pv 1) pe_int) pe_int (nomark _)) (pss_one (ps_ret (pe_op op_add_str (pe_op op_add_str (pe_slice sl_str (pv 0) po_none (po_some (pv 4))) (pv 3)) (pe_slice sl_str (pv 0) (po_some (pv 4)) po_none)))) pss_nil)
    (pss_cons (ps_if (pt_cmpR op_eq (pe_op op_mod (pv 1) pe_int) pe_int (nomark _)) (pss_one (ps_ret (pe_op op_add_str (pe_slice sl_str (pv 0) po_none (po_some (pv 4))) (pe_slice sl_str (pv 0) (po_some (pe_op op_add (pv 4) pe_int)) po_none)))) pss_nil)
    (pss_one (ps_ret (pe_op op_add_str (pe_op op_add_str (pe_slice sl_str (pv 0) po_none (po_some (pv 4))) (pv 3)) (pe_slice sl_str (pv 0) (po_some (pe_op op_add (pv 4) pe_int)) po_none))))))))))), ?_⟩
  have l1 : ms1.length ≤ 100 := by decide +kernel
  have l2 : ms2.length ≤ 20 := by decide +kernel
  have l1' : 1 ≤ ms1.length := by decide +kernel
  have hpos : 0 < (ms1 ++ ms2).length := by rw [ms12]; omega
  refine ⟨_, rfl, _, _, rfl, rfl, (by rw [sizeLine_eq]; show ms1.length + ms2.length ≤ _; omega), ?_⟩
  refine ⟨_, rfl, _, rfl, _, _, rfl, rfl, ?_⟩
  have sl : ∀ {l : List Nat} (m : Int) (n : Nat), l.length = n → 0 < n → ∃ c, atI l (m % (n : Int)) = some c := fun {l} m n hn hp => by
    obtain ⟨v, hv, _⟩ := at_modA (xs := l) (m := m) n hn hp
    exact ⟨v, hv⟩
  obtain ⟨c1, hc1⟩ := sl (l := (ms1 ++ ms2).cps.toList) (k / 6) (ms1 ++ ms2).length (TL.len_tl _).symm hpos
  obtain ⟨c2, hc2⟩ := sl (l := ms3.cps.toList) (k / 6) 17 (by decide +kernel) (by decide)
  refine ⟨⟨by decide, by decide⟩, _, rfl, _, rfl, (by rw [ms12, sizeLine_eq]; omega), _, _, rfl, rfl, (by show (0 : Int) < ((ms1 ++ ms2).length : Int); omega), ?_⟩
  refine ⟨ms1 ++ ms2, _, c1, rfl, rfl, (by rw [ms12, sizeLine_eq]; omega), hc1, ?_⟩
  dsimp only [gName]
  refine if_mergeB (fun σ' H' => H' = H ∧ ∃ cc : Nat, σ' = [some (.str x), some (.int k), some (.str (ms1 ++ ms2)), some (.str ⟨#[cc]⟩), none]) (decide (V.int (k / 3 % 2) = V.int 0)) (fun Q' hQ => ⟨_, rfl, _, _, rfl, rfl, ⟨by decide, by decide⟩, _, _, rfl, rfl, (show (0 : Int) < 2 by decide), rfl, _, rfl, hQ⟩)
    (fun _ N hN => ⟨_, rfl, _, _, rfl, rfl, ⟨by decide, by decide⟩, _, _, rfl, rfl, (show (0 : Int) < 17 by decide), ms3, _, c2, rfl, rfl, (by rw [sizeLine_eq]; decide +kernel), hc2, hN _ _ ⟨rfl, c2, rfl⟩⟩) (fun _ N hN => hN _ _ ⟨rfl, c1, rfl⟩) (fun σ' H' hM => ?_)
  obtain ⟨rfl, cc, rfl⟩ := hM
  have hb0 := Int.emod_nonneg (k / 600) (show ((x.length : Int) + 1) ≠ 0 by omega)
  have hb1 := Int.emod_lt_of_pos (k / 600) (show (0 : Int) < (x.length : Int) + 1 by omega)
  refine ⟨_, rfl, _, _, rfl, rfl, ⟨by decide, by decide⟩, _, rfl, x, rfl, (by rw [sizeLine_eq]; omega), _, _, rfl, rfl, _, _, rfl, rfl, (show (0 : Int) < (x.length : Int) + 1 by omega), ?_⟩
  obtain ⟨i, hi⟩ := Int.eq_ofNat_of_zero_le hb0
  rw [hi] at hb1
  dsimp only
  rw [hi]
  have hix : i ≤ x.length := by omega
  have p1 := cut_pre hix
  have s1 := cut_suf x i
  have s2 := cut_suf x (i + 1)
  have c1l : (⟨#[cc]⟩ : Str).length = 1 := rfl
  refine ⟨_, rfl, _, _, rfl, rfl, (show (0 : Int) < 3 by decide), rfl, _, rfl, ite2 (fun _ => ?_) (fun _ => ?_)⟩
  · refine ⟨_, rfl, _, rfl, _, rfl, x, rfl, by rw [sizeLine_eq]; omega, _, rfl, _, _, rfl, rfl, (by rw [p1, c1l, sizeLine_eq]; omega), _, rfl, _, rfl, _, rfl, x, rfl, by rw [sizeLine_eq]; omega, _, _, rfl, rfl, (by rw [app_len, p1, c1l, s1, sizeLine_eq]; omega), q _ ?_⟩
    rw [app_len, app_len, p1, c1l, s1]
    omega
  · refine ⟨_, rfl, _, _, rfl, rfl, (show (0 : Int) < 3 by decide), rfl, _, rfl, ite2 (fun _ => ?_) (fun _ => ?_)⟩
    · refine ⟨_, rfl, _, rfl, _, rfl, x, rfl, by rw [sizeLine_eq]; omega, _, rfl, _, rfl, _, _, rfl, rfl, _, rfl, x, rfl, by rw [sizeLine_eq]; omega, _, _, rfl, rfl, ?_, q _ ?_⟩
      · show (cutS x none (some (i : Int))).length + (cutS x (some ((i + 1 : Nat) : Int)) none).length ≤ sizeLine
        rw [p1, s2, sizeLine_eq]
        omega
      · show (cutS x none (some (i : Int)) ++ cutS x (some ((i + 1 : Nat) : Int)) none).length ≤ x.length + 1
        rw [app_len, p1, s2]
        omega
    · refine ⟨_, rfl, _, rfl, _, rfl, x, rfl, by rw [sizeLine_eq]; omega, _, rfl, _, _, rfl, rfl, (by rw [p1, c1l, sizeLine_eq]; omega), _, rfl, _, rfl, _, _, rfl, rfl, _, rfl, x, rfl, by rw [sizeLine_eq]; omega, _, _, rfl, rfl, ?_, q _ ?_⟩
      · show (cutS x none (some (i : Int)) ++ (⟨#[cc]⟩ : Str)).length + (cutS x (some ((i + 1 : Nat) : Int)) none).length ≤ sizeLine
        rw [app_len, p1, c1l, s2, sizeLine_eq]
        omega
      · show (cutS x none (some (i : Int)) ++ (⟨#[cc]⟩ : Str) ++ cutS x (some ((i + 1 : Nat) : Int)) none).length ≤ x.length + 1
        rw [app_len, app_len, p1, c1l, s2]
        omega
end
end FC
namespace FC
open PySem L2 StX PyProof.Rows GxR
open TL (tl)
section
variable {P : Program} {w : World} {K : PySem.W.Frag} {mg : Str → Option Value} {base : Heap} {t1 t2 t3 t4 t5 : Tok} {Z U B T F f g f1 f2 f3 f4 f5 f6 f7 f8 f9 c Pt dp : Addr} {fd gd fd1 fd2 fd3 fd4 fd5 fd6 fd7 fd8 fd9 : FuncData}
def spLong : Sp := fun vs H Q _ => ∃ k : Int, vs = [.int k] ∧ 0 ≤ k ∧ ∀ (H' : Hp) (x : Str), Same H H' → x.length ≤ 100 → Q (.str x) H'
def bigV : V → Bool
  | .int m => decide (0 ≤ m) && decide (m ≤ 10000000000)
  | _ => false
theorem bigV_out {v : V} (h : bigV v = true) : ∃ m : Int, v = .int m ∧ 0 ≤ m ∧ m ≤ 10000000000 := by
  cases v with
  | int m =>
    have h : (decide (0 ≤ m) && decide (m ≤ 10000000000)) = true := h
    rw [Bool.and_eq_true, decide_eq_true_eq, decide_eq_true_eq] at h
    exact ⟨m, rfl, h.1, h.2⟩
  | _ => cases h
theorem sc_law_long : FnScope ["_law_cell", "_law_line", "_law_number"] ["_law_cell"] (defScope s_law_long) := ⟨rfl, rfl, rfl, by decide +kernel, rfl, by decide +kernel, by decide +kernel⟩
theorem ok_long (d : Df K mg "_law_long" s_law_long ["_law_cell"] f fd) (z : Bl2 mg) : FnOk P w K mg base CX0 1 f fd ["_law_cell"] spLong := by
  refine d.F.ok sc_law_long (fun vs H Q E h => ?_) (fun cdv A outer s H vs Q E hr h => ?_)
  · obtain ⟨x, rfl, _⟩ := h
    rfl
  obtain ⟨k, rfl, h0, q⟩ := h
  refine ⟨_, (pss_cons (ps_set (i := 1) sc_law_long.nd rfl (.inl rfl) (pe_slice sl_str (pe_slice sl_str pe_str (po_some (pe_op op_mod (pe_op op_fdiv (pv 0) pe_int) pe_int)) po_none) po_none (po_some (pe_op op_add pe_int (pe_op op_mod (pv 0) pe_int)))))
    (pss_cons (ps_if (pt_cmpR op_lt (pe_op op_mod (pe_op op_fdiv (pv 0) pe_int) pe_int) pe_int (nomark _)) (pss_one (ps_ret (pv 1))) pss_nil)
    (pss_cons (ps_if (pt_cmpR op_lt (pe_op op_mod (pe_op op_fdiv (pv 0) pe_int) pe_int) pe_int (nomark _)) (pss_one (ps_ret (pe_op op_add_str (pe_op op_add_str (pe_op op_add_str (pe_op op_add_str pe_str (pv 1)) pe_str) (pv 1)) pe_str))) pss_nil)
    (pss_cons (ps_set (i := 2) sc_law_long.nd rfl (.inl rfl) (pe_op op_sub (pe_op op_add (pe_ix ix_list (pe_lst (pa_cons pe_int (pa_cons pe_int (pa_cons pe_int (pa_cons pe_int pa_nil))))) (pe_op op_mod (pv 0) pe_int) (fun _ _ => rfl)) (pe_op op_mod (pe_op op_fdiv (pv 0) pe_int) pe_int)) pe_int))
    (pss_one (ps_ret (pe_op op_add_str (pe_op op_add_str (pe_op op_add_str (pe_op op_add_str pe_str (pv 1)) pe_str) (pe_callTy call_str_int (by rfl) z.str (by decide +kernel) (pa_cons (pv 2) pa_nil))) pe_str))))))), ?_⟩
  have ls : signs.length = 26 := by decide +kernel
  have c28 : CDiv k 28 := ⟨by decide, by decide⟩
  have c4 : CDiv k 4 := ⟨by decide, by decide⟩
  refine ⟨_, rfl, _, _, rfl, rfl, c28, _, _, rfl, rfl, (show (0 : Int) < 17 by decide), _, rfl, signs, rfl, (by rw [ls, sizeLine_eq]; decide), ?_⟩
  have hl1 : (cutS signs (some (k / 28 % 17)) none).length ≤ 26 := Nat.le_trans (cutS_length signs _ _) (Nat.le_of_eq ls)
  refine ⟨_, rfl, _, _, rfl, rfl, (show (0 : Int) < 4 by decide), _, _, rfl, rfl, _, rfl, _, rfl, (by rw [sizeLine_eq]; exact Nat.le_trans hl1 (by decide)), ?_⟩
  dsimp only
  have hl2 : (cutS (cutS signs (some (k / 28 % 17)) none) none (some (7 + k % 4))).length ≤ 26 := Nat.le_trans (cutS_length _ _ _) hl1
  generalize cutS (cutS signs (some (k / 28 % 17)) none) none (some (7 + k % 4)) = L at hl2 ⊢
  have d1 : ("(let " : Str).length = 5 := by decide +kernel
  have d2 : (" " : Str).length = 1 := by decide +kernel
  have d3 : (" 0)" : Str).length = 3 := by decide +kernel
  have d4 : ("(part " : Str).length = 6 := by decide +kernel
  have d5 : (")" : Str).length = 1 := by decide +kernel
  refine ⟨_, rfl, _, _, rfl, rfl, c4, _, _, rfl, rfl, (show (0 : Int) < 7 by decide), _, _, rfl, rfl, _, rfl, ite2 (fun _ => ?_) (fun _ => ?_)⟩
  · exact ⟨_, rfl, q _ L (Same.refl _) (by omega)⟩
  refine ⟨_, rfl, _, _, rfl, rfl, c4, _, _, rfl, rfl, (show (0 : Int) < 7 by decide), _, _, rfl, rfl, _, rfl, ite2 (fun _ => ?_) (fun _ => ?_)⟩
  · refine ⟨_, rfl, _, _, rfl, rfl, (by rw [d1, sizeLine_eq]; omega), _, _, rfl, rfl, (by rw [app_len, d1, d2, sizeLine_eq]; omega), _, rfl, _, _, rfl, rfl, (by rw [app_len, app_len, d1, d2, sizeLine_eq]; omega), _, _, rfl, rfl, (by rw [app_len, app_len, app_len, d1, d2, d3, sizeLine_eq]; omega), q _ _ (Same.refl _) ?_⟩
    rw [app_len, app_len, app_len, app_len, d1, d2, d3]
    omega
  · refine ⟨(by show 4 ≤ sizeLine; decide), fun l hl => ?_⟩
    obtain ⟨v, hv, hm⟩ := at_modA (xs := [V.int 10000000, V.int 100000000, V.int 1000000000, V.int 10000000000]) (m := k) 4 rfl (by decide)
    have hall : ∀ v ∈ [V.int 10000000, V.int 100000000, V.int 1000000000, V.int 10000000000], bigV v = true := List.all_eq_true.mp (by decide)
    obtain ⟨m, rfl, m0, m1⟩ := bigV_out (hall v hm)
    have b0 := Int.emod_nonneg (k / 28) (show (3 : Int) ≠ 0 by decide)
    have b1 := Int.emod_lt_of_pos (k / 28) (show (0 : Int) < 3 by decide)
    refine ⟨_, rfl, _, _, rfl, rfl, (show (0 : Int) < 4 by decide), l, _, _, _, rfl, rfl, .inl (.inl upd_same), hv, ?_⟩
    refine ⟨_, rfl, _, _, rfl, rfl, c28, _, _, rfl, rfl, (show (0 : Int) < 3 by decide), _, _, rfl, rfl, _, _, rfl, rfl, ?_⟩
    dsimp only
    have hn : (m + k / 28 % 3 - 1).natAbs < 10 ^ 12 := by omega
    generalize m + k / 28 % 3 - 1 = n at hn ⊢
    have hn4 := int_text_length_le10 (k := 12) (by decide) hn
    rw [← PySem.ofString_length] at hn4
    have small : n.natAbs.log2 < 1920 := by
      have h2 : n.natAbs < 2 ^ 1920 := Nat.lt_trans hn (by decide +kernel)
      by_cases h0 : n.natAbs = 0
      · rw [h0]
        decide +kernel
      · exact (Nat.log2_lt h0).mpr h2
    refine ⟨_, rfl, _, _, rfl, rfl, (by rw [d4, sizeLine_eq]; omega), _, _, rfl, rfl, (by rw [app_len, d4, d2, sizeLine_eq]; omega), _, rfl, _, rfl, small, _, _, rfl, rfl, (by rw [app_len, app_len, d4, d2, sizeLine_eq]; omega), _, _, rfl, rfl, (by rw [app_len, app_len, app_len, d4, d2, d5, sizeLine_eq]; omega), q _ _ (same_new hl _) ?_⟩
    rw [app_len, app_len, app_len, app_len, d4, d2, d5]
    omega
end
end FC
namespace FC
open PySem L2 StX PyProof.Rows GxR
open TL (tl)
theorem if_at {c : TT} {t u v : TS} {D : Ends} {σ : L2.St} {H : Hp} (b : Bool) (hc : ∀ Q : Bool → Hp → Prop, Q b H → c σ H Q) (h : if b = true then t { D with nx := v D } σ H else u { D with nx := v D } σ H) : tSeq (tIfS c t u) v D σ H := hc _ h
section
variable {P : Program} {w : World} {K : PySem.W.Frag} {mg : Str → Option Value} {base : Heap} {t1 t2 t3 t4 t5 : Tok} {Z U B T F f g f1 f2 f3 f4 f5 f6 f7 f8 f9 c Pt dp : Addr} {fd gd fd1 fd2 fd3 fd4 fd5 fd6 fd7 fd8 fd9 : FuncData}
def spNested : Sp := fun vs H Q _ => ∃ k : Int, vs = [.int k] ∧ 0 ≤ k ∧ ∀ (H' : Hp) (x : Str), Same H H' → x.length ≤ 19900 → Q (.str x) H'
theorem sc_law_nested : FnScope ["_law_cell", "_law_words", "_law_line", "_law_many", "_law_turn", "_law_way", "_law_word"] ["_law_cell"] (defScope s_law_nested) := ⟨rfl, rfl, rfl, by decide +kernel, rfl, by decide +kernel, by decide +kernel⟩
def st11 : V → Bool
  | .str x => decide (x.length ≤ 11)
  | _ => false
theorem st11_out {v : V} (h : st11 v = true) : ∃ x : Str, v = .str x ∧ x.length ≤ 11 := by
  cases v with
  | str x => exact ⟨x, rfl, of_decide_eq_true h⟩
  | _ => cases h
def st5 : V → Bool
  | .str x => decide (x.length ≤ 5)
  | _ => false
theorem st5_out {v : V} (h : st5 v = true) : ∃ x : Str, v = .str x ∧ x.length ≤ 5 := by
  cases v with
  | str x => exact ⟨x, rfl, of_decide_eq_true h⟩
  | _ => cases h
abbrev w7 : List V := [.str "sum", .str "less", .str "times", .str "part", .str "rest", .str "below", .str "same"]
theorem ok_nested (d : Df K mg "_law_nested" s_law_nested ["_law_cell"] f fd) (z : Bl2 mg) : FnOk P w K mg base CX0 1 f fd ["_law_cell"] spNested := by
  refine d.F.ok sc_law_nested (fun vs H Q E h => ?_) (fun cdv A outer s H vs Q E hr h => ?_)
  · obtain ⟨x, rfl, _⟩ := h
    rfl
  obtain ⟨k, rfl, h0, q⟩ := h
  refine ⟨_, (pss_cons (ps_set (i := 1) sc_law_nested.nd rfl (.inl rfl) (pe_lst (pa_cons pe_str (pa_cons pe_str (pa_cons pe_str (pa_cons pe_str (pa_cons pe_str (pa_cons pe_str (pa_cons pe_str pa_nil)))))))))
    (pss_cons (ps_set (i := 2) sc_law_nested.nd rfl (.inl rfl) (pe_ix ix_list (pe_lst (pa_cons pe_str (pa_cons pe_str (pa_cons pe_str pa_nil)))) (pe_op op_mod (pv 0) pe_int) (fun _ _ => rfl)))
    (pss_cons (ps_set (i := 3) sc_law_nested.nd rfl (.inl rfl) (pe_op op_add pe_int (pe_op op_mod (pe_op op_fdiv (pv 0) pe_int) pe_int)))
    (pss_cons (ps_if (pt_cmpR op_eq (pe_op op_mod (pe_op op_fdiv (pv 0) pe_int) pe_int) pe_int (nomark _)) (pss_one (ps_set (i := 3) sc_law_nested.nd rfl (.inl rfl) (pe_op op_add pe_int (pe_op op_mod (pe_op op_fdiv (pv 0) pe_int) pe_int)))) pss_nil)
    (pss_cons (ps_for PassesOwn.never rfl (pi_range1 (by rfl) z.range (pa_cons (pv 3) pa_nil)) (pg_name (i := 4) sc_law_nested.nd rfl (.inl rfl)) (pss_cons (ps_set (i := 5) sc_law_nested.nd rfl (.inl rfl) (pe_op op_mod (pe_op op_add (pe_op op_fdiv (pv 0) pe_int) (pe_op op_mul (pe_op op_fdiv (pv 4) pe_int) (pe_op op_mod (pe_op op_fdiv (pv 0) pe_int) pe_int))) pe_int))
    (pss_cons (ps_set (i := 6) sc_law_nested.nd rfl (.inl rfl) (pe_ix ix_list (pv 1) (pe_op op_mod (pe_op op_add (pe_op op_fdiv (pv 0) pe_int) (pv 4)) pe_int) (fun _ _ => rfl)))
    (pss_one (ps_if (pt_cmpR op_lt (pv 5) pe_int (nomark _)) (pss_one (ps_set (i := 2) sc_law_nested.nd rfl (.inl rfl) (pe_op op_add_str (pe_op op_add_str (pe_op op_add_str (pe_op op_add_str (pe_op op_add_str pe_str (pv 6)) pe_str) (pe_ix ix_list (pe_lst (pa_cons pe_str (pa_cons pe_str pa_nil))) (pv 5) (fun _ _ => rfl))) (pv 2)) (pe_ix ix_list (pe_lst (pa_cons pe_str (pa_cons pe_str pa_nil))) (pv 5) (fun _ _ => rfl))))) (pss_one (ps_if (pt_cmpR op_lt (pv 5) pe_int (nomark _)) (pss_one (ps_set (i := 2) sc_law_nested.nd rfl (.inl rfl) (pe_op op_add_str (pe_op op_add_str (pe_op op_add_str pe_str (pe_ix ix_list (pe_lst (pa_cons pe_str (pa_cons pe_str (pa_cons pe_str pa_nil)))) (pe_op op_sub (pv 5) pe_int) (fun _ _ => rfl))) (pv 2)) (pe_ix ix_list (pe_lst (pa_cons pe_str (pa_cons pe_str (pa_cons pe_str pa_nil)))) (pe_op op_sub (pv 5) pe_int) (fun _ _ => rfl))))) (pss_one (ps_set (i := 2) sc_law_nested.nd rfl (.inl rfl) (pe_op op_add_str (pe_op op_add_str (pe_op op_add_str pe_str (pe_ix ix_list (pe_lst (pa_cons pe_str (pa_cons pe_str pa_nil))) (pe_op op_sub (pv 5) pe_int) (fun _ _ => rfl))) (pv 2)) (pe_ix ix_list (pe_lst (pa_cons pe_str (pa_cons pe_str pa_nil))) (pe_op op_sub (pv 5) pe_int) (fun _ _ => rfl))))))))))))
    (pss_cons (ps_if (PW.pt (pw_and (pt_cmpR op_gt (pv 3) pe_int (nomark _)) (pw_and1 (pt_cmpR op_eq (pe_op op_mod (pv 0) pe_int) pe_int (nomark _))))) (pss_one (ps_ret (pe_slice sl_str (pv 2) po_none (po_some (pe_op op_fdiv (pe_callB call_len_str (by rfl) z.len PySem.boot_len (pa_cons (pv 2) pa_nil)) pe_int))))) pss_nil)
    (pss_one (ps_ret (pv 2))))))))), ?_⟩
  have cd : ∀ n : Int, CDiv k n ↔ CDiv k n := fun _ => Iff.rfl
  refine ⟨(by show 7 ≤ sizeLine; decide), fun wl hwl => ?_⟩
  have g0 := same_new hwl (.lst w7)
  have e0 : upd H wl (.lst w7) wl = some (.lst w7) := upd_same
  show tSeq _ _ _ _ (upd H wl (.lst w7))
  generalize upd H wl (.lst w7) = H0 at g0 e0 ⊢
  refine ⟨(by show 3 ≤ sizeLine; decide), fun l hl => ?_⟩
  obtain ⟨v, hv, hm⟩ := at_modA (xs := [V.str "7", V.str "x", V.str "-1000000000"]) (m := k) 3 rfl (by decide)
  obtain ⟨L0, rfl, hL0⟩ := st11_out ((List.all_eq_true.mp (by decide +kernel : [V.str "7", V.str "x", V.str "-1000000000"].all st11 = true)) v hm)
  refine ⟨_, rfl, _, _, rfl, rfl, (show (0 : Int) < 3 by decide), l, _, _, _, rfl, rfl, .inl (.inl upd_same), hv, ?_⟩
  have g1 := g0.trans (same_new hl (.lst [V.str "7", V.str "x", V.str "-1000000000"]))
  have e1 := same_new hl (.lst [V.str "7", V.str "x", V.str "-1000000000"]) _ _ e0
  generalize upd H0 l (.lst [V.str "7", V.str "x", V.str "-1000000000"]) = H1 at g1 e1 ⊢
  have b0 := Int.emod_nonneg (k / 3) (show (4 : Int) ≠ 0 by decide)
  have b1 := Int.emod_lt_of_pos (k / 3) (show (0 : Int) < 4 by decide)
  have b2 := Int.emod_nonneg (k / 24696) (show (700 : Int) ≠ 0 by decide)
  have b3 := Int.emod_lt_of_pos (k / 24696) (show (0 : Int) < 700 by decide)
  refine ⟨_, rfl, _, _, rfl, rfl, ⟨by decide, by decide⟩, _, _, rfl, rfl, (show (0 : Int) < 4 by decide), _, _, rfl, rfl, ?_⟩
  dsimp only [gName]
  refine if_mergeB (fun σ' H' => H' = H1 ∧ ∃ m : Int, 58 ≤ m ∧ m ≤ 1100 ∧ σ' = [some (.int k), some (.ref wl), some (.str L0), some (.int m), none, none, none]) (decide (V.int (k / 4116 % 6) = V.int 1)) (fun Q' hQ => ⟨_, rfl, _, _, rfl, rfl, ⟨by decide, by decide⟩, _, _, rfl, rfl, (show (0 : Int) < 6 by decide), rfl, _, rfl, hQ⟩)
    (fun _ N hN => ⟨_, rfl, _, _, rfl, rfl, ⟨by decide, by decide⟩, _, _, rfl, rfl, (show (0 : Int) < 700 by decide), _, _, rfl, rfl, hN _ _ ⟨rfl, 400 + k / 24696 % 700, by omega, by omega, rfl⟩⟩) (fun _ N hN => hN _ _ ⟨rfl, 58 + k / 3 % 4, by omega, by omega, rfl⟩) (fun σ' H' hM => ?_)
  obtain ⟨rfl, m, m0, m1, rfl⟩ := hM
  obtain ⟨mn, hmn⟩ := Int.eq_ofNat_of_zero_le (show 0 ≤ m by omega)
  refine ⟨_, rfl, m, rfl, by omega, by omega, ?_⟩
  refine for_range (lo := 0) (n := m.toNat) (fun i σ H2 => Same H H2 ∧ H2 wl = some (.lst w7) ∧ ∃ (L : Str) (x4 x5 x6 : Option V), L.length ≤ 11 + 18 * i ∧ σ = [some (.int k), some (.ref wl), some (.str L), some (.int m), x4, x5, x6])
    ⟨g1, e1, L0, none, none, none, by omega, rfl⟩ (fun i σ H2 hi hP => ?_) (fun σ H2 hP => ?_)
  · obtain ⟨g2, e2, L, x4, x5, x6, hL, rfl⟩ := hP
    have hi2 : i ≤ 1100 := by omega
    have hLn : L.length ≤ 19811 := by omega
    obtain ⟨v, hv, hm⟩ := at_modA (xs := w7) (m := k / 588 + (0 + (i : Int))) 7 rfl (by decide)
    obtain ⟨wd, rfl, hwd⟩ := st5_out ((List.all_eq_true.mp (by decide +kernel : w7.all st5 = true)) v hm)
    refine ⟨_, rfl, _, _, rfl, rfl, ⟨by decide, by decide⟩, _, rfl, _, _, rfl, rfl, ⟨by decide, by decide⟩, _, rfl, _, _, rfl, rfl, ⟨by decide, by decide⟩, _, _, rfl, rfl, (show (0 : Int) < 7 by decide), _, _, rfl, rfl, .inl ⟨by omega, by omega⟩, _, _, rfl, rfl, _, _, rfl, rfl, (show (0 : Int) < 7 by decide), ?_⟩
    dsimp only [gName]
    have y0 := Int.emod_nonneg (k / 12 + (0 + (i : Int)) / 9 * (k / 84 % 7)) (show (7 : Int) ≠ 0 by decide)
    have y1 := Int.emod_lt_of_pos (k / 12 + (0 + (i : Int)) / 9 * (k / 84 % 7)) (show (0 : Int) < 7 by decide)
    generalize (k / 12 + (0 + (i : Int)) / 9 * (k / 84 % 7)) % 7 = y at y0 y1 ⊢
    refine ⟨_, rfl, _, rfl, _, _, rfl, rfl, ⟨by decide, by decide⟩, _, rfl, _, _, rfl, rfl, _, _, rfl, rfl, (show (0 : Int) < 7 by decide), wl, _, _, _, rfl, rfl, .inl (.inl e2), hv, ?_⟩
    have pick : ∀ (xs : List V) (j : Int), xs.all st5 = true → 0 ≤ j → j < xs.length → ∃ x : Str, atI xs j = some (.str x) ∧ x.length ≤ 5 := fun xs j ha j0 j1 => by
      obtain ⟨v, hv, hm⟩ := at_lt (xs := xs) j0 j1
      obtain ⟨x, rfl, hx⟩ := st5_out (List.all_eq_true.mp ha v hm)
      exact ⟨x, hv, hx⟩
    have d1 : (Str.ofString "(").length = 1 := by decide +kernel
    have d2 : (Str.ofString " ").length = 1 := by decide +kernel
    have d3 : (Str.ofString "(when ").length = 6 := by decide +kernel
    have d4 : (Str.ofString "(let ab ").length = 8 := by decide +kernel
    dsimp only [gName]
    have st : ∀ {H3 : Hp} {la : Addr} {ls : List V}, (Same H H3 ∧ H3 wl = some (.lst w7)) → H3 la = none → Same H (upd H3 la (.lst ls)) ∧ upd H3 la (.lst ls) wl = some (.lst w7) := fun g hla => ⟨g.1.trans (same_new hla _), same_new hla _ _ _ g.2⟩
    refine ⟨_, rfl, _, _, rfl, rfl, _, rfl, ite2 (fun a => ?_) (fun a => ?_)⟩
    · have a' : y < 2 := of_decide_eq_true a
      obtain ⟨s1, hs1, ls1⟩ := pick [V.str "y ", V.str ""] y (by decide +kernel) y0 a'
      obtain ⟨s2, hs2, ls2⟩ := pick [V.str ")", V.str " 1)"] y (by decide +kernel) y0 a'
      refine ⟨_, rfl, _, _, rfl, rfl, (by rw [d1, sizeLine_eq]; omega), _, _, rfl, rfl, (by rw [app_len, d1, d2, sizeLine_eq]; omega), (by show 2 ≤ sizeLine; decide), fun la hla => ⟨_, rfl, la, _, _, _, rfl, rfl, .inl (.inl upd_same), hs1, _, _, rfl, rfl, (by rw [app_len, app_len, d1, d2, sizeLine_eq]; omega), _, rfl, _, _, rfl, rfl, (by rw [app_len, app_len, app_len, d1, d2, sizeLine_eq]; omega), (by show 2 ≤ sizeLine; decide), fun lb hlb => ⟨_, rfl, lb, _, _, _, rfl, rfl, .inl (.inl upd_same), hs2, _, _, rfl, rfl, (by rw [app_len, app_len, app_len, app_len, d1, d2, sizeLine_eq]; omega), ?_⟩⟩⟩
      obtain ⟨ga, ea⟩ := st (st ⟨g2, e2⟩ hla) hlb
      refine ⟨ga, ea, _, _, _, _, ?_, rfl⟩
      rw [app_len, app_len, app_len, app_len, app_len, d1, d2]
      omega
    · have a' : ¬ y < 2 := fun z => a (decide_eq_true z)
      refine ⟨_, rfl, _, _, rfl, rfl, _, rfl, ite2 (fun a2 => ?_) (fun a2 => ?_)⟩
      · have a2' : y < 5 := of_decide_eq_true a2
        obtain ⟨s1, hs1, ls1⟩ := pick [V.str "", V.str "0 ", V.str "0 0 "] (y - 2) (by decide +kernel) (by omega) (by show y - 2 < 3; omega)
        obtain ⟨s2, hs2, ls2⟩ := pick [V.str " 0 0)", V.str " 0)", V.str ")"] (y - 2) (by decide +kernel) (by omega) (by show y - 2 < 3; omega)
        refine ⟨(by show 3 ≤ sizeLine; decide), fun la hla => ⟨_, rfl, _, _, rfl, rfl, la, _, _, _, rfl, rfl, .inl (.inl upd_same), hs1, _, _, rfl, rfl, (by rw [d3, sizeLine_eq]; omega), _, rfl, _, _, rfl, rfl, (by rw [app_len, d3, sizeLine_eq]; omega), (by show 3 ≤ sizeLine; decide), fun lb hlb => ⟨_, rfl, _, _, rfl, rfl, lb, _, _, _, rfl, rfl, .inl (.inl upd_same), hs2, _, _, rfl, rfl, (by rw [app_len, app_len, d3, sizeLine_eq]; omega), ?_⟩⟩⟩
        obtain ⟨ga, ea⟩ := st (st ⟨g2, e2⟩ hla) hlb
        refine ⟨ga, ea, _, _, _, _, ?_, rfl⟩
        rw [app_len, app_len, app_len, d3]
        omega
      · have a2' : ¬ y < 5 := fun z => a2 (decide_eq_true z)
        obtain ⟨s1, hs1, ls1⟩ := pick [V.str "", V.str "x "] (y - 5) (by decide +kernel) (by omega) (by show y - 5 < 2; omega)
        obtain ⟨s2, hs2, ls2⟩ := pick [V.str " ab)", V.str ")"] (y - 5) (by decide +kernel) (by omega) (by show y - 5 < 2; omega)
        refine ⟨(by show 2 ≤ sizeLine; decide), fun la hla => ⟨_, rfl, _, _, rfl, rfl, la, _, _, _, rfl, rfl, .inl (.inl upd_same), hs1, _, _, rfl, rfl, (by rw [d4, sizeLine_eq]; omega), _, rfl, _, _, rfl, rfl, (by rw [app_len, d4, sizeLine_eq]; omega), (by show 2 ≤ sizeLine; decide), fun lb hlb => ⟨_, rfl, _, _, rfl, rfl, lb, _, _, _, rfl, rfl, .inl (.inl upd_same), hs2, _, _, rfl, rfl, (by rw [app_len, app_len, d4, sizeLine_eq]; omega), ?_⟩⟩⟩
        obtain ⟨ga, ea⟩ := st (st ⟨g2, e2⟩ hla) hlb
        refine ⟨ga, ea, _, _, _, _, ?_, rfl⟩
        rw [app_len, app_len, app_len, d4]
        omega
  · obtain ⟨g2, e2, L, x4, x5, x6, hL, rfl⟩ := hP
    have hm2 : m.toNat ≤ 1100 := by omega
    have hLn : L.length ≤ 19811 := by omega
    dsimp only
    refine if_at (decide ((99 : Int) < m) && decide (V.int (k % 2) = V.int 1)) (fun Q9 hQ9 => tAnd_at (decide ((99 : Int) < m)) (decide (V.int (k % 2) = V.int 1)) (fun Q' hQ => ⟨_, rfl, _, _, rfl, rfl, _, rfl, hQ⟩) (fun Q' hQ => ⟨_, rfl, _, _, rfl, rfl, (show (0 : Int) < 2 by decide), rfl, _, rfl, hQ⟩) hQ9) ?_
    cases (decide ((99 : Int) < m) && decide (V.int (k % 2) = V.int 1)) with
    | true => exact iteT ⟨_, rfl, _, rfl, L, rfl, by rw [sizeLine_eq]; omega, _, _, rfl, rfl, ⟨by decide, by decide⟩, _, rfl, L, rfl, by rw [sizeLine_eq]; omega, q _ _ g2 (Nat.le_trans (cutS_length _ _ _) (by omega))⟩
    | false => exact iteF ⟨_, rfl, q _ L g2 (by omega)⟩
end
end FC
namespace FC
open PySem L2 StX PyProof.Rows GxR
open TL (tl)
section
variable {P : Program} {w : World} {K : PySem.W.Frag} {mg : Str → Option Value} {base : Heap} {t1 t2 t3 t4 t5 : Tok} {Z U B T F f g f1 f2 f3 f4 f5 f6 f7 f8 f9 c Pt dp : Addr} {fd gd fd1 fd2 fd3 fd4 fd5 fd6 fd7 fd8 fd9 : FuncData}
def spLineBy (K : PySem.W.Frag) : Sp := fun vs H Q _ => ∃ (a : Addr) (ms : List Int), vs = [.ref a] ∧ SqL K H a (ms.map V.int) ∧ (∀ m ∈ ms, 0 ≤ m) ∧ ms.length ≤ 63 ∧ ∀ (H' : Hp) (x : Str), Same H H' → x.length ≤ 19900 → Q (.str x) H'
theorem sc_law_line_by : FnScope ["_law_script", "_law_cell", "_law_line", "_law_k"] ["_law_script"] (defScope s_law_line_by) := ⟨rfl, rfl, rfl, by decide +kernel, rfl, by decide +kernel, by decide +kernel⟩
theorem ok_lineBy (d : Df K mg "_law_line_by" s_law_line_by ["_law_script"] f fd) (z : Bl2 mg) (d_cellAt : Df K mg "_law_cell_at" sCellAt ["_law_script", "_law_k"] f1 fd1) (G_cellAt : FnOk P w K mg base CX0 1 f1 fd1 ["_law_script", "_law_k"] (spCellAt K))
    (d_odd : Df K mg "_law_odd" s_law_odd ["_law_k"] f2 fd2) (G_odd : FnOk P w K mg base CX0 1 f2 fd2 ["_law_k"] spOdd) (d_nested : Df K mg "_law_nested" s_law_nested ["_law_cell"] f3 fd3) (G_nested : FnOk P w K mg base CX0 1 f3 fd3 ["_law_cell"] spNested)
    (d_long : Df K mg "_law_long" s_law_long ["_law_cell"] f4 fd4) (G_long : FnOk P w K mg base CX0 1 f4 fd4 ["_law_cell"] spLong) (d_mended : Df K mg "_law_mended" s_law_mended ["_law_line", "_law_cell"] f5 fd5) (G_mended : FnOk P w K mg base CX0 1 f5 fd5 ["_law_line", "_law_cell"] spMended)
    (d_lshown : Df K mg "_law_shown" s_law_shown ["_law_expr"] f6 fd6) (G_lshown : FnOk P w K mg base CX0 61 f6 fd6 ["_law_expr"] (spShown 60)) (d_treeBy : Df K mg "_law_tree_by" sTreeBy ["_law_cells", "_law_seed"] f7 fd7) (G_treeBy : FnOk P w K mg base CX0 3 f7 fd7 ["_law_cells", "_law_seed"] (spTreeBy K)) :
    FnOk P w K mg base CX0 62 f fd ["_law_script"] (spLineBy K) := by
  refine d.F.ok sc_law_line_by (fun vs H Q E h => ?_) (fun cdv A outer s H vs Q E hr h => ?_)
  · obtain ⟨a, ms, rfl, _⟩ := h
    rfl
  obtain ⟨a, ms, rfl, hS, hn, hl, q⟩ := h
  refine ⟨_, (pss_cons (ps_set (i := 1) sc_law_line_by.nd rfl (.inl rfl) (pe_call G_cellAt (hr.mono (by omega)) (by rfl) d_cellAt.m d_cellAt.k d_cellAt.b .nil pass0 (pa_cons (pv 0) (pa_cons pe_int pa_nil))))
    (pss_cons (ps_if (pt_cmpR op_eq (pe_op op_mod (pv 1) pe_int) pe_int (nomark _)) (pss_one (ps_ret (pe_call G_odd (hr.mono (by omega)) (by rfl) d_odd.m d_odd.k d_odd.b .nil pass0 (pa_cons (pe_op op_fdiv (pv 1) pe_int) pa_nil)))) pss_nil)
    (pss_cons (ps_if (PW.pt (pw_or (pt_cmpR op_eq (pe_op op_mod (pv 1) pe_int) pe_int (nomark _)) (pw_or1 (pt_cmpR op_eq (pe_op op_mod (pv 1) pe_int) pe_int (nomark _))))) (pss_one (ps_ret (pe_call G_nested (hr.mono (by omega)) (by rfl) d_nested.m d_nested.k d_nested.b .nil pass0 (pa_cons (pe_op op_fdiv (pv 1) pe_int) pa_nil)))) pss_nil)
    (pss_cons (ps_if (pt_cmpR op_eq (pe_op op_mod (pv 1) pe_int) pe_int (nomark _)) (pss_one (ps_ret (pe_call G_long (hr.mono (by omega)) (by rfl) d_long.m d_long.k d_long.b .nil pass0 (pa_cons (pe_op op_fdiv (pv 1) pe_int) pa_nil)))) pss_nil)
    (pss_cons (ps_set (i := 2) sc_law_line_by.nd rfl (.inl rfl) (pe_call G_lshown (hr.mono (by omega)) (by rfl) d_lshown.m d_lshown.k d_lshown.b .nil pass0 (pa_cons (pe_call G_treeBy (hr.mono (by omega)) (by rfl) d_treeBy.m d_treeBy.k d_treeBy.b .nil pass0 (pa_cons (pe_slice sl_list (pv 0) (po_some pe_int) (po_some pe_int)) (pa_cons (pe_call G_cellAt (hr.mono (by omega)) (by rfl) d_cellAt.m d_cellAt.k d_cellAt.b .nil pass0 (pa_cons (pv 0) (pa_cons pe_int pa_nil))) pa_nil))) pa_nil)))
    (pss_cons (ps_for PassesOwn.never rfl (pi_range1 (by rfl) z.range (pa_cons (pe_op op_mod (pe_op op_fdiv (pv 1) pe_int) pe_int) pa_nil)) (pg_name (i := 3) sc_law_line_by.nd rfl (.inl rfl)) (pss_one (ps_set (i := 2) sc_law_line_by.nd rfl (.inl rfl) (pe_call G_mended (hr.mono (by omega)) (by rfl) d_mended.m d_mended.k d_mended.b .nil pass0 (pa_cons (pv 2) (pa_cons (pe_call G_cellAt (hr.mono (by omega)) (by rfl) d_cellAt.m d_cellAt.k d_cellAt.b .nil pass0 (pa_cons (pv 0) (pa_cons (pe_op op_add pe_int (pv 3)) pa_nil))) pa_nil))))))
    (pss_one (ps_ret (pv 2))))))))), ?_⟩
  refine ⟨_, rfl, a, ms, 1, rfl, hS, by decide, hn, fun k k0 => ?_⟩
  refine ⟨_, rfl, _, _, rfl, rfl, (show (0 : Int) < 3 by decide), rfl, _, rfl, ite2 (fun _ => ?_) (fun _ => ?_)⟩
  · exact ⟨_, rfl, _, _, rfl, rfl, ⟨by decide, by decide⟩, k / 3, rfl, Int.ediv_nonneg k0 (by decide), fun H' x g hx => q H' x g (by omega)⟩
  have nest : ∀ {H1 : Hp}, Same H H1 → ∃ k' : Int, [V.int (k / 24)] = [V.int k'] ∧ 0 ≤ k' ∧ ∀ (H' : Hp) (x : Str), Same H1 H' → x.length ≤ 19900 → Q (.str x) H' := fun g => ⟨k / 24, rfl, Int.ediv_nonneg k0 (by decide), fun H' x g2 hx => q H' x (g.trans g2) hx⟩
  refine ⟨_, rfl, _, _, rfl, rfl, (show (0 : Int) < 8 by decide), rfl, _, rfl, ite2 (fun _ => iteT ⟨_, rfl, _, _, rfl, rfl, ⟨by decide, by decide⟩, nest (Same.refl _)⟩) (fun _ => ⟨_, rfl, _, _, rfl, rfl, (show (0 : Int) < 8 by decide), rfl, _, rfl, ite2 (fun _ => ⟨_, rfl, _, _, rfl, rfl, ⟨by decide, by decide⟩, nest (Same.refl _)⟩) (fun _ => ?_)⟩)⟩
  refine ⟨_, rfl, _, _, rfl, rfl, (show (0 : Int) < 8 by decide), rfl, _, rfl, ite2 (fun _ => ⟨_, rfl, _, _, rfl, rfl, ⟨by decide, by decide⟩, k / 24, rfl, Int.ediv_nonneg k0 (by decide), fun H' x g hx => q H' x g (by omega)⟩) (fun _ => ?_)⟩
  obtain ⟨ms', e1, e2, e3⟩ := cut_ints ms 5 11 (by decide) (by decide)
  refine ⟨_, rfl, _, rfl, _, rfl, a, _, rfl, hS, fun p1 hp1 => ?_⟩
  have g1 := same_new hp1 (.lst (cutV (ms.map V.int) (some 5) (some 11)))
  refine ⟨_, rfl, a, ms, 0, rfl, g1.seq hS, by decide, hn, fun c0 hc0 => ?_⟩
  refine ⟨p1, ms', c0, rfl, .inl (.inl (by rw [upd_same, e1])), fun m hm => hn m (e2 m hm), by omega, hc0, fun H3 v e g3 b ok hsz hdp => ?_⟩
  refine ⟨v, e, rfl, b, ok, by omega, by omega, fun H4 g4 => ?_⟩
  have hx := txt_len e ok
  have G4 := g1.trans (g3.trans g4)
  have y0 := Int.emod_nonneg (k / 24) (show (4 : Int) ≠ 0 by decide)
  have y1 := Int.emod_lt_of_pos (k / 24) (show (0 : Int) < 4 by decide)
  refine ⟨_, rfl, _, _, rfl, rfl, ⟨by decide, by decide⟩, _, _, rfl, rfl, (show (0 : Int) < 4 by decide), _, rfl, by omega, by omega, ?_⟩
  refine for_range (lo := 0) (n := (k / 24 % 4).toNat) (fun i σ H2 => Same H H2 ∧ ∃ (x : Str) (z3 : Option V), x.length ≤ 1000 + i ∧ σ = [some (.ref a), some (.int k), some (.str x), z3]) ⟨G4, txt e, none, by omega, rfl⟩ (fun i σ H2 hi hP => ?_) (fun σ H2 hP => ?_)
  · obtain ⟨g2, x, z3, hx, rfl⟩ := hP
    refine ⟨_, rfl, _, rfl, _, rfl, _, _, rfl, rfl, a, ms, 2 + (0 + (i : Int)), rfl, g2.seq hS, by omega, hn, fun cc hcc => ⟨x, cc, rfl, by omega, hcc, fun y hy => ⟨g2, y, _, by omega, rfl⟩⟩⟩
  · obtain ⟨g2, x, z3, hx, rfl⟩ := hP
    exact ⟨_, rfl, q H2 x g2 (by omega)⟩
end
end FC
/-! a text times a number -/
namespace FC
open PySem L2 StX PyProof.Rows
theorem rep_len (c : Array Nat) : ∀ (k : Nat) (a : Array Nat), ((List.replicate k c).foldl (· ++ ·) a).size = a.size + c.size * k
  | 0, a => by simp
  | k + 1, a => by
    rw [List.replicate_succ, List.foldl_cons, rep_len c k (a ++ c), Array.size_append, Nat.mul_succ]
    omega
theorem op_repS {X : Cx} : OpR X (binaryOp .Mult) (fun x y H Q => ∃ (a : Str) (k : Nat), x = .str a ∧ y = .int (k : Int) ∧ 2 ≤ k ∧ 1 ≤ a.length ∧ a.length * k ≤ 20000 ∧ ∀ z : Str, z.length = a.length * k → Q (.str z) H) := by
  intro pins s σ H x y v u Q I rx ry h
  obtain ⟨a, k, rfl, rfl, h2, h1, hz, q⟩ := h
  obtain ⟨t, rfl⟩ := rx
  obtain ⟨t', rfl⟩ := ry
  have hk : k ≤ 20000 := Nat.le_trans (Nat.le_mul_of_pos_left k h1) hz
  have ha : a.length ≤ 20000 := Nat.le_trans (Nat.le_mul_of_pos_right a.length (by omega)) hz
  have c1 : ¬ ((k : Int) < 1) := by omega
  have c2 : (((k : Int) == 1) || (a.length == 0)) = false := by
    rw [Bool.or_eq_false_iff, beq_eq_false_iff_ne, beq_eq_false_iff_ne]
    omega
  refine PySem.P.mul_str (by rw [decide_eq_false (by omega), decide_eq_false (by omega)]; rfl) (fun _ _ => ?_) (fun _ _ => ?_) ?_
  · have : (20000 : Int) ≤ (2 ^ 63 - 1) / (k : Int) := by
      rw [Int.le_ediv_iff_mul_le (by omega)]
      have : (20000 : Int) * k ≤ 20000 * 20000 := by omega
      omega
    omega
  · show decide (a.length * (k : Int).toNat > sizeLine) = false
    rw [Int.toNat_natCast]
    exact decide_eq_false (by rw [sizeLine_eq]; omega)
  · rw [if_neg c1, if_neg (by rw [c2]; decide), Int.toNat_natCast]
    have hlen : (⟨(List.replicate k a.cps).foldl (· ++ ·) #[]⟩ : Str).length = a.length * k := by
      show ((List.replicate k a.cps).foldl (· ++ ·) #[]).size = a.length * k
      rw [rep_len]
      show 0 + a.cps.size * k = a.length * k
      rw [Nat.zero_add]
      rfl
    exact ⟨by rw [hlen, sizeLine_eq]; omega, ⟨.str _, H, I.tok _, ⟨_, rfl⟩, q _ hlen⟩⟩
end FC
namespace FC
open PySem L2 StX PyProof.Rows GxR
open TL (tl)
section
variable {P : Program} {w : World} {K : PySem.W.Frag} {mg : Str → Option Value} {base : Heap} {t1 t2 t3 t4 t5 : Tok} {Z U B T F f g f1 f2 f3 f4 f5 f6 f7 f8 f9 c Pt dp : Addr} {fd gd fd1 fd2 fd3 fd4 fd5 fd6 fd7 fd8 fd9 : FuncData}
theorem scLaw : FnScope ["_law_script", "_law_cell", "_law_head_here", "_law_line"] ["_law_script"] (defScope sLaw) := ⟨rfl, rfl, rfl, by decide +kernel, rfl, by decide +kernel, by decide +kernel⟩
theorem ok_law07 (d : Df K mg "law" sLaw ["_law_script"] f fd) (z : Bl2 mg)
    (d_mixed : Df K mg "_law_mixed" sMixed ["_law_script"] f1 fd1) (G_mixed : FnOk P w K mg base CX0 1 f1 fd1 ["_law_script"] (spMixed K))
    (d_cellAt : Df K mg "_law_cell_at" sCellAt ["_law_script", "_law_k"] f2 fd2) (G_cellAt : FnOk P w K mg base CX0 1 f2 fd2 ["_law_script", "_law_k"] (spCellAt K))
    (d_lineBy : Df K mg "_law_line_by" s_law_line_by ["_law_script"] f3 fd3) (G_lineBy : FnOk P w K mg base CX0 62 f3 fd3 ["_law_script"] (spLineBy K))
    (d_readRight : Df K mg "_law_read_right" s_law_read_right ["_law_line"] f4 fd4) (G_readRight : FnOk P w K mg base CX0 127 f4 fd4 ["_law_line"] (spRight Pt)) :
    FnOk P w K mg base CX0 128 f fd ["_law_script"] (spLawT K Pt) := by
  refine d.F.ok scLaw (fun vs H Q E h => ?_) (fun cdv A outer s H vs Q E hr h => ?_)
  · obtain ⟨a, ns, rfl, _⟩ := h
    rfl
  obtain ⟨a, ns, rfl, hS, h63, hT, q⟩ := h
  refine ⟨_, (pss_cons (ps_set (i := 0) scLaw.nd rfl (.inl rfl) (pe_call G_mixed (hr.mono (by omega)) (by rfl) d_mixed.m d_mixed.k d_mixed.b .nil pass0 (pa_cons (pv 0) pa_nil)))
    (pss_cons (ps_set (i := 1) scLaw.nd rfl (.inl rfl) (pe_call G_cellAt (hr.mono (by omega)) (by rfl) d_cellAt.m d_cellAt.k d_cellAt.b .nil pass0 (pa_cons (pv 0) (pa_cons pe_int pa_nil))))
    (pss_cons (ps_set (i := 2) scLaw.nd rfl (.inl rfl) (pe_op op_add_str (pe_op op_add_str pe_str (pe_ix ix_list (pe_lst (pa_cons pe_str (pa_cons pe_str (pa_cons pe_str (pa_cons pe_str (pa_cons pe_str (pa_cons pe_str (pa_cons pe_str (pa_cons pe_str (pa_cons pe_str pa_nil)))))))))) (pe_op op_mod (pv 1) pe_int) (fun _ _ => rfl))) pe_str))
    (pss_cons (ps_for PassesOwn.never rfl (pi_list (pe_lst (pa_cons (pe_call G_lineBy (hr.mono (by omega)) (by rfl) d_lineBy.m d_lineBy.k d_lineBy.b .nil pass0 (pa_cons (pv 0) pa_nil)) (pa_cons (pe_op op_add_str (pe_op op_add_str (pe_op op_repS (pv 2) pe_int) pe_str) (pe_op op_repS pe_str pe_int)) (pa_cons (pe_op op_add_str (pe_op op_add_str (pe_op op_repS (pv 2) pe_int) pe_str) (pe_op op_repS pe_str pe_int)) pa_nil))))) (pg_name (i := 3) scLaw.nd rfl (.inl rfl)) (pss_one (ps_if (pt_not (pt_val (pe_call G_readRight (hr.mono (by omega)) (by rfl) d_readRight.m d_readRight.k d_readRight.b .nil pass0 (pa_cons (pv 3) pa_nil)))) (pss_one (ps_ret pe_bl)) pss_nil)))
    (pss_one (ps_ret pe_bl)))))), ?_⟩
  refine ⟨_, rfl, a, ns, rfl, hS, h63, fun H1 p ms g1 hp hl hnn => ?_⟩
  refine ⟨_, rfl, p, ms, 2, rfl, .inl (.inl hp), by decide, hnn, fun k k0 => ?_⟩
  refine ⟨(by show 9 ≤ sizeLine; decide), fun l hl9 => ?_⟩
  obtain ⟨v, hv, hm⟩ := at_modA (xs := [V.str "sum", V.str "less", V.str "times", V.str "part", V.str "rest", V.str "below", V.str "same", V.str "let y", V.str "when 1"]) (m := k) 9 rfl (by decide)
  obtain ⟨wd, rfl, hwd⟩ := st11_out ((List.all_eq_true.mp (by decide +kernel : [V.str "sum", V.str "less", V.str "times", V.str "part", V.str "rest", V.str "below", V.str "same", V.str "let y", V.str "when 1"].all st11 = true)) v hm)
  have d1 : ("(" : Str).length = 1 := by decide +kernel
  have d2 : (" y " : Str).length = 3 := by decide +kernel
  have d3 : ("x" : Str).length = 1 := by decide +kernel
  have d4 : (")" : Str).length = 1 := by decide +kernel
  refine ⟨_, rfl, _, _, rfl, rfl, (show (0 : Int) < 9 by decide), l, _, _, _, rfl, rfl, .inl (.inl upd_same), hv, _, _, rfl, rfl, (by rw [d1, sizeLine_eq]; omega), _, _, rfl, rfl, (by rw [app_len, d1, d2, sizeLine_eq]; omega), ?_⟩
  have hh1 : ("(" ++ wd ++ " y " : Str).length = 4 + wd.length := by rw [app_len, app_len, d1, d2]; omega
  have g2 := g1.trans (same_new hl9 (.lst [V.str "sum", V.str "less", V.str "times", V.str "part", V.str "rest", V.str "below", V.str "same", V.str "let y", V.str "when 1"]))
  have hp2 := same_new hl9 (.lst [V.str "sum", V.str "less", V.str "times", V.str "part", V.str "rest", V.str "below", V.str "same", V.str "let y", V.str "when 1"]) _ _ hp
  generalize ("(" ++ wd ++ " y " : Str) = hd at hh1 ⊢
  refine ⟨_, rfl, p, ms, rfl, .inl (.inl hp2), hnn, by omega, fun H3 x1 g3 hx1 => ?_⟩
  refine ⟨_, rfl, hd, 59, rfl, rfl, by decide, by omega, by omega, fun z1 hz1 => ⟨_, _, rfl, rfl, (by rw [d3, sizeLine_eq]; omega), _, 59, rfl, rfl, by decide, by rw [d4]; decide, by rw [d4]; decide, fun z2 hz2 => ⟨_, _, rfl, rfl, (by rw [app_len, d3, hz2, d4, sizeLine_eq]; omega), ?_⟩⟩⟩
  refine ⟨_, rfl, hd, 60, rfl, rfl, by decide, by omega, by omega, fun z3 hz3 => ⟨_, _, rfl, rfl, (by rw [d3, sizeLine_eq]; omega), _, 60, rfl, rfl, by decide, by rw [d4]; decide, by rw [d4]; decide, fun z4 hz4 => ⟨_, _, rfl, rfl, (by rw [app_len, d3, hz4, d4, sizeLine_eq]; omega), ?_⟩⟩⟩
  refine ⟨(by show 3 ≤ sizeLine; decide), fun L hL => ?_⟩
  have hl1 : (hd : Str).length ≤ 15 := by omega
  have gL := g2.trans (g3.trans (same_new hL (.lst [V.str x1, V.str (z1 ++ "x" ++ z2), V.str (z3 ++ "x" ++ z4)])))
  have e9 : upd H3 L (.lst [V.str x1, V.str (z1 ++ "x" ++ z2), V.str (z3 ++ "x" ++ z4)]) L = some (.lst [V.str x1, V.str (z1 ++ "x" ++ z2), V.str (z3 ++ "x" ++ z4)]) := upd_same
  have hlen1 : (z1 ++ "x" ++ z2 : Str).length ≤ 20000 := by rw [app_len, app_len, d3, hz1, hz2, d4]; omega
  have hlen2 : (z3 ++ "x" ++ z4 : Str).length ≤ 20000 := by rw [app_len, app_len, d3, hz3, hz4, d4]; omega
  have hall : ∀ (i : Nat) (y : V), [V.str x1, V.str (z1 ++ "x" ++ z2), V.str (z3 ++ "x" ++ z4)][i]? = some y → ∃ x : Str, y = .str x ∧ x.length ≤ 20000 := fun i y hy => by
    match i, hy with
    | 0, hy => cases hy; exact ⟨_, rfl, by omega⟩
    | 1, hy => cases hy; exact ⟨_, rfl, hlen1⟩
    | 2, hy => cases hy; exact ⟨_, rfl, hlen2⟩
    | i + 3, hy => exact absurd hy (by simp)
  generalize [V.str x1, V.str (z1 ++ "x" ++ z2), V.str (z3 ++ "x" ++ z4)] = xs at gL e9 hall ⊢
  generalize upd H3 L (.lst xs) = H4 at gL e9 ⊢
  have hT4 : TabG H4 Pt := by
    obtain ⟨ps, h1, h2⟩ := hT
    exact ⟨ps, gL _ _ h1, h2⟩
  refine ⟨L, rfl, ⟨_, .inl (.inl e9)⟩, ?_⟩
  refine for_list (K := K) (a := L) (xs := xs) (fun i σ H2 => Grow Pt H4 H2 ∧ ∃ zz, σ = [some (.ref p), some (.int k), some (.str hd), zz]) ⟨.rf hT4, _, rfl⟩ (fun i σ H2 _ h => .inl (.inl (h.1.2 _ _ (TabG.nel hT4 e9) e9))) (fun i y σ H2 hy hP => ?_) (fun σ H2 hP => ?_)
  · obtain ⟨g5, zz, rfl⟩ := hP
    obtain ⟨x, rfl, hx⟩ := hall i y hy
    exact ⟨_, rfl, x, rfl, hx, g5.1, fun H6 g6 => ⟨_, rfl, iteF ⟨g5.trans g6, _, rfl⟩⟩⟩
  · obtain ⟨g5, zz, rfl⟩ := hP
    exact q _
end
end FC
namespace FC
open PySem L2 StX PyProof.Rows PySem.Spec
theorem all_mk {l : PySem.W.OpenLaw} {w : World} {K : PySem.W.Frag} {h : Heap} {mg : Str → Option Value} {fa : Addr} (X : K.In h) (G : h.Ns mainGlobals mg) (hfa : mg "law" = some (.ref fa))
    {f_law_mixed : Addr} {od_law_mixed an_law_mixed : Option Addr} {sl_law_mixed : Array (Option Value)} {oc_law_mixed kV_law_mixed dc_law_mixed pm_law_mixed cd_law_mixed ct_law_mixed : Value}
    {f_law_cell_at : Addr} {od_law_cell_at an_law_cell_at : Option Addr} {sl_law_cell_at : Array (Option Value)} {oc_law_cell_at kV_law_cell_at dc_law_cell_at pm_law_cell_at cd_law_cell_at ct_law_cell_at : Value}
    {f_law_line_by : Addr} {od_law_line_by an_law_line_by : Option Addr} {sl_law_line_by : Array (Option Value)} {oc_law_line_by kV_law_line_by dc_law_line_by pm_law_line_by cd_law_line_by ct_law_line_by : Value}
    {f_law_read_right : Addr} {od_law_read_right an_law_read_right : Option Addr} {sl_law_read_right : Array (Option Value)} {oc_law_read_right kV_law_read_right dc_law_read_right pm_law_read_right cd_law_read_right ct_law_read_right : Value}
    {f_expression : Addr} {od_expression an_expression : Option Addr} {sl_expression : Array (Option Value)} {oc_expression kV_expression dc_expression pm_expression cd_expression ct_expression : Value}
    {f_bracket : Addr} {od_bracket an_bracket : Option Addr} {sl_bracket : Array (Option Value)} {oc_bracket kV_bracket dc_bracket pm_bracket cd_bracket ct_bracket : Value}
    {f_end : Addr} {od_end an_end : Option Addr} {sl_end : Array (Option Value)} {oc_end kV_end dc_end pm_end cd_end ct_end : Value}
    {f_past : Addr} {od_past an_past : Option Addr} {sl_past : Array (Option Value)} {oc_past kV_past dc_past pm_past cd_past ct_past : Value}
    {f_plain : Addr} {od_plain an_plain : Option Addr} {sl_plain : Array (Option Value)} {oc_plain kV_plain dc_plain pm_plain cd_plain ct_plain : Value}
    {f_name : Addr} {od_name an_name : Option Addr} {sl_name : Array (Option Value)} {oc_name kV_name dc_name pm_name cd_name ct_name : Value}
    {f_number : Addr} {od_number an_number : Option Addr} {sl_number : Array (Option Value)} {oc_number kV_number dc_number pm_number cd_number ct_number : Value}
    {f_all_of : Addr} {od_all_of an_all_of : Option Addr} {sl_all_of : Array (Option Value)} {oc_all_of kV_all_of dc_all_of pm_all_of cd_all_of ct_all_of : Value}
    {f_read : Addr} {od_read an_read : Option Addr} {sl_read : Array (Option Value)} {oc_read kV_read dc_read pm_read cd_read ct_read : Value}
    {f_law_read : Addr} {od_law_read an_law_read : Option Addr} {sl_law_read : Array (Option Value)} {oc_law_read kV_law_read dc_law_read pm_law_read cd_law_read ct_law_read : Value}
    {f_law_end : Addr} {od_law_end an_law_end : Option Addr} {sl_law_end : Array (Option Value)} {oc_law_end kV_law_end dc_law_end pm_law_end cd_law_end ct_law_end : Value}
    {f_law_atom : Addr} {od_law_atom an_law_atom : Option Addr} {sl_law_atom : Array (Option Value)} {oc_law_atom kV_law_atom dc_law_atom pm_law_atom cd_law_atom ct_law_atom : Value}
    {f_law_head : Addr} {od_law_head an_law_head : Option Addr} {sl_law_head : Array (Option Value)} {oc_law_head kV_law_head dc_law_head pm_law_head cd_law_head ct_law_head : Value}
    {f_law_is_name : Addr} {od_law_is_name an_law_is_name : Option Addr} {sl_law_is_name : Array (Option Value)} {oc_law_is_name kV_law_is_name dc_law_is_name pm_law_is_name cd_law_is_name ct_law_is_name : Value}
    {f_law_due_of : Addr} {od_law_due_of an_law_due_of : Option Addr} {sl_law_due_of : Array (Option Value)} {oc_law_due_of kV_law_due_of dc_law_due_of pm_law_due_of cd_law_due_of ct_law_due_of : Value}
    {f_law_refused_by_any : Addr} {od_law_refused_by_any an_law_refused_by_any : Option Addr} {sl_law_refused_by_any : Array (Option Value)} {oc_law_refused_by_any kV_law_refused_by_any dc_law_refused_by_any pm_law_refused_by_any cd_law_refused_by_any ct_law_refused_by_any : Value}
    {f_law_is_expr : Addr} {od_law_is_expr an_law_is_expr : Option Addr} {sl_law_is_expr : Array (Option Value)} {oc_law_is_expr kV_law_is_expr dc_law_is_expr pm_law_is_expr cd_law_is_expr ct_law_is_expr : Value}
    {f_law_whole : Addr} {od_law_whole an_law_whole : Option Addr} {sl_law_whole : Array (Option Value)} {oc_law_whole kV_law_whole dc_law_whole pm_law_whole cd_law_whole ct_law_whole : Value}
    {f_law_odd : Addr} {od_law_odd an_law_odd : Option Addr} {sl_law_odd : Array (Option Value)} {oc_law_odd kV_law_odd dc_law_odd pm_law_odd cd_law_odd ct_law_odd : Value}
    {f_law_nested : Addr} {od_law_nested an_law_nested : Option Addr} {sl_law_nested : Array (Option Value)} {oc_law_nested kV_law_nested dc_law_nested pm_law_nested cd_law_nested ct_law_nested : Value}
    {f_law_long : Addr} {od_law_long an_law_long : Option Addr} {sl_law_long : Array (Option Value)} {oc_law_long kV_law_long dc_law_long pm_law_long cd_law_long ct_law_long : Value}
    {f_law_mended : Addr} {od_law_mended an_law_mended : Option Addr} {sl_law_mended : Array (Option Value)} {oc_law_mended kV_law_mended dc_law_mended pm_law_mended cd_law_mended ct_law_mended : Value}
    {f_law_shown : Addr} {od_law_shown an_law_shown : Option Addr} {sl_law_shown : Array (Option Value)} {oc_law_shown kV_law_shown dc_law_shown pm_law_shown cd_law_shown ct_law_shown : Value}
    {f_law_tree_by : Addr} {od_law_tree_by an_law_tree_by : Option Addr} {sl_law_tree_by : Array (Option Value)} {oc_law_tree_by kV_law_tree_by dc_law_tree_by pm_law_tree_by cd_law_tree_by ct_law_tree_by : Value}
    {f_law_step : Addr} {od_law_step an_law_step : Option Addr} {sl_law_step : Array (Option Value)} {oc_law_step kV_law_step dc_law_step pm_law_step cd_law_step ct_law_step : Value}
    {f_law_name_by : Addr} {od_law_name_by an_law_name_by : Option Addr} {sl_law_name_by : Array (Option Value)} {oc_law_name_by kV_law_name_by dc_law_name_by pm_law_name_by cd_law_name_by ct_law_name_by : Value}
    {f_law_number_by : Addr} {od_law_number_by an_law_number_by : Option Addr} {sl_law_number_by : Array (Option Value)} {oc_law_number_by kV_law_number_by dc_law_number_by pm_law_number_by cd_law_number_by ct_law_number_by : Value}
    {f_law : Addr} {od_law an_law : Option Addr} {sl_law : Array (Option Value)} {oc_law kV_law dc_law pm_law cd_law ct_law : Value}
    {C_FoldError : Addr}
    {C_BadText : Addr}
    {C_ByNought : Addr}
    {C_TooGreat : Addr}
    {C_Unset : Addr}
    {t1 t2 t3 t4 t5 : Tok}
    {dp : Addr} {np : Nat} {h1 h2 h3 h4 h5 h6 h7 h8 h9 : Int} {k1 k2 k3 k4 k5 k6 k7 k8 k9 v1 v2 v3 v4 v5 v6 v7 v8 v9 : Tok}
    {cA PA : Addr}
    (a_law_mixed : PySem.W.nsIn K mainGlobals "_law_mixed" = some (some (.ref f_law_mixed)))
    (l_law_mixed : K.lookup f_law_mixed = some ⟨oc_law_mixed, od_law_mixed, .func (PySem.W.fnOf "_law_mixed" "_law_mixed" (defArgs sMixed) (defBody sMixed) (defScope sMixed) .none kV_law_mixed dc_law_mixed pm_law_mixed an_law_mixed cd_law_mixed ct_law_mixed), sl_law_mixed⟩)
    (c_law_mixed : PySem.W.codeIn K cd_law_mixed "_law_mixed" = true)
    (k_law_mixed : PySem.W.keepIn K (.ref f_law_mixed) = true)
    (a_law_cell_at : PySem.W.nsIn K mainGlobals "_law_cell_at" = some (some (.ref f_law_cell_at)))
    (l_law_cell_at : K.lookup f_law_cell_at = some ⟨oc_law_cell_at, od_law_cell_at, .func (PySem.W.fnOf "_law_cell_at" "_law_cell_at" (defArgs sCellAt) (defBody sCellAt) (defScope sCellAt) .none kV_law_cell_at dc_law_cell_at pm_law_cell_at an_law_cell_at cd_law_cell_at ct_law_cell_at), sl_law_cell_at⟩)
    (c_law_cell_at : PySem.W.codeIn K cd_law_cell_at "_law_cell_at" = true)
    (k_law_cell_at : PySem.W.keepIn K (.ref f_law_cell_at) = true)
    (a_law_line_by : PySem.W.nsIn K mainGlobals "_law_line_by" = some (some (.ref f_law_line_by)))
    (l_law_line_by : K.lookup f_law_line_by = some ⟨oc_law_line_by, od_law_line_by, .func (PySem.W.fnOf "_law_line_by" "_law_line_by" (defArgs s_law_line_by) (defBody s_law_line_by) (defScope s_law_line_by) .none kV_law_line_by dc_law_line_by pm_law_line_by an_law_line_by cd_law_line_by ct_law_line_by), sl_law_line_by⟩)
    (c_law_line_by : PySem.W.codeIn K cd_law_line_by "_law_line_by" = true)
    (k_law_line_by : PySem.W.keepIn K (.ref f_law_line_by) = true)
    (a_law_read_right : PySem.W.nsIn K mainGlobals "_law_read_right" = some (some (.ref f_law_read_right)))
    (l_law_read_right : K.lookup f_law_read_right = some ⟨oc_law_read_right, od_law_read_right, .func (PySem.W.fnOf "_law_read_right" "_law_read_right" (defArgs s_law_read_right) (defBody s_law_read_right) (defScope s_law_read_right) .none kV_law_read_right dc_law_read_right pm_law_read_right an_law_read_right cd_law_read_right ct_law_read_right), sl_law_read_right⟩)
    (c_law_read_right : PySem.W.codeIn K cd_law_read_right "_law_read_right" = true)
    (k_law_read_right : PySem.W.keepIn K (.ref f_law_read_right) = true)
    (a_expression : PySem.W.nsIn K mainGlobals "_expression" = some (some (.ref f_expression)))
    (l_expression : K.lookup f_expression = some ⟨oc_expression, od_expression, .func (PySem.W.fnOf "_expression" "_expression" (defArgs s_expression) (defBody s_expression) (defScope s_expression) .none kV_expression dc_expression pm_expression an_expression cd_expression ct_expression), sl_expression⟩)
    (c_expression : PySem.W.codeIn K cd_expression "_expression" = true)
    (k_expression : PySem.W.keepIn K (.ref f_expression) = true)
    (a_bracket : PySem.W.nsIn K mainGlobals "_bracket" = some (some (.ref f_bracket)))
    (l_bracket : K.lookup f_bracket = some ⟨oc_bracket, od_bracket, .func (PySem.W.fnOf "_bracket" "_bracket" (defArgs s_bracket) (defBody s_bracket) (defScope s_bracket) .none kV_bracket dc_bracket pm_bracket an_bracket cd_bracket ct_bracket), sl_bracket⟩)
    (c_bracket : PySem.W.codeIn K cd_bracket "_bracket" = true)
    (k_bracket : PySem.W.keepIn K (.ref f_bracket) = true)
    (a_end : PySem.W.nsIn K mainGlobals "_end" = some (some (.ref f_end)))
    (l_end : K.lookup f_end = some ⟨oc_end, od_end, .func (PySem.W.fnOf "_end" "_end" (defArgs s_end) (defBody s_end) (defScope s_end) .none kV_end dc_end pm_end an_end cd_end ct_end), sl_end⟩)
    (c_end : PySem.W.codeIn K cd_end "_end" = true)
    (k_end : PySem.W.keepIn K (.ref f_end) = true)
    (a_past : PySem.W.nsIn K mainGlobals "_past" = some (some (.ref f_past)))
    (l_past : K.lookup f_past = some ⟨oc_past, od_past, .func (PySem.W.fnOf "_past" "_past" (defArgs s_past) (defBody s_past) (defScope s_past) .none kV_past dc_past pm_past an_past cd_past ct_past), sl_past⟩)
    (c_past : PySem.W.codeIn K cd_past "_past" = true)
    (k_past : PySem.W.keepIn K (.ref f_past) = true)
    (a_plain : PySem.W.nsIn K mainGlobals "_plain" = some (some (.ref f_plain)))
    (l_plain : K.lookup f_plain = some ⟨oc_plain, od_plain, .func (PySem.W.fnOf "_plain" "_plain" (defArgs s_plain) (defBody s_plain) (defScope s_plain) .none kV_plain dc_plain pm_plain an_plain cd_plain ct_plain), sl_plain⟩)
    (c_plain : PySem.W.codeIn K cd_plain "_plain" = true)
    (k_plain : PySem.W.keepIn K (.ref f_plain) = true)
    (a_name : PySem.W.nsIn K mainGlobals "_name" = some (some (.ref f_name)))
    (l_name : K.lookup f_name = some ⟨oc_name, od_name, .func (PySem.W.fnOf "_name" "_name" (defArgs s_name) (defBody s_name) (defScope s_name) .none kV_name dc_name pm_name an_name cd_name ct_name), sl_name⟩)
    (c_name : PySem.W.codeIn K cd_name "_name" = true)
    (k_name : PySem.W.keepIn K (.ref f_name) = true)
    (a_number : PySem.W.nsIn K mainGlobals "_number" = some (some (.ref f_number)))
    (l_number : K.lookup f_number = some ⟨oc_number, od_number, .func (PySem.W.fnOf "_number" "_number" (defArgs s_number) (defBody s_number) (defScope s_number) .none kV_number dc_number pm_number an_number cd_number ct_number), sl_number⟩)
    (c_number : PySem.W.codeIn K cd_number "_number" = true)
    (k_number : PySem.W.keepIn K (.ref f_number) = true)
    (a_all_of : PySem.W.nsIn K mainGlobals "_all_of" = some (some (.ref f_all_of)))
    (l_all_of : K.lookup f_all_of = some ⟨oc_all_of, od_all_of, .func (PySem.W.fnOf "_all_of" "_all_of" (defArgs s_all_of) (defBody s_all_of) (defScope s_all_of) .none kV_all_of dc_all_of pm_all_of an_all_of cd_all_of ct_all_of), sl_all_of⟩)
    (c_all_of : PySem.W.codeIn K cd_all_of "_all_of" = true)
    (k_all_of : PySem.W.keepIn K (.ref f_all_of) = true)
    (a_read : PySem.W.nsIn K mainGlobals "read" = some (some (.ref f_read)))
    (l_read : K.lookup f_read = some ⟨oc_read, od_read, .func (PySem.W.fnOf "read" "read" (defArgs s_read) (defBody s_read) (defScope s_read) .none kV_read dc_read pm_read an_read cd_read ct_read), sl_read⟩)
    (c_read : PySem.W.codeIn K cd_read "read" = true)
    (k_read : PySem.W.keepIn K (.ref f_read) = true)
    (a_law_read : PySem.W.nsIn K mainGlobals "_law_read" = some (some (.ref f_law_read)))
    (l_law_read : K.lookup f_law_read = some ⟨oc_law_read, od_law_read, .func (PySem.W.fnOf "_law_read" "_law_read" (defArgs s_law_read) (defBody s_law_read) (defScope s_law_read) .none kV_law_read dc_law_read pm_law_read an_law_read cd_law_read ct_law_read), sl_law_read⟩)
    (c_law_read : PySem.W.codeIn K cd_law_read "_law_read" = true)
    (k_law_read : PySem.W.keepIn K (.ref f_law_read) = true)
    (a_law_end : PySem.W.nsIn K mainGlobals "_law_end" = some (some (.ref f_law_end)))
    (l_law_end : K.lookup f_law_end = some ⟨oc_law_end, od_law_end, .func (PySem.W.fnOf "_law_end" "_law_end" (defArgs s_law_end) (defBody s_law_end) (defScope s_law_end) .none kV_law_end dc_law_end pm_law_end an_law_end cd_law_end ct_law_end), sl_law_end⟩)
    (c_law_end : PySem.W.codeIn K cd_law_end "_law_end" = true)
    (k_law_end : PySem.W.keepIn K (.ref f_law_end) = true)
    (a_law_atom : PySem.W.nsIn K mainGlobals "_law_atom" = some (some (.ref f_law_atom)))
    (l_law_atom : K.lookup f_law_atom = some ⟨oc_law_atom, od_law_atom, .func (PySem.W.fnOf "_law_atom" "_law_atom" (defArgs s_law_atom) (defBody s_law_atom) (defScope s_law_atom) .none kV_law_atom dc_law_atom pm_law_atom an_law_atom cd_law_atom ct_law_atom), sl_law_atom⟩)
    (c_law_atom : PySem.W.codeIn K cd_law_atom "_law_atom" = true)
    (k_law_atom : PySem.W.keepIn K (.ref f_law_atom) = true)
    (a_law_head : PySem.W.nsIn K mainGlobals "_law_head" = some (some (.ref f_law_head)))
    (l_law_head : K.lookup f_law_head = some ⟨oc_law_head, od_law_head, .func (PySem.W.fnOf "_law_head" "_law_head" (defArgs s_law_head) (defBody s_law_head) (defScope s_law_head) .none kV_law_head dc_law_head pm_law_head an_law_head cd_law_head ct_law_head), sl_law_head⟩)
    (c_law_head : PySem.W.codeIn K cd_law_head "_law_head" = true)
    (k_law_head : PySem.W.keepIn K (.ref f_law_head) = true)
    (a_law_is_name : PySem.W.nsIn K mainGlobals "_law_is_name" = some (some (.ref f_law_is_name)))
    (l_law_is_name : K.lookup f_law_is_name = some ⟨oc_law_is_name, od_law_is_name, .func (PySem.W.fnOf "_law_is_name" "_law_is_name" (defArgs s_law_is_name) (defBody s_law_is_name) (defScope s_law_is_name) .none kV_law_is_name dc_law_is_name pm_law_is_name an_law_is_name cd_law_is_name ct_law_is_name), sl_law_is_name⟩)
    (c_law_is_name : PySem.W.codeIn K cd_law_is_name "_law_is_name" = true)
    (k_law_is_name : PySem.W.keepIn K (.ref f_law_is_name) = true)
    (a_law_due_of : PySem.W.nsIn K mainGlobals "_law_due_of" = some (some (.ref f_law_due_of)))
    (l_law_due_of : K.lookup f_law_due_of = some ⟨oc_law_due_of, od_law_due_of, .func (PySem.W.fnOf "_law_due_of" "_law_due_of" (defArgs s_law_due_of) (defBody s_law_due_of) (defScope s_law_due_of) .none kV_law_due_of dc_law_due_of pm_law_due_of an_law_due_of cd_law_due_of ct_law_due_of), sl_law_due_of⟩)
    (c_law_due_of : PySem.W.codeIn K cd_law_due_of "_law_due_of" = true)
    (k_law_due_of : PySem.W.keepIn K (.ref f_law_due_of) = true)
    (a_law_refused_by_any : PySem.W.nsIn K mainGlobals "_law_refused_by_any" = some (some (.ref f_law_refused_by_any)))
    (l_law_refused_by_any : K.lookup f_law_refused_by_any = some ⟨oc_law_refused_by_any, od_law_refused_by_any, .func (PySem.W.fnOf "_law_refused_by_any" "_law_refused_by_any" (defArgs s_law_refused_by_any) (defBody s_law_refused_by_any) (defScope s_law_refused_by_any) .none kV_law_refused_by_any dc_law_refused_by_any pm_law_refused_by_any an_law_refused_by_any cd_law_refused_by_any ct_law_refused_by_any), sl_law_refused_by_any⟩)
    (c_law_refused_by_any : PySem.W.codeIn K cd_law_refused_by_any "_law_refused_by_any" = true)
    (k_law_refused_by_any : PySem.W.keepIn K (.ref f_law_refused_by_any) = true)
    (a_law_is_expr : PySem.W.nsIn K mainGlobals "_law_is_expr" = some (some (.ref f_law_is_expr)))
    (l_law_is_expr : K.lookup f_law_is_expr = some ⟨oc_law_is_expr, od_law_is_expr, .func (PySem.W.fnOf "_law_is_expr" "_law_is_expr" (defArgs s_law_is_expr) (defBody s_law_is_expr) (defScope s_law_is_expr) .none kV_law_is_expr dc_law_is_expr pm_law_is_expr an_law_is_expr cd_law_is_expr ct_law_is_expr), sl_law_is_expr⟩)
    (c_law_is_expr : PySem.W.codeIn K cd_law_is_expr "_law_is_expr" = true)
    (k_law_is_expr : PySem.W.keepIn K (.ref f_law_is_expr) = true)
    (a_law_whole : PySem.W.nsIn K mainGlobals "_law_whole" = some (some (.ref f_law_whole)))
    (l_law_whole : K.lookup f_law_whole = some ⟨oc_law_whole, od_law_whole, .func (PySem.W.fnOf "_law_whole" "_law_whole" (defArgs sWhole) (defBody sWhole) (defScope sWhole) .none kV_law_whole dc_law_whole pm_law_whole an_law_whole cd_law_whole ct_law_whole), sl_law_whole⟩)
    (c_law_whole : PySem.W.codeIn K cd_law_whole "_law_whole" = true)
    (k_law_whole : PySem.W.keepIn K (.ref f_law_whole) = true)
    (a_law_odd : PySem.W.nsIn K mainGlobals "_law_odd" = some (some (.ref f_law_odd)))
    (l_law_odd : K.lookup f_law_odd = some ⟨oc_law_odd, od_law_odd, .func (PySem.W.fnOf "_law_odd" "_law_odd" (defArgs s_law_odd) (defBody s_law_odd) (defScope s_law_odd) .none kV_law_odd dc_law_odd pm_law_odd an_law_odd cd_law_odd ct_law_odd), sl_law_odd⟩)
    (c_law_odd : PySem.W.codeIn K cd_law_odd "_law_odd" = true)
    (k_law_odd : PySem.W.keepIn K (.ref f_law_odd) = true)
    (a_law_nested : PySem.W.nsIn K mainGlobals "_law_nested" = some (some (.ref f_law_nested)))
    (l_law_nested : K.lookup f_law_nested = some ⟨oc_law_nested, od_law_nested, .func (PySem.W.fnOf "_law_nested" "_law_nested" (defArgs s_law_nested) (defBody s_law_nested) (defScope s_law_nested) .none kV_law_nested dc_law_nested pm_law_nested an_law_nested cd_law_nested ct_law_nested), sl_law_nested⟩)
    (c_law_nested : PySem.W.codeIn K cd_law_nested "_law_nested" = true)
    (k_law_nested : PySem.W.keepIn K (.ref f_law_nested) = true)
    (a_law_long : PySem.W.nsIn K mainGlobals "_law_long" = some (some (.ref f_law_long)))
    (l_law_long : K.lookup f_law_long = some ⟨oc_law_long, od_law_long, .func (PySem.W.fnOf "_law_long" "_law_long" (defArgs s_law_long) (defBody s_law_long) (defScope s_law_long) .none kV_law_long dc_law_long pm_law_long an_law_long cd_law_long ct_law_long), sl_law_long⟩)
    (c_law_long : PySem.W.codeIn K cd_law_long "_law_long" = true)
    (k_law_long : PySem.W.keepIn K (.ref f_law_long) = true)
    (a_law_mended : PySem.W.nsIn K mainGlobals "_law_mended" = some (some (.ref f_law_mended)))
    (l_law_mended : K.lookup f_law_mended = some ⟨oc_law_mended, od_law_mended, .func (PySem.W.fnOf "_law_mended" "_law_mended" (defArgs s_law_mended) (defBody s_law_mended) (defScope s_law_mended) .none kV_law_mended dc_law_mended pm_law_mended an_law_mended cd_law_mended ct_law_mended), sl_law_mended⟩)
    (c_law_mended : PySem.W.codeIn K cd_law_mended "_law_mended" = true)
    (k_law_mended : PySem.W.keepIn K (.ref f_law_mended) = true)
    (a_law_shown : PySem.W.nsIn K mainGlobals "_law_shown" = some (some (.ref f_law_shown)))
    (l_law_shown : K.lookup f_law_shown = some ⟨oc_law_shown, od_law_shown, .func (PySem.W.fnOf "_law_shown" "_law_shown" (defArgs s_law_shown) (defBody s_law_shown) (defScope s_law_shown) .none kV_law_shown dc_law_shown pm_law_shown an_law_shown cd_law_shown ct_law_shown), sl_law_shown⟩)
    (c_law_shown : PySem.W.codeIn K cd_law_shown "_law_shown" = true)
    (k_law_shown : PySem.W.keepIn K (.ref f_law_shown) = true)
    (a_law_tree_by : PySem.W.nsIn K mainGlobals "_law_tree_by" = some (some (.ref f_law_tree_by)))
    (l_law_tree_by : K.lookup f_law_tree_by = some ⟨oc_law_tree_by, od_law_tree_by, .func (PySem.W.fnOf "_law_tree_by" "_law_tree_by" (defArgs sTreeBy) (defBody sTreeBy) (defScope sTreeBy) .none kV_law_tree_by dc_law_tree_by pm_law_tree_by an_law_tree_by cd_law_tree_by ct_law_tree_by), sl_law_tree_by⟩)
    (c_law_tree_by : PySem.W.codeIn K cd_law_tree_by "_law_tree_by" = true)
    (k_law_tree_by : PySem.W.keepIn K (.ref f_law_tree_by) = true)
    (a_law_step : PySem.W.nsIn K mainGlobals "_law_step" = some (some (.ref f_law_step)))
    (l_law_step : K.lookup f_law_step = some ⟨oc_law_step, od_law_step, .func (PySem.W.fnOf "_law_step" "_law_step" (defArgs sStep) (defBody sStep) (defScope sStep) .none kV_law_step dc_law_step pm_law_step an_law_step cd_law_step ct_law_step), sl_law_step⟩)
    (c_law_step : PySem.W.codeIn K cd_law_step "_law_step" = true)
    (k_law_step : PySem.W.keepIn K (.ref f_law_step) = true)
    (a_law_name_by : PySem.W.nsIn K mainGlobals "_law_name_by" = some (some (.ref f_law_name_by)))
    (l_law_name_by : K.lookup f_law_name_by = some ⟨oc_law_name_by, od_law_name_by, .func (PySem.W.fnOf "_law_name_by" "_law_name_by" (defArgs sNameBy) (defBody sNameBy) (defScope sNameBy) .none kV_law_name_by dc_law_name_by pm_law_name_by an_law_name_by cd_law_name_by ct_law_name_by), sl_law_name_by⟩)
    (c_law_name_by : PySem.W.codeIn K cd_law_name_by "_law_name_by" = true)
    (k_law_name_by : PySem.W.keepIn K (.ref f_law_name_by) = true)
    (a_law_number_by : PySem.W.nsIn K mainGlobals "_law_number_by" = some (some (.ref f_law_number_by)))
    (l_law_number_by : K.lookup f_law_number_by = some ⟨oc_law_number_by, od_law_number_by, .func (PySem.W.fnOf "_law_number_by" "_law_number_by" (defArgs sNumBy) (defBody sNumBy) (defScope sNumBy) .none kV_law_number_by dc_law_number_by pm_law_number_by an_law_number_by cd_law_number_by ct_law_number_by), sl_law_number_by⟩)
    (c_law_number_by : PySem.W.codeIn K cd_law_number_by "_law_number_by" = true)
    (k_law_number_by : PySem.W.keepIn K (.ref f_law_number_by) = true)
    (a_law : PySem.W.nsIn K mainGlobals "law" = some (some (.ref f_law)))
    (l_law : K.lookup f_law = some ⟨oc_law, od_law, .func (PySem.W.fnOf "law" "law" (defArgs sLaw) (defBody sLaw) (defScope sLaw) .none kV_law dc_law pm_law an_law cd_law ct_law), sl_law⟩)
    (c_law : PySem.W.codeIn K cd_law "law" = true)
    (k_law : PySem.W.keepIn K (.ref f_law) = true)
    (z_len : PySem.W.nsIn K mainGlobals "len" = some none)
    (z_range : PySem.W.nsIn K mainGlobals "range" = some none)
    (z_sum : PySem.W.nsIn K mainGlobals "sum" = some none)
    (z_max : PySem.W.nsIn K mainGlobals "max" = some none)
    (z_min : PySem.W.nsIn K mainGlobals "min" = some none)
    (z_list : PySem.W.nsIn K mainGlobals "list" = some none)
    (z_int : PySem.W.nsIn K mainGlobals "int" = some none)
    (z_isinstance : PySem.W.nsIn K mainGlobals "isinstance" = some none)
    (z_bool : PySem.W.nsIn K mainGlobals "bool" = some none)
    (z_str : PySem.W.nsIn K mainGlobals "str" = some none)
    (z_dict : PySem.W.nsIn K mainGlobals "dict" = some none)
    (z_abs : PySem.W.nsIn K mainGlobals "abs" = some none)
    (z_tuple : PySem.W.nsIn K mainGlobals "tuple" = some none)
    (a_cFoldError : PySem.W.nsIn K mainGlobals "FoldError" = some (some (.ref C_FoldError)))
    (q_cFoldError : PySem.W.excIn K C_FoldError [.type "ValueError", .type "Exception", .type "BaseException", .type "object"] "ValueError.__new__" = true)
    (k_cFoldError : PySem.W.keepIn K (.ref C_FoldError) = true)
    (b_cFoldError : PySem.W.subIn K (.ref C_FoldError) (.type "BaseException") = some true)
    (t_cFoldError : PySem.W.typeIn K (.ref C_FoldError) = some (.type "type"))
    (d_cFoldError : PySem.W.hasDictIn K C_FoldError = true)
    (a_cBadText : PySem.W.nsIn K mainGlobals "BadText" = some (some (.ref C_BadText)))
    (q_cBadText : PySem.W.excIn K C_BadText [.type "ValueError", .type "Exception", .type "BaseException", .type "object"] "ValueError.__new__" = true)
    (k_cBadText : PySem.W.keepIn K (.ref C_BadText) = true)
    (b_cBadText : PySem.W.subIn K (.ref C_BadText) (.type "BaseException") = some true)
    (t_cBadText : PySem.W.typeIn K (.ref C_BadText) = some (.type "type"))
    (d_cBadText : PySem.W.hasDictIn K C_BadText = true)
    (a_cByNought : PySem.W.nsIn K mainGlobals "ByNought" = some (some (.ref C_ByNought)))
    (t_cByNought : PySem.W.typeIn K (.ref C_ByNought) = some (.type "type"))
    (d_cByNought : PySem.W.hasDictIn K C_ByNought = true)
    (a_cTooGreat : PySem.W.nsIn K mainGlobals "TooGreat" = some (some (.ref C_TooGreat)))
    (t_cTooGreat : PySem.W.typeIn K (.ref C_TooGreat) = some (.type "type"))
    (d_cTooGreat : PySem.W.hasDictIn K C_TooGreat = true)
    (a_cUnset : PySem.W.nsIn K mainGlobals "Unset" = some (some (.ref C_Unset)))
    (t_cUnset : PySem.W.typeIn K (.ref C_Unset) = some (.type "type"))
    (d_cUnset : PySem.W.hasDictIn K C_Unset = true)
    (hn_class : PySem.W.specialIn K (.builtin "object.__class__") "__get__" = some (some (.builtin "getset_descriptor.__get__")))
    (ht_class : PySem.W.takesIn K (.builtin "object.__class__") = some true)
    (b_cByNought : PySem.W.subIn K (.ref C_ByNought) (.type "BaseException") = some true)
    (b_cTooGreat : PySem.W.subIn K (.ref C_TooGreat) (.type "BaseException") = some true)
    (b_cUnset : PySem.W.subIn K (.ref C_Unset) (.type "BaseException") = some true)
    (s_cByNought : PySem.W.subIn K (.ref C_ByNought) (.ref C_ByNought) = some true)
    (s_cTooGreat : PySem.W.subIn K (.ref C_TooGreat) (.ref C_TooGreat) = some true)
    (s_cUnset : PySem.W.subIn K (.ref C_Unset) (.ref C_Unset) = some true)
    (hg_BadText : PySem.W.findIn K (.ref C_BadText) "__getattribute__" = some (some (.builtin "BaseException.__getattribute__")))
    (hk_BadText : PySem.W.findIn K (.ref C_BadText) "__getattr__" = some none)
    (ha_BadText : PySem.W.findIn K (.ref C_BadText) "__class__" = some (some (.builtin "object.__class__")))
    (hm_BadText : PySem.W.mroIn K C_BadText (.type "object") = some true)
    (v_BadText : PySem.W.subIn K (.ref C_BadText) (.type "ValueError") = some true)
    (s_BadText_BadText : PySem.W.subIn K (.ref C_BadText) (.ref C_BadText) = some true)
    (s_BadText_FoldError : PySem.W.subIn K (.ref C_BadText) (.ref C_FoldError) = some true)
    (s_BadText_Unset : PySem.W.subIn K (.ref C_BadText) (.ref C_Unset) = some false)
    (s_BadText_ByNought : PySem.W.subIn K (.ref C_BadText) (.ref C_ByNought) = some false)
    (s_BadText_TooGreat : PySem.W.subIn K (.ref C_BadText) (.ref C_TooGreat) = some false)
    (z_VE : PySem.W.nsIn K mainGlobals "ValueError" = some none)
    (g_LETTERS : PySem.W.nsIn K mainGlobals "LETTERS" = some (some (.str "abcdefghijklmnopqrstuvwxyz" t1)))
    (g_FIGURES : PySem.W.nsIn K mainGlobals "FIGURES" = some (some (.str "0123456789" t2)))
    (g_LONGEST : PySem.W.nsIn K mainGlobals "LONGEST_NAME" = some (some (.int 8 t3)))
    (g_LIMIT : PySem.W.nsIn K mainGlobals "LIMIT" = some (some (.int 1000000000 t4)))
    (g_DEEPEST : PySem.W.nsIn K mainGlobals "DEEPEST" = some (some (.int 60 t5)))
    (a_PARTS : PySem.W.nsIn K mainGlobals "PARTS" = some (some (.ref dp)))
    (l_PARTS : K.lookup dp = some ⟨.type "dict", none, .dict (partsEs h1 h2 h3 h4 h5 h6 h7 h8 h9 k1 k2 k3 k4 k5 k6 k7 k8 k9 v1 v2 v3 v4 v5 v6 v7 v8 v9) np, #[]⟩)
    (kl_PARTS : PySem.W.KeysLit w.params (partsEs h1 h2 h3 h4 h5 h6 h7 h8 h9 k1 k2 k3 k4 k5 k6 k7 k8 k9 v1 v2 v3 v4 v5 v6 v7 v8 v9).toList)
    (lo_PARTS : (dp == sysModules) = false)
    (z_all : PySem.W.nsIn K mainGlobals "all" = some none)
    (q_code : cd_all_of = .ref cA) :
    ∃ fd : FuncData, (∀ (s : Shared) (v : Value), BindsTo s fd ⟨[v], []⟩ [("_law_script", v)]) ∧ ∀ base : Heap, K.In base → base.Ns mainGlobals mg → GxR.TabB base mg cA PA → FnOk l.prog w K mg base CX0 128 fa fd ["_law_script"] (spLawT K PA) := by
  have e := hfa.symm.trans (PySem.W.mg_of X G a_law)
  cases e
  have D_law_mixed := df_mk (st := sMixed) (ps := ["_law_script"]) X G a_law_mixed l_law_mixed c_law_mixed k_law_mixed fun _ _ _ _ _ _ us hl => match us, hl with | [_], _ => rfl
  have D_law_cell_at := df_mk (st := sCellAt) (ps := ["_law_script", "_law_k"]) X G a_law_cell_at l_law_cell_at c_law_cell_at k_law_cell_at fun _ _ _ _ _ _ us hl => match us, hl with | [_, _], _ => rfl
  have D_law_line_by := df_mk (st := s_law_line_by) (ps := ["_law_script"]) X G a_law_line_by l_law_line_by c_law_line_by k_law_line_by fun _ _ _ _ _ _ us hl => match us, hl with | [_], _ => rfl
  have D_law_read_right := df_mk (st := s_law_read_right) (ps := ["_law_line"]) X G a_law_read_right l_law_read_right c_law_read_right k_law_read_right fun _ _ _ _ _ _ us hl => match us, hl with | [_], _ => rfl
  have D_expression := df_mk (st := s_expression) (ps := ["text", "at", "level"]) X G a_expression l_expression c_expression k_expression fun _ _ _ _ _ _ us hl => match us, hl with | [_, _, _], _ => rfl
  have D_bracket := df_mk (st := s_bracket) (ps := ["text", "at", "level"]) X G a_bracket l_bracket c_bracket k_bracket fun _ _ _ _ _ _ us hl => match us, hl with | [_, _, _], _ => rfl
  have D_end := df_mk (st := s_end) (ps := ["text", "at"]) X G a_end l_end c_end k_end fun _ _ _ _ _ _ us hl => match us, hl with | [_, _], _ => rfl
  have D_past := df_mk (st := s_past) (ps := ["text", "at", "sign"]) X G a_past l_past c_past k_past fun _ _ _ _ _ _ us hl => match us, hl with | [_, _, _], _ => rfl
  have D_plain := df_mk (st := s_plain) (ps := ["piece"]) X G a_plain l_plain c_plain k_plain fun _ _ _ _ _ _ us hl => match us, hl with | [_], _ => rfl
  have D_name := df_mk (st := s_name) (ps := ["piece"]) X G a_name l_name c_name k_name fun _ _ _ _ _ _ us hl => match us, hl with | [_], _ => rfl
  have D_number := df_mk (st := s_number) (ps := ["piece"]) X G a_number l_number c_number k_number fun _ _ _ _ _ _ us hl => match us, hl with | [_], _ => rfl
  have D_all_of := df_mk (st := s_all_of) (ps := ["piece", "signs"]) X G a_all_of l_all_of c_all_of k_all_of fun _ _ _ _ _ _ us hl => match us, hl with | [_, _], _ => rfl
  have D_read := df_mk (st := s_read) (ps := ["text"]) X G a_read l_read c_read k_read fun _ _ _ _ _ _ us hl => match us, hl with | [_], _ => rfl
  have D_law_read := df_mk (st := s_law_read) (ps := ["_law_line", "_law_at", "_law_room"]) X G a_law_read l_law_read c_law_read k_law_read fun _ _ _ _ _ _ us hl => match us, hl with | [_, _, _], _ => rfl
  have D_law_end := df_mk (st := s_law_end) (ps := ["_law_line", "_law_at"]) X G a_law_end l_law_end c_law_end k_law_end fun _ _ _ _ _ _ us hl => match us, hl with | [_, _], _ => rfl
  have D_law_atom := df_mk (st := s_law_atom) (ps := ["_law_word"]) X G a_law_atom l_law_atom c_law_atom k_law_atom fun _ _ _ _ _ _ us hl => match us, hl with | [_], _ => rfl
  have D_law_head := df_mk (st := s_law_head) (ps := ["_law_line", "_law_at"]) X G a_law_head l_law_head c_law_head k_law_head fun _ _ _ _ _ _ us hl => match us, hl with | [_, _], _ => rfl
  have D_law_is_name := df_mk (st := s_law_is_name) (ps := ["_law_word"]) X G a_law_is_name l_law_is_name c_law_is_name k_law_is_name fun _ _ _ _ _ _ us hl => match us, hl with | [_], _ => rfl
  have D_law_due_of := df_mk (st := s_law_due_of) (ps := ["_law_line"]) X G a_law_due_of l_law_due_of c_law_due_of k_law_due_of fun _ _ _ _ _ _ us hl => match us, hl with | [_], _ => rfl
  have D_law_refused_by_any := df_mk (st := s_law_refused_by_any) (ps := ["_law_line"]) X G a_law_refused_by_any l_law_refused_by_any c_law_refused_by_any k_law_refused_by_any fun _ _ _ _ _ _ us hl => match us, hl with | [_], _ => rfl
  have D_law_is_expr := df_mk (st := s_law_is_expr) (ps := ["_law_expr"]) X G a_law_is_expr l_law_is_expr c_law_is_expr k_law_is_expr fun _ _ _ _ _ _ us hl => match us, hl with | [_], _ => rfl
  have D_law_whole := df_mk (st := sWhole) (ps := ["_law_found"]) X G a_law_whole l_law_whole c_law_whole k_law_whole fun _ _ _ _ _ _ us hl => match us, hl with | [_], _ => rfl
  have D_law_odd := df_mk (st := s_law_odd) (ps := ["_law_k"]) X G a_law_odd l_law_odd c_law_odd k_law_odd fun _ _ _ _ _ _ us hl => match us, hl with | [_], _ => rfl
  have D_law_nested := df_mk (st := s_law_nested) (ps := ["_law_cell"]) X G a_law_nested l_law_nested c_law_nested k_law_nested fun _ _ _ _ _ _ us hl => match us, hl with | [_], _ => rfl
  have D_law_long := df_mk (st := s_law_long) (ps := ["_law_cell"]) X G a_law_long l_law_long c_law_long k_law_long fun _ _ _ _ _ _ us hl => match us, hl with | [_], _ => rfl
  have D_law_mended := df_mk (st := s_law_mended) (ps := ["_law_line", "_law_cell"]) X G a_law_mended l_law_mended c_law_mended k_law_mended fun _ _ _ _ _ _ us hl => match us, hl with | [_, _], _ => rfl
  have D_law_shown := df_mk (st := s_law_shown) (ps := ["_law_expr"]) X G a_law_shown l_law_shown c_law_shown k_law_shown fun _ _ _ _ _ _ us hl => match us, hl with | [_], _ => rfl
  have D_law_tree_by := df_mk (st := sTreeBy) (ps := ["_law_cells", "_law_seed"]) X G a_law_tree_by l_law_tree_by c_law_tree_by k_law_tree_by fun _ _ _ _ _ _ us hl => match us, hl with | [_, _], _ => rfl
  have D_law_step := df_mk (st := sStep) (ps := ["_law_pile", "_law_kind", "_law_more", "_law_seed"]) X G a_law_step l_law_step c_law_step k_law_step fun _ _ _ _ _ _ us hl => match us, hl with | [_, _, _, _], _ => rfl
  have D_law_name_by := df_mk (st := sNameBy) (ps := ["_law_seed", "_law_k"]) X G a_law_name_by l_law_name_by c_law_name_by k_law_name_by fun _ _ _ _ _ _ us hl => match us, hl with | [_, _], _ => rfl
  have D_law_number_by := df_mk (st := sNumBy) (ps := ["_law_cell"]) X G a_law_number_by l_law_number_by c_law_number_by k_law_number_by fun _ _ _ _ _ _ us hl => match us, hl with | [_], _ => rfl
  have D_law := df_mk (st := sLaw) (ps := ["_law_script"]) X G a_law l_law c_law k_law fun _ _ _ _ _ _ us hl => match us, hl with | [_], _ => rfl
  have z : Bl2 mg := ⟨⟨PySem.W.mg_none_of X G z_len, PySem.W.mg_none_of X G z_range, PySem.W.mg_none_of X G z_sum, PySem.W.mg_none_of X G z_max, PySem.W.mg_none_of X G z_min, PySem.W.mg_none_of X G z_list, PySem.W.mg_none_of X G z_int, PySem.W.mg_none_of X G z_isinstance, PySem.W.mg_none_of X G z_bool, PySem.W.mg_none_of X G z_str⟩, PySem.W.mg_none_of X G z_dict, PySem.W.mg_none_of X G z_abs, PySem.W.mg_none_of X G z_tuple⟩
  have E_FoldError : Ecls K mg "FoldError" C_FoldError := ⟨PySem.W.mg_of X G a_cFoldError, q_cFoldError, k_cFoldError, b_cFoldError, t_cFoldError, d_cFoldError⟩
  have E_BadText : Ecls K mg "BadText" C_BadText := ⟨PySem.W.mg_of X G a_cBadText, q_cBadText, k_cBadText, b_cBadText, t_cBadText, d_cBadText⟩
  have O_ByNought : Cls0 K mg "ByNought" C_ByNought := ⟨PySem.W.mg_of X G a_cByNought, d_cByNought, t_cByNought, s_cByNought, b_cByNought⟩
  have O_TooGreat : Cls0 K mg "TooGreat" C_TooGreat := ⟨PySem.W.mg_of X G a_cTooGreat, d_cTooGreat, t_cTooGreat, s_cTooGreat, b_cTooGreat⟩
  have O_Unset : Cls0 K mg "Unset" C_Unset := ⟨PySem.W.mg_of X G a_cUnset, d_cUnset, t_cUnset, s_cUnset, b_cUnset⟩
  have X_BadText : ExcC K C_BadText := ⟨hg_BadText, hk_BadText, b_cBadText, d_cBadText, ha_BadText, hn_class, ht_class, hm_BadText⟩
  have zVE := PySem.W.mg_none_of X G z_VE
  have gt : Gtx mg t1 t2 t3 t4 t5 := ⟨PySem.W.mg_of X G g_LETTERS, PySem.W.mg_of X G g_FIGURES, PySem.W.mg_of X G g_LONGEST, PySem.W.mg_of X G g_LIMIT, PySem.W.mg_of X G g_DEEPEST⟩
  have kp := kparts (w := w) (PySem.W.mg_of X G a_PARTS) l_PARTS kl_PARTS lo_PARTS
  refine ⟨PySem.W.fnOf "law" "law" (defArgs sLaw) (defBody sLaw) (defScope sLaw) .none kV_law dc_law pm_law an_law cd_law ct_law, fun s v => .of_eq rfl, fun base XB GB TB => ?_⟩
  have RD : RDs K w mg base C_BadText PA cA dp _ np t1 t2 t3 t4 t5 _ _ _ _ _ _ _ _ _ _ _ _ _ _ _ _ := ⟨D_expression, D_bracket, D_end, D_past, D_plain, D_name, D_number, D_all_of, q_code, TB, z, PySem.W.mg_none_of X G z_all, PySem.W.mg_none_of X G z_tuple, gt, kp, E_BadText⟩
  have KK : KZ K mg C_Unset C_ByNought C_TooGreat C_BadText C_FoldError := ⟨O_Unset, O_ByNought, O_TooGreat, E_BadText, E_FoldError, X_BadText, s_BadText_BadText, s_BadText_FoldError, s_BadText_Unset, s_BadText_ByNought, s_BadText_TooGreat, v_BadText⟩
  have RE := ok_read (P := l.prog) (w := w) (base := base) D_read RD
  have LR := all_lread (P := l.prog) (w := w) (base := base) D_law_read z D_law_end D_law_atom D_law_head D_law_is_name 60
  have DU := ok_dueOf (P := l.prog) (w := w) (base := base) D_law_due_of z D_law_read LR
  have RF := ok_refused (P := l.prog) (w := w) (base := base) D_law_refused_by_any z zVE KK D_read RE
  have RR := ok_right (P := l.prog) (w := w) (base := base) D_law_read_right z KK D_read RE D_law_due_of DU D_law_refused_by_any RF D_law_is_expr (all_isExpr D_law_is_expr z D_law_is_name D_law_whole 100)
  have CA := ok_cellAt (P := l.prog) (w := w) (base := base) (K := K) D_law_cell_at z.toBl
  have LB := ok_lineBy (P := l.prog) (w := w) (base := base) D_law_line_by z D_law_cell_at CA D_law_odd (ok_odd D_law_odd z) D_law_nested (ok_nested D_law_nested z) D_law_long (ok_long D_law_long z) D_law_mended (ok_mended D_law_mended z) D_law_shown (all_lshown D_law_shown z 60) D_law_tree_by (ok_treeBy D_law_tree_by z.toBl D_law_step D_law_name_by D_law_number_by)
  exact ok_law07 D_law z D_law_mixed (ok_mixed D_law_mixed) D_law_cell_at CA D_law_line_by LB D_law_read_right RR
end FC
open PySem PySem.W PyProof.Rows
set_option maxRecDepth 100000 in
set_option maxHeartbeats 0 in
theorem PySem.Challenge.cw_foldercode_k07_read_holds : PySem.Challenge.rw_foldercode_k07_read.Holds := by
  w_on; o_law; k_head; (case hw => w_witness2)
  k_fill
  refine' FC.walkT (l := PySem.Challenge.rw_foldercode_k07_read) (k := 128) (d2 := ?d2) (cA := ?cA) (PA := ?PA) rfl rfl (fun w h Y => PySem.W.kIn_of Y) ⟨rfl, by decide, by decide⟩ ?hr ?ht ?nT ?F
  (case hr => rfl)
  (case ht => intro w; refine' FC.tabIn_of ?ta ?tl ?tc ?tlc ?thv; (case ta => k_is); (case tl => k_is); (case tc => rfl); (case tlc => k_is); (case thv => rfl))
  (case nT => intro w; first | rfl | kernel_rfl)
  case F =>
    intro w mg fa h KX G hmg
    refine' FC.all_mk KX G hmg ?a_law_mixed ?l_law_mixed ?c_law_mixed ?k_law_mixed ?a_law_cell_at ?l_law_cell_at ?c_law_cell_at ?k_law_cell_at ?a_law_line_by ?l_law_line_by ?c_law_line_by ?k_law_line_by ?a_law_read_right ?l_law_read_right ?c_law_read_right ?k_law_read_right ?a_expression ?l_expression ?c_expression ?k_expression ?a_bracket ?l_bracket ?c_bracket ?k_bracket ?a_end ?l_end ?c_end ?k_end ?a_past ?l_past ?c_past ?k_past ?a_plain ?l_plain ?c_plain ?k_plain ?a_name ?l_name ?c_name ?k_name ?a_number ?l_number ?c_number ?k_number ?a_all_of ?l_all_of ?c_all_of ?k_all_of ?a_read ?l_read ?c_read ?k_read ?a_law_read ?l_law_read ?c_law_read ?k_law_read ?a_law_end ?l_law_end ?c_law_end ?k_law_end ?a_law_atom ?l_law_atom ?c_law_atom ?k_law_atom ?a_law_head ?l_law_head ?c_law_head ?k_law_head ?a_law_is_name ?l_law_is_name ?c_law_is_name ?k_law_is_name ?a_law_due_of ?l_law_due_of ?c_law_due_of ?k_law_due_of ?a_law_refused_by_any ?l_law_refused_by_any ?c_law_refused_by_any ?k_law_refused_by_any ?a_law_is_expr ?l_law_is_expr ?c_law_is_expr ?k_law_is_expr ?a_law_whole ?l_law_whole ?c_law_whole ?k_law_whole ?a_law_odd ?l_law_odd ?c_law_odd ?k_law_odd ?a_law_nested ?l_law_nested ?c_law_nested ?k_law_nested ?a_law_long ?l_law_long ?c_law_long ?k_law_long ?a_law_mended ?l_law_mended ?c_law_mended ?k_law_mended ?a_law_shown ?l_law_shown ?c_law_shown ?k_law_shown ?a_law_tree_by ?l_law_tree_by ?c_law_tree_by ?k_law_tree_by ?a_law_step ?l_law_step ?c_law_step ?k_law_step ?a_law_name_by ?l_law_name_by ?c_law_name_by ?k_law_name_by ?a_law_number_by ?l_law_number_by ?c_law_number_by ?k_law_number_by ?a_law ?l_law ?c_law ?k_law ?z_len ?z_range ?z_sum ?z_max ?z_min ?z_list ?z_int ?z_isinstance ?z_bool ?z_str ?z_dict ?z_abs ?z_tuple ?a_cFoldError ?q_cFoldError ?k_cFoldError ?b_cFoldError ?t_cFoldError ?d_cFoldError ?a_cBadText ?q_cBadText ?k_cBadText ?b_cBadText ?t_cBadText ?d_cBadText ?a_cByNought ?t_cByNought ?d_cByNought ?a_cTooGreat ?t_cTooGreat ?d_cTooGreat ?a_cUnset ?t_cUnset ?d_cUnset ?hn_class ?ht_class ?b_cByNought ?b_cTooGreat ?b_cUnset ?s_cByNought ?s_cTooGreat ?s_cUnset ?hg_BadText ?hk_BadText ?ha_BadText ?hm_BadText ?v_BadText ?s_BadText_BadText ?s_BadText_FoldError ?s_BadText_Unset ?s_BadText_ByNought ?s_BadText_TooGreat ?z_VE ?g_LETTERS ?g_FIGURES ?g_LONGEST ?g_LIMIT ?g_DEEPEST ?a_PARTS ?l_PARTS ?kl_PARTS ?lo_PARTS ?z_all ?q_code
    (case a_law_mixed => k_is)
    (case l_law_mixed => k_is)
    (case c_law_mixed => k_is)
    (case k_law_mixed => k_is)
    (case a_law_cell_at => k_is)
    (case l_law_cell_at => k_is)
    (case c_law_cell_at => k_is)
    (case k_law_cell_at => k_is)
    (case a_law_line_by => k_is)
    (case l_law_line_by => k_is)
    (case c_law_line_by => k_is)
    (case k_law_line_by => k_is)
    (case a_law_read_right => k_is)
    (case l_law_read_right => k_is)
    (case c_law_read_right => k_is)
    (case k_law_read_right => k_is)
    (case a_expression => k_is)
    (case l_expression => k_is)
    (case c_expression => k_is)
    (case k_expression => k_is)
    (case a_bracket => k_is)
    (case l_bracket => k_is)
    (case c_bracket => k_is)
    (case k_bracket => k_is)
    (case a_end => k_is)
    (case l_end => k_is)
    (case c_end => k_is)
    (case k_end => k_is)
    (case a_past => k_is)
    (case l_past => k_is)
    (case c_past => k_is)
    (case k_past => k_is)
    (case a_plain => k_is)
    (case l_plain => k_is)
    (case c_plain => k_is)
    (case k_plain => k_is)
    (case a_name => k_is)
    (case l_name => k_is)
    (case c_name => k_is)
    (case k_name => k_is)
    (case a_number => k_is)
    (case l_number => k_is)
    (case c_number => k_is)
    (case k_number => k_is)
    (case a_all_of => k_is)
    (case l_all_of => k_is)
    (case c_all_of => k_is)
    (case k_all_of => k_is)
    (case a_read => k_is)
    (case l_read => k_is)
    (case c_read => k_is)
    (case k_read => k_is)
    (case a_law_read => k_is)
    (case l_law_read => k_is)
    (case c_law_read => k_is)
    (case k_law_read => k_is)
    (case a_law_end => k_is)
    (case l_law_end => k_is)
    (case c_law_end => k_is)
    (case k_law_end => k_is)
    (case a_law_atom => k_is)
    (case l_law_atom => k_is)
    (case c_law_atom => k_is)
    (case k_law_atom => k_is)
    (case a_law_head => k_is)
    (case l_law_head => k_is)
    (case c_law_head => k_is)
    (case k_law_head => k_is)
    (case a_law_is_name => k_is)
    (case l_law_is_name => k_is)
    (case c_law_is_name => k_is)
    (case k_law_is_name => k_is)
    (case a_law_due_of => k_is)
    (case l_law_due_of => k_is)
    (case c_law_due_of => k_is)
    (case k_law_due_of => k_is)
    (case a_law_refused_by_any => k_is)
    (case l_law_refused_by_any => k_is)
    (case c_law_refused_by_any => k_is)
    (case k_law_refused_by_any => k_is)
    (case a_law_is_expr => k_is)
    (case l_law_is_expr => k_is)
    (case c_law_is_expr => k_is)
    (case k_law_is_expr => k_is)
    (case a_law_whole => k_is)
    (case l_law_whole => k_is)
    (case c_law_whole => k_is)
    (case k_law_whole => k_is)
    (case a_law_odd => k_is)
    (case l_law_odd => k_is)
    (case c_law_odd => k_is)
    (case k_law_odd => k_is)
    (case a_law_nested => k_is)
    (case l_law_nested => k_is)
    (case c_law_nested => k_is)
    (case k_law_nested => k_is)
    (case a_law_long => k_is)
    (case l_law_long => k_is)
    (case c_law_long => k_is)
    (case k_law_long => k_is)
    (case a_law_mended => k_is)
    (case l_law_mended => k_is)
    (case c_law_mended => k_is)
    (case k_law_mended => k_is)
    (case a_law_shown => k_is)
    (case l_law_shown => k_is)
    (case c_law_shown => k_is)
    (case k_law_shown => k_is)
    (case a_law_tree_by => k_is)
    (case l_law_tree_by => k_is)
    (case c_law_tree_by => k_is)
    (case k_law_tree_by => k_is)
    (case a_law_step => k_is)
    (case l_law_step => k_is)
    (case c_law_step => k_is)
    (case k_law_step => k_is)
    (case a_law_name_by => k_is)
    (case l_law_name_by => k_is)
    (case c_law_name_by => k_is)
    (case k_law_name_by => k_is)
    (case a_law_number_by => k_is)
    (case l_law_number_by => k_is)
    (case c_law_number_by => k_is)
    (case k_law_number_by => k_is)
    (case a_law => k_is)
    (case l_law => k_is)
    (case c_law => k_is)
    (case k_law => k_is)
    (case z_len => k_is)
    (case z_range => k_is)
    (case z_sum => k_is)
    (case z_max => k_is)
    (case z_min => k_is)
    (case z_list => k_is)
    (case z_int => k_is)
    (case z_isinstance => k_is)
    (case z_bool => k_is)
    (case z_str => k_is)
    (case z_dict => k_is)
    (case z_abs => k_is)
    (case z_tuple => k_is)
    (case a_cFoldError => k_is)
    (case q_cFoldError => k_exc)
    (case k_cFoldError => k_is)
    (case b_cFoldError => k_is)
    (case t_cFoldError => k_is)
    (case d_cFoldError => k_is)
    (case a_cBadText => k_is)
    (case q_cBadText => k_exc)
    (case k_cBadText => k_is)
    (case b_cBadText => k_is)
    (case t_cBadText => k_is)
    (case d_cBadText => k_is)
    (case a_cByNought => k_is)
    (case t_cByNought => k_is)
    (case d_cByNought => k_is)
    (case a_cTooGreat => k_is)
    (case t_cTooGreat => k_is)
    (case d_cTooGreat => k_is)
    (case a_cUnset => k_is)
    (case t_cUnset => k_is)
    (case d_cUnset => k_is)
    (case hn_class => k_is)
    (case ht_class => k_is)
    (case b_cByNought => k_is)
    (case b_cTooGreat => k_is)
    (case b_cUnset => k_is)
    (case s_cByNought => k_is)
    (case s_cTooGreat => k_is)
    (case s_cUnset => k_is)
    (case hg_BadText => k_is)
    (case hk_BadText => k_is)
    (case ha_BadText => k_is)
    (case hm_BadText => k_is)
    (case v_BadText => k_is)
    (case s_BadText_BadText => k_is)
    (case s_BadText_FoldError => k_is)
    (case s_BadText_Unset => k_is)
    (case s_BadText_ByNought => k_is)
    (case s_BadText_TooGreat => k_is)
    (case z_VE => k_is)
    (case g_LETTERS => k_is)
    (case g_FIGURES => k_is)
    (case g_LONGEST => k_is)
    (case g_LIMIT => k_is)
    (case g_DEEPEST => k_is)
    (case a_PARTS => k_is)
    (case l_PARTS => k_is)
    (case kl_PARTS => exact ⟨⟨_, _, rfl, rfl⟩, ⟨_, _, rfl, rfl⟩, ⟨_, _, rfl, rfl⟩, ⟨_, _, rfl, rfl⟩, ⟨_, _, rfl, rfl⟩, ⟨_, _, rfl, rfl⟩, ⟨_, _, rfl, rfl⟩, ⟨_, _, rfl, rfl⟩, ⟨_, _, rfl, rfl⟩, trivial⟩)
    (case lo_PARTS => rfl)
    (case z_all => k_is)
    (case q_code => rfl)
