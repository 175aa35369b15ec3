import PyProof.Rows.All
import Wide.All
import OpenK.AllK
import Wide.FinOn
import Open.SpecLaws
import KE.OsGo
import HandS.ForSpec
import HandS.Comp
import HandS.Dict
import HandS.WordsDict
import HandS.Rev
import HandS.Iter
import HandS.TupSets
import HandS.Deep
import HandS.SetFor
import KE.GoesEnumKw
import KE.DataMinMax
import KE.SortData
import PySem.Challenge.RW_raylayers_s01_answers
section
set_option Elab.async false
set_option linter.all false
set_option maxRecDepth 100000
set_option maxHeartbeats 2000000
/-! Rules that the layer lacks: xs[i] += e of a list; a dict of the top whose keys are whole numbers; a call of what such a dict holds. -/
namespace Ray
open PySem PySem.Spec PyProof.Rows L2
section
variable {X : Cx}
/-- xs[i] as xs[i] op= e reads it, 0 ≤ i -/
def rGetL (K : PySem.W.Frag) : V → V → Hp → VK → Prop := fun x y H Q => ∃ (p : Addr) (xs : List V) (i : Nat) (v : V), x = .ref p ∧ y = .int (i : Int) ∧ SqL K H p xs ∧ xs[i]? = some v ∧ Q v H
theorem get_list : PGet X (rGetL X.K) := by
  rintro pins s σ H x y v u Q inv rx ry ⟨p, xs, i, z, rfl, rfl, hq, he, q⟩
  cases rx
  obtain ⟨t, rfl⟩ := ry
  obtain ⟨its, r, pl, short⟩ := inv.list hq
  obtain ⟨w, ew, rw'⟩ := r.get he
  have hl := r.length
  have hn := line63
  have hlt := (List.getElem?_eq_some_iff.mp he).1
  exact wpAny_getItem_list pl.isList (by omega) (by omega) (by simpa using ew) ⟨z, H, inv, rw', q⟩
/-! ### a dict of the top, its keys whole numbers -/
def tabIn : List DictEntry → Option (List (Int × Value))
  | [] => some []
  | e :: r => match e.key with
    | .int i _ => if e.hash = hashInt i then (tabIn r).map fun l => (i, e.val) :: l else none
    | _ => none
theorem tabIn_keys : ∀ {es : List DictEntry} {l : List (Int × Value)}, tabIn es = some l → ∀ e ∈ es, ∃ i t, e.key = .int i t ∧ e.hash = hashInt i
  | [], l, _, e, he => by cases he
  | e :: r, l, h, e', he => by
    unfold tabIn at h
    split at h
    · rename_i i t hk
      split at h
      · rename_i hh
        cases hr : tabIn r with
        | none => rw [hr] at h; cases h
        | some l' =>
          rcases List.mem_cons.mp he with rfl | there
          · exact ⟨i, t, hk, hh⟩
          · exact tabIn_keys hr e' there
      · cases h
    · cases h
theorem tabIn_find : ∀ {es : List DictEntry} {l : List (Int × Value)}, tabIn es = some l → ∀ k : Int, (es.find? fun e => Value.isInt k e.key).map (·.val) = l.lookup k
  | [], l, h, k => by cases (Option.some.inj h); rfl
  | e :: r, l, h, k => by
    unfold tabIn at h
    split at h
    · rename_i i t hk
      split at h
      · cases hr : tabIn r with
        | none => rw [hr] at h; cases h
        | some l' =>
          rw [hr] at h
          have h := Option.some.inj h
          subst h
          have ih := tabIn_find hr k
          by_cases hik : k = i
          · subst hik
            have e1 : Value.isInt k e.key = true := by rw [hk]; simp [Value.isInt]
            simp [List.find?_cons, e1, List.lookup]
          · have e1 : ¬ Value.isInt k e.key = true := by
              rw [hk]
              simp only [Value.isInt]
              intro q
              simp at q
              exact hik q.symm
            have e2 : (k == i) = false := by simp [hik]
            have e3 : Value.isInt k e.key = false := by simpa using e1
            simp [List.find?_cons, e3, List.lookup, e2, ih]
      · cases h
    · cases h
structure Tab (K : PySem.W.Frag) (d : Addr) (l : List (Int × Value)) : Prop where
  ex : ∃ (es : Array DictEntry) (n : Nat), K.lookup d = some ⟨.type "dict", none, .dict es n, #[]⟩ ∧ tabIn es.toList = some l
  notSys : (d == sysModules) = false
theorem Tab.mapOf {K : PySem.W.Frag} {h : Heap} {d : Addr} {l : List (Int × Value)} {P : Program} {w : World} (T : Tab K d l) (hK : K.In h) : h.MapOf (intKind P w) d (fun k => l.lookup k) := by
  obtain ⟨es, n, hl, ht⟩ := T.ex
  refine ⟨_, es, n, hK _ _ hl, ⟨rfl, rfl, rfl⟩, rfl, fun e he => ?_, fun k => ?_⟩
  · obtain ⟨i, t, e1, e2⟩ := tabIn_keys ht e (Array.mem_toList_iff.mpr he)
    exact ⟨i, by rw [e1]; exact intKind_is P w i t, e2⟩
  · have q := tabIn_find ht k
    show (findBy Value.isInt es k) = l.lookup k
    rw [← q]
    obtain ⟨es'⟩ := es
    unfold findBy
    rw [List.find?_toArray]
/-- d[k], there -/
theorem ix_tab {d : Addr} {l : List (Int × Value)} (T : Tab X.K d l) : IxR X (fun x y H Q => ∃ (k : Int) (u0 : Value) (v0 : V), x = .ref d ∧ y = .int k ∧ l.lookup k = some u0 ∧ RelV v0 u0 ∧ Q v0 H) := by
  rintro value slice pins s σ H x y v u Q I rx ry ⟨k, u0, v0, rfl, rfl, e, r, q⟩ hs
  obtain rfl : v = Value.ref d := rx
  obtain ⟨t, rfl⟩ := ry
  have hm := T.mapOf (P := X.prog) (w := X.w) I.kIn
  exact tail_any hm.typeIs slot_dict_getitem.lookup (wpAny_getItem_of (intKind_is X.prog X.w k t) hm e ⟨v0, H, I.tok _, r, q⟩) hs
/-- d.get(k, z) -/
def tGetTab (d : Addr) (l : List (Int × Value)) (td ty tx : TE) : TE := fun σ H Q => td σ H fun x H1 => x = .ref d ∧ ty σ H1 fun y H2 => tx σ H2 fun z H3 => ∃ (k : Int) (v0 : V), y = .int k ∧ ((l.lookup k = none ∧ v0 = z) ∨ ∃ u0, l.lookup k = some u0 ∧ RelV v0 u0) ∧ Q v0 H3
theorem pe_getTab {d : Addr} {l : List (Int × Value)} {o e f : Expr} {td ty tx : TE} {apos cpos : Pos} (T : Tab X.K d l) (ho : PE X o td) (he : PE X e ty) (hf : PE X f tx) (m : M2 X o "get" apos e f cpos) :
    PE X (.Call (.Attribute o "get" apos) [e, f] [] cpos) (tGetTab d l td ty tx) := by
  refine ⟨fun pins s σ H Q I h => ?_⟩
  refine wpAny_Call_method m.base m.few m.line PySem.F.plainAttrs_dict PySem.F.slot_dict_get PySem.F.type_dict_get (thn (ho.run pins s σ H _ I h) fun u s1 ⟨x, H1, I1, rx, ex, q1⟩ => ?_)
  subst ex
  cases (show u = Value.ref d from rx)
  have hm := T.mapOf (P := X.prog) (w := X.w) I1.kIn
  refine ⟨hm.typeIs, hm.noDict, ?_⟩
  rw [m.trees]
  refine wpAny_dict_get2 (knd := intKind X.prog X.w) T.notSys (thn (he.run pins s1 σ H1 _ I1 q1) fun iv s2 ⟨y, H2, I2, ry, q2⟩ => thn (hf.run pins s2 σ H2 _ I2 q2) fun fv s3 ⟨z, H3, I3, rz, k, v0, ey, hv, q3⟩ => ?_)
  subst ey
  obtain ⟨t, rfl⟩ := ry
  refine ⟨k, _, intKind_is X.prog X.w k t, T.mapOf (P := X.prog) (w := X.w) I3.kIn, v0, H3, I3.tok _, ?_, q3⟩
  rcases hv with ⟨e1, rfl⟩ | ⟨u0, e1, r⟩
  · rw [e1]; exact rz
  · rw [e1]; exact r
/-! ### a call of what an index gives -/
/-- the callee's value is one of several defs: the promise goes with the address -/
structure HeldAt (P : Program) (w : World) (K : PySem.W.Frag) (mg : Str → Option Value) (base : Heap) (k : Nat) (f : Addr) (sp : Sp) : Prop where
  does : ∃ (fd : FuncData) (ps : List Str), PySem.W.keepIn K (.ref f) = true ∧ Binds K fd ps [] ∧ FnOk P w K mg base CX0 k f fd ps sp
def tCallIx (P : Program) (w : World) (K : PySem.W.Frag) (mg : Str → Option Value) (base : Heap) (k : Nat) (tf : TE) (t : TA) : TE := fun σ H Q => tf σ H fun v H0 => ∃ f sp, v = .ref f ∧ HeldAt P w K mg base k f sp ∧ t σ H0 fun vs H1 => sp vs H1 Q E0
theorem pe_callIx {k : Nat} {o i e : Expr} {es : List Expr} {ipos pos : Pos} {tf : TE} {t : TA} (hr : Room k X.A) (hf : PE X (.Subscript o i ipos) tf) (ha : PA X (e :: es) t)
    (plain1 : starEach (e :: es) X.env = (false, eval e X.env) :: starEach es X.env := by rfl) (plain2 : (backTo pos (starEach es X.env)).any (·.1) = false := by rfl) :
    PE X (.Call (.Subscript o i ipos) (e :: es) [] pos) (tCallIx X.prog X.w X.K X.mg X.base k tf t) := by
  refine ⟨fun pins s σ H Q I h => ?_⟩
  have arm : eval (.Call (.Subscript o i ipos) (e :: es) [] pos) X.env = (do callWith pos (← eval (.Subscript o i ipos) X.env) [] (backTo pos (starEach (e :: es) X.env)) (backToKw pos (keywordEach [] X.env))) := rfl
  rw [arm]
  refine wpAny_bind (thn (hf.run pins s σ H _ I h) fun u s1 ⟨v, H1, I1, r1, f, sp, ev, hA, ht⟩ => ?_)
  subst ev
  cases r1
  obtain ⟨fd, ps, kept, bound, ok⟩ := hA.does
  refine PySem.W.callWith_K (h₀ := X.base) I.ok.mod.kin kept ?_ plain1 plain2
  refine thn (ha.run pos pins s1 σ _ _ I1 ht) fun us s2 ⟨vs, H2, I2, r, q⟩ => ⟨I2.kIn, run_fn (dvs := []) ok hr bound .nil pass0 I2 r ?_⟩
  rw [List.append_nil]; exact q
end
end Ray
end
section
set_option autoImplicit false
namespace Ray
open Kqi6
/-! ### sums -/
theorem sum_fold : ∀ (w : List Nat) (a : Nat), w.foldl (fun a x => a + gain x) a = a + Kqi6.sum w
  | [], a => by simp [Kqi6.sum]
  | x :: r, a => by
    have h1 := sum_fold r (a + gain x)
    have h2 := sum_fold r (0 + gain x)
    show r.foldl _ (a + gain x) = a + r.foldl _ (0 + gain x)
    rw [h1, h2]; omega
theorem sum_nil : Kqi6.sum [] = 0 := rfl
theorem sum_cons (x : Nat) (r : List Nat) : Kqi6.sum (x :: r) = gain x + Kqi6.sum r := by
  show r.foldl _ (0 + gain x) = _
  rw [sum_fold]; omega
theorem sum_append (v w : List Nat) : Kqi6.sum (v ++ w) = Kqi6.sum v + Kqi6.sum w := by
  induction v with
  | nil => simp [sum_nil]
  | cons x r ih => rw [List.cons_append, sum_cons, ih, sum_cons]; omega
theorem take_more {α : Type} : ∀ {l : List α} {i : Nat} {x : α}, l[i]? = some x → l.take (i + 1) = l.take i ++ [x]
  | [], i, x, h => by simp at h
  | a :: l, 0, x, h => by
    have e : a = x := Option.some.inj h
    subst e
    rfl
  | a :: l, i + 1, x, h => by
    have ih := take_more (l := l) (i := i) (x := x) h
    show a :: l.take (i + 1) = a :: l.take i ++ [x]
    rw [ih]
    rfl
/-! ### positions -/
def plc (w : List Nat) (i : Nat) : Nat := Kqi6.sum (w.take i) % 3
def plcs (w : List Nat) (i : Nat) : List Nat := (List.range (i + 1)).map (plc w)
theorem plc_zero (w : List Nat) : plc w 0 = 0 := by simp [plc, sum_nil]
theorem plc_lt (w : List Nat) (i : Nat) : plc w i < 3 := Nat.mod_lt _ (by decide)
theorem plc_succ {w : List Nat} {i x : Nat} (h : w[i]? = some x) : plc w (i + 1) = (plc w i + gain x) % 3 := by
  unfold plc
  rw [take_more h, sum_append, sum_cons, sum_nil]; omega
theorem plcs_zero (w : List Nat) : plcs w 0 = [0] := by simp [plcs, plc_zero]
theorem plcs_succ (w : List Nat) (i : Nat) : plcs w (i + 1) = plcs w i ++ [plc w (i + 1)] := by
  unfold plcs
  rw [List.range_succ, List.map_append]; rfl
theorem plcs_length (w : List Nat) (i : Nat) : (plcs w i).length = i + 1 := by simp [plcs]
theorem plcs_get {w : List Nat} {i j : Nat} (h : j ≤ i) : (plcs w i)[j]? = some (plc w j) := by
  unfold plcs
  rw [List.getElem?_map, List.getElem?_range (by omega)]; rfl
theorem plc_full (w : List Nat) : plc w w.length = net w := by simp [plc, net]
theorem closes_iff (w : List Nat) : closes w = (plc w w.length == 0) := by rw [plc_full]; rfl
theorem position_closed {w : List Nat} (hc : closes w = true) (j : Nat) : position w j = plc w (j % w.length) := by
  have hn : net w = 0 := by simpa [closes] using hc
  unfold position plc
  rw [hn]; simp
/-! ### pairs -/
def dif (w : List Nat) (d j : Nat) : Nat := (plc w ((j + d) % w.length) + 3 - plc w j) % 3
def cnt (w : List Nat) (d g i : Nat) : Nat := ((List.range i).filter fun j => dif w d j == g).length
theorem dif_lt (w : List Nat) (d j : Nat) : dif w d j < 3 := Nat.mod_lt _ (by decide)
theorem cnt_zero (w : List Nat) (d g : Nat) : cnt w d g 0 = 0 := rfl
theorem cnt_succ (w : List Nat) (d g i : Nat) : cnt w d g (i + 1) = cnt w d g i + if dif w d i = g then 1 else 0 := by
  unfold cnt
  rw [List.range_succ, List.filter_append, List.length_append]
  by_cases h : dif w d i = g <;> simp [h]
theorem cnt_le (w : List Nat) (d g i : Nat) : cnt w d g i ≤ i := by
  unfold cnt
  have := List.length_filter_le (fun j => dif w d j == g) (List.range i)
  simpa using this
theorem apart_eq {w : List Nat} (hc : closes w = true) (d g : Nat) : apart w d g = cnt w d g w.length := by
  unfold apart cnt
  congr 1
  apply List.filter_congr
  intro j hj
  have hj' : j < w.length := by simpa using hj
  rw [position_closed hc, position_closed hc, Nat.mod_eq_of_lt hj']
  rfl
theorem apart_self {w : List Nat} (hc : closes w = true) : apart w w.length 0 = w.length := by
  rw [apart_eq hc]
  unfold cnt
  rw [List.filter_eq_self.mpr]
  · simp
  · intro j hj
    have hj' : j < w.length := by simpa using hj
    have := plc_lt w j
    unfold dif
    rw [Nat.add_mod_right, Nat.mod_eq_of_lt hj']
    have : (plc w j + 3 - plc w j) % 3 = 0 := by omega
    rw [this]; rfl
def tbl (w : List Nat) (i : Nat) : List Nat := (List.range i).map fun d => apart w (d + 1) 0
theorem tbl_full (w : List Nat) : tbl w w.length = table w := rfl
theorem tbl_succ (w : List Nat) (i : Nat) : tbl w (i + 1) = tbl w i ++ [apart w (i + 1) 0] := by
  unfold tbl
  rw [List.range_succ, List.map_append]; rfl
theorem tbl_length (w : List Nat) (i : Nat) : (tbl w i).length = i := by simp [tbl]
theorem table_length (w : List Nat) : (table w).length = w.length := by simp [table]
theorem table_at {w : List Nat} {d : Nat} (h : d < w.length) : at_ (table w) d = apart w (d + 1) 0 := by
  unfold at_ table
  rw [List.getD_eq_getElem?_getD, List.getElem?_map, List.getElem?_range h]; rfl
theorem foldl_add : ∀ (l : List Nat) (a : Nat), l.foldl (· + ·) a = a + l.sum
  | [], a => by simp
  | x :: r, a => by rw [List.foldl_cons, foldl_add r, List.sum_cons]; omega
/-! ### lying -/
def lay (w : List Nat) (p i : Nat) : Nat := ((List.range i).filter fun j => plc w j == p).length
theorem lay_zero (w : List Nat) (p : Nat) : lay w p 0 = 0 := rfl
theorem lay_succ (w : List Nat) (p i : Nat) : lay w p (i + 1) = lay w p i + if plc w i = p then 1 else 0 := by
  unfold lay
  rw [List.range_succ, List.filter_append, List.length_append]
  by_cases h : plc w i = p <;> simp [h]
theorem lying_eq {w : List Nat} (hc : closes w = true) : lying w = [lay w 0 w.length, lay w 1 w.length, lay w 2 w.length] := by
  have key : ∀ p, ((List.range w.length).filter fun j => position w j == p).length = lay w p w.length := by
    intro p
    unfold lay
    congr 1
    apply List.filter_congr
    intro j hj
    have hj' : j < w.length := by simpa using hj
    rw [position_closed hc, Nat.mod_eq_of_lt hj']
  unfold lying
  simp only [List.map_cons, List.map_nil, key]
/-! ### near -/
theorem find_range {p : Nat → Bool} : ∀ {n k : Nat}, k < n → p k = true → (∀ j, j < k → p j = false) → (List.range n).find? p = some k := by
  intro n k hk hp hb
  rw [List.find?_range_eq_some]
  refine ⟨hp, ?_, ?_⟩
  · simpa using hk
  · intro j hj
    simpa using hb j hj
theorem near_is {w : List Nat} {k : Nat} (h0 : 1 ≤ k) (h1 : k ≤ w.length) (hp : apart w k 0 ≠ 0) (hb : ∀ j, 1 ≤ j → j < k → apart w j 0 = 0) :
    ((List.range w.length).find? fun d => decide (0 < at_ (table w) d)).getD 0 + 1 = k := by
  have e : (List.range w.length).find? (fun d => decide (0 < at_ (table w) d)) = some (k - 1) := by
    refine find_range (by omega) ?_ ?_
    · show decide _ = true
      rw [table_at (by omega), show k - 1 + 1 = k by omega]
      exact decide_eq_true (show _ by omega)
    · intro j hj
      show decide _ = false
      rw [table_at (by omega), hb (j + 1) (by omega) (by omega)]; rfl
  rw [e]; show k - 1 + 1 = k; omega
/-! ### the state keeps closing -/
def Good (w : List Nat) : Prop := right w = true ∧ closes w = true
theorem right_iff (w : List Nat) : right w = true ↔ 1 ≤ w.length ∧ w.length ≤ 8 ∧ ∀ x ∈ w, x ≤ 1 := by
  unfold right isWord STEPS
  simp [and_assoc]
theorem sum_set : ∀ {w : List Nat} {i : Nat} (x : Nat), i < w.length → Kqi6.sum (w.set i x) + gain (w.getD i 0) = Kqi6.sum w + gain x
  | [], i, x, h => by simp at h
  | a :: r, 0, x, _ => by simp [sum_cons]; omega
  | a :: r, i + 1, x, h => by
    have ih := sum_set (w := r) (i := i) x (by simpa using h)
    simp only [List.set_cons_succ, sum_cons, List.getD_cons_succ]
    omega
def swp (w : List Nat) (i j : Nat) : List Nat := (w.set i (at_ w j)).set j (at_ w i)
theorem swp_length (w : List Nat) (i j : Nat) : (swp w i j).length = w.length := by simp [swp]
theorem swp_sum {w : List Nat} {i j : Nat} (hi : i < w.length) (hj : j < w.length) : Kqi6.sum (swp w i j) = Kqi6.sum w := by
  have h1 := sum_set (w := w) (at_ w j) hi
  have h2 := sum_set (w := w.set i (at_ w j)) (i := j) (at_ w i) (by simpa using hj)
  have h3 : (w.set i (at_ w j)).getD j 0 = at_ w j := by
    unfold at_
    rw [List.getD_eq_getElem?_getD, List.getD_eq_getElem?_getD, List.getElem?_set]
    by_cases h : i = j
    · subst h; simp [hi]
    · simp [h]
  rw [h3] at h2
  have h4 : gain (at_ w i) = gain (w.getD i 0) := rfl
  unfold swp
  omega
theorem at_mem {w : List Nat} {i : Nat} (h : i < w.length) : at_ w i ∈ w := by
  unfold at_
  rw [List.getD_eq_getElem?_getD, List.getElem?_eq_getElem h]; exact List.getElem_mem h
theorem swp_good {w : List Nat} {i j : Nat} (g : Good w) (hi : i < w.length) (hj : j < w.length) : Good (swp w i j) := by
  obtain ⟨g1, g2⟩ := g
  rw [right_iff] at g1
  refine ⟨?_, ?_⟩
  · rw [right_iff, swp_length]
    refine ⟨g1.1, g1.2.1, ?_⟩
    intro x hx
    rcases List.mem_or_eq_of_mem_set hx with hx | rfl
    · rcases List.mem_or_eq_of_mem_set hx with hx | rfl
      · exact g1.2.2 x hx
      · exact g1.2.2 _ (at_mem hj)
    · exact g1.2.2 _ (at_mem hi)
  · unfold closes net at *
    rw [swp_sum hi hj]; exact g2
theorem begun_length {w : List Nat} {k : Nat} (h : k < w.length) : (begun w k).length = w.length := by
  simp [begun]; omega
theorem begun_good {w : List Nat} {k : Nat} (g : Good w) (h : k < w.length) : Good (begun w k) := by
  obtain ⟨g1, g2⟩ := g
  rw [right_iff] at g1
  refine ⟨?_, ?_⟩
  · rw [right_iff, begun_length h]
    refine ⟨g1.1, g1.2.1, ?_⟩
    intro x hx
    exact (List.mem_append.mp hx).elim (fun z => g1.2.2 x (List.mem_of_mem_drop z)) fun z => g1.2.2 x (List.mem_of_mem_take z)
  · have e : Kqi6.sum (begun w k) = Kqi6.sum w := by
      have := sum_append (w.take k) (w.drop k)
      rw [List.take_append_drop] at this
      unfold begun
      rw [sum_append]; omega
    unfold closes net at *
    rw [e]; exact g2
end Ray
end
section
set_option autoImplicit false
namespace Ray
open Kqi6 PyKqi6
/-! ### how the calls are read -/
def rowCalls : List Int := [0, 8, 9, 10, 13]
def isRow (p : Int) : Bool := rowCalls.contains p
def plain (p : Int) : Nat := if p = 1 then 2 else if p = 2 then 1 else if p = 3 then 1 else if p = 11 then 1 else if p = 12 then 1 else if p = 15 then 2 else 0
def nxt (l : List Int) (b : Nat) : Nat := if isRow (l.getD b 0) = true then b + 2 + (l.getD (b + 1) 0).toNat else b + 1 + plain (l.getD b 0)
def args (l : List Int) (b : Nat) : List Int := if isRow (l.getD b 0) = true then (l.drop (b + 2)).take (l.getD (b + 1) 0).toNat else (l.drop (b + 1)).take (plain (l.getD b 0))
def formed (p : Int) (a : List Int) : List (List Int) := if isRow p = true then [[p], a] else [p :: a]
theorem shape_is {p : Int} {n k : Nat} (h : shape p = some (n, k)) : 0 ≤ p ∧ p ≤ 16 ∧ ((isRow p = true ∧ n = 0 ∧ k = 1) ∨ (isRow p = false ∧ n = plain p ∧ k = 0)) := by
  by_cases hp : 0 ≤ p ∧ p ≤ 16
  · have hq : p = 0 ∨ p = 1 ∨ p = 2 ∨ p = 3 ∨ p = 4 ∨ p = 5 ∨ p = 6 ∨ p = 7 ∨ p = 8 ∨ p = 9 ∨ p = 10 ∨ p = 11 ∨ p = 12 ∨ p = 13 ∨ p = 14 ∨ p = 15 ∨ p = 16 := by omega
    rcases hq with rfl | rfl | rfl | rfl | rfl | rfl | rfl | rfl | rfl | rfl | rfl | rfl | rfl | rfl | rfl | rfl | rfl <;>
    · have h := Option.some.inj h
      cases h
      refine ⟨by decide, by decide, ?_⟩
      first
        | exact .inl ⟨by decide, rfl, rfl⟩
        | exact .inr ⟨by decide, by decide, rfl⟩
  · exfalso
    unfold shape at h
    rw [if_neg (show ¬ p = 0 by omega)] at h
    rw [if_neg (show ¬ p = 1 by omega)] at h
    rw [if_neg (show ¬ p = 2 by omega)] at h
    rw [if_neg (show ¬ p = 3 by omega)] at h
    rw [if_neg (show ¬ p = 4 by omega)] at h
    rw [if_neg (show ¬ p = 5 by omega)] at h
    rw [if_neg (show ¬ p = 6 by omega)] at h
    rw [if_neg (show ¬ p = 7 by omega)] at h
    rw [if_neg (show ¬ p = 8 by omega)] at h
    rw [if_neg (show ¬ p = 9 by omega)] at h
    rw [if_neg (show ¬ p = 10 by omega)] at h
    rw [if_neg (show ¬ p = 11 by omega)] at h
    rw [if_neg (show ¬ p = 12 by omega)] at h
    rw [if_neg (show ¬ p = 13 by omega)] at h
    rw [if_neg (show ¬ p = 14 by omega)] at h
    rw [if_neg (show ¬ p = 15 by omega)] at h
    rw [if_neg (show ¬ p = 16 by omega)] at h
    cases h
theorem drop_cons {l : List Int} {b : Nat} {p : Int} {r : List Int} (h : l.drop b = p :: r) : l.getD b 0 = p ∧ l.drop (b + 1) = r ∧ b < l.length := by
  have hl : b < l.length := by
    rcases Nat.lt_or_ge b l.length with hb | hb
    · exact hb
    · rw [List.drop_eq_nil_of_le hb] at h; cases h
  rw [List.drop_eq_getElem_cons hl] at h
  have h := List.cons.inj h
  refine ⟨?_, h.2, hl⟩
  rw [List.getD_eq_getElem?_getD, List.getElem?_eq_getElem hl]; exact h.1
/-- one call, read by the places of the list -/
theorem call_read {l : List Int} {b : Nat} {c : List (List Int)} {t : List Int} (h : PyFlat.call shape (l.drop b) = some (c, t)) :
    b < l.length ∧ 0 ≤ l.getD b 0 ∧ l.getD b 0 ≤ 16 ∧ t = l.drop (nxt l b) ∧ b < nxt l b ∧ nxt l b ≤ l.length ∧ c = formed (l.getD b 0) (args l b) ∧ (isRow (l.getD b 0) = true → b + 1 < l.length ∧ 0 ≤ l.getD (b + 1) 0) ∧
    (args l b).length = if isRow (l.getD b 0) = true then (l.getD (b + 1) 0).toNat else plain (l.getD b 0) := by
  cases hd : l.drop b with
  | nil => rw [hd] at h; cases h
  | cons p r =>
    rw [hd] at h
    obtain ⟨e1, e2, hb⟩ := drop_cons hd
    have hlen : r.length = l.length - (b + 1) := by rw [← e2, List.length_drop]
    unfold PyFlat.call at h
    dsimp only at h
    split at h
    · cases h
    · rename_i n k hs
      obtain ⟨p0, p1, hk⟩ := shape_is hs
      split at h
      · cases h
      · rename_i hn
        rcases hk with ⟨ir, rfl, rfl⟩ | ⟨ir, rfl, rfl⟩
        · -- a row
          unfold PyFlat.rows at h
          rw [List.drop_zero] at h
          cases r with
          | nil => simp [PyFlat.row] at h
          | cons m q =>
            obtain ⟨e3, e4, hb1⟩ := drop_cons e2
            unfold PyFlat.row at h
            dsimp only at h
            by_cases hm : 0 ≤ m ∧ m.toNat ≤ q.length
            · rw [if_pos hm] at h
              simp only [PyFlat.rows, List.take_zero] at h
              have h := Option.some.inj h
              have h1 := (Prod.mk.inj h).1
              have h2 := (Prod.mk.inj h).2
              have hq : q.length = l.length - (b + 1 + 1) := by rw [← e4, List.length_drop]
              have en : nxt l b = b + 2 + m.toNat := by
                unfold nxt; rw [e1, if_pos ir, e3]
              have ea : args l b = q.take m.toNat := by
                unfold args; rw [e1, if_pos ir, e3, ← e4]
              refine ⟨hb, by rw [e1]; exact p0, by rw [e1]; exact p1, ?_, by omega, by omega, ?_, fun _ => ⟨hb1, by rw [e3]; exact hm.1⟩, ?_⟩
              · rw [en, ← h2, ← e4, List.drop_drop]
              · rw [e1, ea, ← h1]; unfold formed; rw [if_pos ir]
              · rw [ea, e1, if_pos ir, e3, List.length_take]; omega
            · rw [if_neg hm] at h; simp at h
        · -- plain numbers
          unfold PyFlat.rows at h
          have h := Option.some.inj h
          have h1 := (Prod.mk.inj h).1
          have h2 := (Prod.mk.inj h).2
          have ir' : ¬ isRow p = true := by rw [ir]; exact Bool.false_ne_true
          have en : nxt l b = b + 1 + plain p := by
            unfold nxt; rw [e1, if_neg ir']
          have ea : args l b = r.take (plain p) := by
            unfold args; rw [e1, if_neg ir', ← e2]
          refine ⟨hb, by rw [e1]; exact p0, by rw [e1]; exact p1, ?_, by omega, by omega, ?_, fun q => absurd (e1 ▸ q) ir', ?_⟩
          · rw [en, ← h2, ← e2, List.drop_drop]
          · rw [e1, ea, ← h1]; unfold formed; rw [if_neg ir']
          · rw [ea, e1, if_neg ir', List.length_take]; omega
/-- the calls that are still to come -/
theorem calls_more {f : Nat} {l : List Int} {b : Nat} {cs : List (List (List Int))} (h : PyFlat.calls shape f (l.drop b) = some cs) (hb : b < l.length) :
    ∃ f' c cs', cs = c :: cs' ∧ PyFlat.call shape (l.drop b) = some (c, l.drop (nxt l b)) ∧ PyFlat.calls shape f' (l.drop (nxt l b)) = some cs' := by
  cases hd : l.drop b with
  | nil =>
    have := List.drop_eq_nil_iff.mp hd
    omega
  | cons p r =>
    rw [hd] at h
    cases f with
    | zero => cases h
    | succ f =>
      unfold PyFlat.calls at h
      split at h
      · cases h
      · rename_i c t hc
        rw [← hd] at hc
        have e := (call_read hc).2.2.2.1
        split at h
        · cases h
        · rename_i cs' hcs
          rw [e] at hc hcs
          refine ⟨f, c, cs', (Option.some.inj h).symm, ?_, hcs⟩
          rw [← hd]; exact hc
theorem calls_end {f : Nat} {cs : List (List (List Int))} (h : PyFlat.calls shape f [] = some cs) : cs = [] := by
  cases f <;> exact (Option.some.inj h).symm
/-- one call as the specification plays it -/
def stepN (s : Option (List Nat)) (p : Int) (a : List Int) : Option (List Nat) × List Int := Kqi6Neutral.step s (whole (formed p a))
def restN (s : Option (List Nat)) (cs : List (List (List Int))) : List Int := PyFlat.told (PyFlat.played Kqi6Neutral.step s (cs.map whole))
theorem restN_nil (s : Option (List Nat)) : restN s [] = [] := rfl
theorem restN_cons (s : Option (List Nat)) (p : Int) (a : List Int) (cs : List (List (List Int))) :
    restN s (formed p a :: cs) = ((stepN s p a).2.length : Int) :: (stepN s p a).2 ++ restN (stepN s p a).1 cs := rfl
/-- what is asked, and what is due -/
theorem asked_is {l : List Int} (h : answers_asked l = true) : ∃ cs, PyFlat.calls shape l.length (l.drop 0) = some cs ∧ PyKqi6.answers l = restN none cs ∧ (PyKqi6.answers l).length ≤ 10000000 := by
  unfold answers_asked at h
  rw [List.drop_zero]
  cases e : PyFlat.calls shape l.length l with
  | none =>
    rw [e] at h
    cases h
  | some cs =>
    rw [e] at h
    dsimp only at h
    repeat rw [Bool.and_eq_true] at h
    refine ⟨cs, rfl, ?_, ?_⟩
    · unfold PyKqi6.answers calls
      rw [e]; rfl
    · have := h.2
      unfold PyFlat.short at this
      exact of_decide_eq_true this
end Ray
end
section
set_option autoImplicit false
namespace Ray
open Kqi6 PyKqi6
/-! ### the specification's step, by the word -/
def stOf (wd : List Nat) : Option (List Nat) := match wd with
  | [] => none
  | x :: r => some (x :: r)
def Ok (wd : List Nat) : Prop := wd = [] ∨ Good wd
theorem stOf_good {wd : List Nat} (h : Good wd) : stOf wd = some wd := by
  have := ((right_iff wd).mp h.1).1
  cases wd with
  | nil => simp at this
  | cons x r => rfl
def cI (l : List Nat) : List Int := l.map fun (x : Nat) => (x : Int)
theorem cI_n (l : List Nat) : (cI l).map Kqi6Neutral.n = l := by
  unfold cI
  rw [List.map_map]
  exact (List.map_congr_left fun x _ => Int.toNat_natCast x).trans (List.map_id l)
/-- what a call answers, the word behind it -/
def gAll (p : Int) (wd ns : List Nat) : List Nat × List Int := ((stepN (stOf wd) p (cI ns)).1.getD [], (stepN (stOf wd) p (cI ns)).2)
/-- the numbers that a call has -/
def Fits (p : Int) (ns : List Nat) : Prop := isRow p = true ∨ ns.length = plain p
theorem stepN_call {s : Option (List Nat)} {p : Int} {a : List Int} {c : Call} (h : Kqi6Neutral.callOf (whole (formed p a)) = some c) : stepN s p a = ((Kqi6.step s c).1, Kqi6Neutral.tell (Kqi6.step s c).2) := by
  unfold stepN Kqi6Neutral.step
  rw [h]
/-- the call of a number and its numbers -/
def callP (p : Nat) (ns : List Nat) : Option Call := match p, ns with
  | 0, l => some (.start l)
  | 1, [i, j] => some (.exchange i j)
  | 2, [k] => some (.later k)
  | 3, [d] => some (.pairs d)
  | 4, [] => some .table
  | 5, [] => some .lying
  | 6, [] => some .total
  | 7, [] => some .near
  | 8, l => some (.same l)
  | 9, l => some (.differ l)
  | 10, l => some (.find l)
  | 11, [n] => some (.kinds n)
  | 12, [n] => some (.tables n)
  | 13, l => some (.alike l)
  | 14, [] => some .first
  | 15, [d, c] => some (.with_ d c)
  | 16, [] => some .state
  | _, _ => none
theorem len0 {ns : List Nat} (h : ns.length = 0) : ns = [] := List.length_eq_zero_iff.mp h
theorem len1 {ns : List Nat} (h : ns.length = 1) : ∃ a, ns = [a] := List.length_eq_one_iff.mp h
theorem len2 {ns : List Nat} (h : ns.length = 2) : ∃ a b, ns = [a, b] := by
  match ns, h with
  | [a, b], _ => exact ⟨a, b, rfl⟩
theorem callOf_is {p : Nat} (hp : p ≤ 16) {ns : List Nat} (hf : Fits (p : Int) ns) : ∃ c, callP p ns = some c ∧ Kqi6Neutral.callOf (whole (formed (p : Int) (cI ns))) = some c := by
  have nn : ∀ x : Nat, Kqi6Neutral.n (x : Int) = x := fun x => Int.toNat_natCast x
  rcases (show p = 0 ∨ p = 1 ∨ p = 2 ∨ p = 3 ∨ p = 4 ∨ p = 5 ∨ p = 6 ∨ p = 7 ∨ p = 8 ∨ p = 9 ∨ p = 10 ∨ p = 11 ∨ p = 12 ∨ p = 13 ∨ p = 14 ∨ p = 15 ∨ p = 16 by omega) with
    rfl | rfl | rfl | rfl | rfl | rfl | rfl | rfl | rfl | rfl | rfl | rfl | rfl | rfl | rfl | rfl | rfl
  case inl => exact ⟨_, rfl, by show some (Call.start ((cI ns).map Kqi6Neutral.n)) = _; rw [cI_n]⟩
  all_goals first
    | (have h := hf.resolve_left (by decide)
       obtain rfl := len0 h
       exact ⟨_, rfl, rfl⟩)
    | (have h := hf.resolve_left (by decide)
       obtain ⟨a, rfl⟩ := len1 h
       exact ⟨_, rfl, rfl⟩)
    | (have h := hf.resolve_left (by decide)
       obtain ⟨a, b, rfl⟩ := len2 h
       exact ⟨_, rfl, rfl⟩)
    | exact ⟨_, rfl, by show some (Call.same ((cI ns).map Kqi6Neutral.n)) = _; rw [cI_n]⟩
    | exact ⟨_, rfl, by show some (Call.differ ((cI ns).map Kqi6Neutral.n)) = _; rw [cI_n]⟩
    | exact ⟨_, rfl, by show some (Call.find ((cI ns).map Kqi6Neutral.n)) = _; rw [cI_n]⟩
    | exact ⟨_, rfl, by show some (Call.alike ((cI ns).map Kqi6Neutral.n)) = _; rw [cI_n]⟩
/-- no word yet -/
theorem step_none {c : Call} (h : ∀ l, c ≠ .start l) : Kqi6.step none c = (none, .num (-11)) := by
  cases c <;> first | rfl | exact absurd rfl (h _)
theorem step_start (s : Option (List Nat)) (l : List Nat) : Kqi6.step s (.start l) = if right l = false then (s, .num (-22)) else if closes l = false then (s, .num (-33)) else (some l, .num l.length) := by
  cases s <;> rfl
/-- the state is none or a good word -/
def OkS (s : Option (List Nat)) : Prop := ∀ w, s = some w → Good w
theorem step_ok {s : Option (List Nat)} (h : OkS s) (c : Call) : OkS (Kqi6.step s c).1 := by
  cases c with
  | start l =>
    rw [step_start]
    split
    · exact h
    · rename_i h1
      split
      · exact h
      · rename_i h2
        intro w e
        cases e
        exact ⟨by simpa using h1, by simpa using h2⟩
  | exchange i j =>
    cases s with
    | none => exact h
    | some w =>
      show OkS (if w.length ≤ i ∨ w.length ≤ j then _ else _ : Option (List Nat) × Ans).1
      split
      · exact h
      · rename_i h1
        intro v e
        cases e
        exact swp_good (h w rfl) (by omega) (by omega)
  | later k =>
    cases s with
    | none => exact h
    | some w =>
      show OkS (if w.length ≤ k then _ else _ : Option (List Nat) × Ans).1
      split
      · exact h
      · rename_i h1
        intro v e
        cases e
        exact begun_good (h w rfl) (by omega)
  | _ => cases s <;> exact h
theorem stOf_getD {s : Option (List Nat)} (h : OkS s) : stOf (s.getD []) = s ∧ Ok (s.getD []) := by
  cases s with
  | none => exact ⟨rfl, .inl rfl⟩
  | some w => exact ⟨stOf_good (h w rfl), .inr (h w rfl)⟩
theorem okS_of {wd : List Nat} (h : Ok wd) : OkS (stOf wd) := by
  rcases h with rfl | h
  · intro w e; cases e
  · rw [stOf_good h]
    intro w e; cases e; exact h
/-- gAll plays the specification's step -/
theorem gAll_step {p : Nat} (hp : p ≤ 16) {wd ns : List Nat} (hf : Fits (p : Int) ns) (h : Ok wd) : stepN (stOf wd) (p : Int) (cI ns) = (stOf (gAll (p : Int) wd ns).1, (gAll (p : Int) wd ns).2) ∧ Ok (gAll (p : Int) wd ns).1 := by
  obtain ⟨c, _, hc⟩ := callOf_is hp hf
  have e := stepN_call (s := stOf wd) hc
  have k := stOf_getD (step_ok (okS_of h) c)
  unfold gAll
  rw [e]
  exact ⟨by rw [k.1], k.2⟩
end Ray
end
section
set_option autoImplicit false
set_option maxRecDepth 100000
namespace Ray
open Kqi6
/-! ### all words of so many steps -/
theorem words_mem : ∀ (n : Nat) (w : List Nat), w ∈ words n ↔ w.length = n ∧ ∀ x ∈ w, x ≤ 1
  | 0, w => by
    constructor
    · intro h
      have e : w = [] := by simpa [words] using h
      subst e
      exact ⟨rfl, fun x hx => by cases hx⟩
    · rintro ⟨h, _⟩
      rw [List.length_eq_zero_iff.mp h]
      simp [words]
  | n + 1, w => by
    have ih := words_mem n
    constructor
    · intro h
      rcases List.mem_append.mp (show w ∈ (words n).map (fun w => 0 :: w) ++ (words n).map fun w => 1 :: w from h) with h | h
      all_goals
        obtain ⟨v, hv, rfl⟩ := List.mem_map.mp h
        obtain ⟨h1, h2⟩ := (ih v).mp hv
        refine ⟨by rw [List.length_cons, h1], fun x hx => ?_⟩
        rcases List.mem_cons.mp hx with rfl | z
        · decide
        · exact h2 x z
    · rintro ⟨h1, h2⟩
      cases w with
      | nil => cases h1
      | cons x v =>
        have hv : v ∈ words n := (ih v).mpr ⟨by simpa using h1, fun y hy => h2 y (List.mem_cons_of_mem _ hy)⟩
        have hx : x ≤ 1 := h2 x List.mem_cons_self
        refine List.mem_append.mpr ?_
        rcases (show x = 0 ∨ x = 1 by omega) with rfl | rfl
        · exact .inl (List.mem_map.mpr ⟨v, hv, rfl⟩)
        · exact .inr (List.mem_map.mpr ⟨v, hv, rfl⟩)
theorem words_length : ∀ n : Nat, (words n).length = 2 ^ n
  | 0 => rfl
  | n + 1 => by
    show ((words n).map (fun w => 0 :: w) ++ (words n).map fun w => 1 :: w).length = _
    rw [List.length_append, List.length_map, List.length_map, words_length n, Nat.pow_succ]; omega
theorem closing_mem {n : Nat} {w : List Nat} (h : w ∈ closing n) : w.length = n ∧ (∀ x ∈ w, x ≤ 1) ∧ closes w = true := by
  obtain ⟨h1, h2⟩ := List.mem_filter.mp h
  obtain ⟨h3, h4⟩ := (words_mem n w).mp h1
  exact ⟨h3, h4, h2⟩
theorem closing_good {n : Nat} {w : List Nat} (h : w ∈ closing n) (h1 : 1 ≤ n) (h2 : n ≤ 8) : Good w := by
  obtain ⟨a, b, c⟩ := closing_mem h
  exact ⟨(right_iff w).mpr ⟨by omega, by omega, b⟩, c⟩
theorem good_closing {w : List Nat} (g : Good w) : w ∈ closing w.length :=
  List.mem_filter.mpr ⟨(words_mem _ w).mpr ⟨rfl, ((right_iff w).mp g.1).2.2⟩, g.2⟩
/-! ### the first of many -/
def lexB : List Nat → List Nat → Bool
  | [], [] => false
  | [], _ :: _ => true
  | _ :: _, [] => false
  | x :: l, y :: m => if x = y then lexB l m else decide (x < y)
def leastW (x : List Nat) (xs : List (List Nat)) : List Nat := xs.foldl (fun a y => if lexB y a = true then y else a) x
def leastL : List (List Nat) → List Nat
  | [] => []
  | x :: xs => leastW x xs
theorem first_all : ((List.range 9).all fun n => (closing n).all fun w => Kqi6.first w == leastL (ways w)) = true := by decide +kernel
theorem of_all {f : Nat → List Nat → Bool} (h : ((List.range 9).all fun n => (closing n).all fun w => f n w) = true) {n : Nat} (hn : n ≤ 8) {w : List Nat} (hw : w ∈ closing n) : f n w = true :=
  List.all_eq_true.mp (List.all_eq_true.mp h n (List.mem_range.mpr (by omega))) w hw
theorem first_least {w : List Nat} (g : Good w) : Kqi6.first w = leastL (ways w) := by
  have h := of_all (f := fun _ w => Kqi6.first w == leastL (ways w)) first_all ((right_iff w).mp g.1).2.1 (good_closing g)
  exact beq_iff_eq.mp h
theorem ways_length (w : List Nat) : (ways w).length = 4 * w.length := by simp [ways]
/-! ### as many as there are different ones -/
theorem nodup_le {α : Type} [DecidableEq α] (l : List α) : ∀ D : List α, l.Nodup → (∀ x ∈ l, x ∈ D) → l.length ≤ D.length := by
  induction l with
  | nil => exact fun D _ _ => Nat.zero_le _
  | cons y l ih =>
    intro D nd sub
    have yD := sub y (List.mem_cons_self ..)
    have more := ih (D.erase y) (List.nodup_cons.mp nd).2 fun z hz => (List.mem_erase_of_ne (show z ≠ y from fun e => (List.nodup_cons.mp nd).1 (by rw [← e]; exact hz))).mpr (sub z (List.mem_cons_of_mem _ hz))
    exact Nat.le_trans (Nat.succ_le_succ more) (Nat.le_of_eq (List.perm_cons_erase yD).length_eq.symm)
theorem nodup_same {α : Type} [DecidableEq α] {l D : List α} (h1 : l.Nodup) (h2 : D.Nodup) (a : ∀ x ∈ l, x ∈ D) (b : ∀ x ∈ D, x ∈ l) : l.length = D.length :=
  Nat.le_antisymm (nodup_le l D h1 a) (nodup_le D l h2 b)
/-! ### kinds -/
def kindL (n : Nat) : List (List Nat) := (closing n).filter fun w => Kqi6.first w == w
theorem kind_all : ((List.range 9).all fun n => (closing n).all fun w => (kindL n).contains (Kqi6.first w)) = true := by decide +kernel
theorem kind_nodup : ((List.range 9).all fun n => decide (kindL n).Nodup && decide ((kindL n).length ≤ 60)) = true := by decide +kernel
theorem kind_mem {n : Nat} (hn : n ≤ 8) {w : List Nat} (h : w ∈ closing n) : Kqi6.first w ∈ kindL n := by
  have q := of_all (f := fun n w => (kindL n).contains (Kqi6.first w)) kind_all hn h
  exact List.contains_iff_mem.mp q
theorem kind_ok {n : Nat} (hn : n ≤ 8) : (kindL n).Nodup ∧ (kindL n).length ≤ 60 := by
  have q := List.all_eq_true.mp kind_nodup n (List.mem_range.mpr (by omega))
  rw [Bool.and_eq_true] at q
  exact ⟨of_decide_eq_true q.1, of_decide_eq_true q.2⟩
theorem kind_back {n : Nat} {d : List Nat} (h : d ∈ kindL n) : d ∈ (closing n).map Kqi6.first := by
  obtain ⟨h1, h2⟩ := List.mem_filter.mp h
  exact List.mem_map.mpr ⟨d, h1, beq_iff_eq.mp h2⟩
/-! ### tables -/
def tableL (n : Nat) : List (List Nat) := ((closing n).map Kqi6.table).foldl (fun l x => insertT x l) []
theorem table_all : ((List.range 9).all fun n => (closing n).all fun w => (tableL n).contains (Kqi6.table w)) = true := by decide +kernel
theorem table_nodup : ((List.range 9).all fun n => decide (tableL n).Nodup && decide ((tableL n).length ≤ 60) && (tableL n).all fun t => ((closing n).map Kqi6.table).contains t) = true := by decide +kernel
theorem tableL_mem {n : Nat} (hn : n ≤ 8) {w : List Nat} (h : w ∈ closing n) : Kqi6.table w ∈ tableL n := by
  have q := of_all (f := fun n w => (tableL n).contains (Kqi6.table w)) table_all hn h
  exact List.contains_iff_mem.mp q
theorem tableL_ok {n : Nat} (hn : n ≤ 8) : (tableL n).Nodup ∧ (tableL n).length ≤ 60 ∧ ∀ t ∈ tableL n, t ∈ (closing n).map Kqi6.table := by
  have q := List.all_eq_true.mp table_nodup n (List.mem_range.mpr (by omega))
  rw [Bool.and_eq_true, Bool.and_eq_true] at q
  exact ⟨of_decide_eq_true q.1.1, of_decide_eq_true q.1.2, fun t ht => List.contains_iff_mem.mp (List.all_eq_true.mp q.2 t ht)⟩
end Ray
end
section
set_option Elab.async false
set_option linter.all false
set_option maxRecDepth 100000
set_option maxHeartbeats 2000000
/-! Rules that the layer lacks: list(reversed(xs)); for i, x in enumerate(xs, start=k); len(set(xs)) of tuples of ints, many items and few different ones. -/
namespace Ray
open PySem PySem.Spec PyProof.Rows L2
/-! ### list(reversed(xs)) -/
section
variable {prog : Program} {w : World} {A : Around} {E : Value → Shared → Prop} {s : Shared}
/-- a reversed list's iterator tells no room ahead -/
theorem rev_hint {it l : Addr} {i : Int} {Q : Bool → Shared → Prop} (hit : s.heap.IsRevIter it l i) (q : Q false s) : wpAny (model prog w) A (Builtin.List.listLengthHint (.ref it)) Q E s := by
  have ty := hit.typeIs (s := s)
  delta Builtin.List.listLengthHint
  refine wpAny_bind (wpAny_specialOf ty RT.nolen_lri (wpAny_bind (m := specialOf (.ref it) (Str.ofString "__length_hint__")) (wpAny_specialOf ty RT.hint_lri ?_)))
  generalize name : "list_reverseiterator.__length_hint__" = id1
  wp_delta
  have parts : splitId id1 = some ("list_reverseiterator", "__length_hint__") := by rw [← name]; decide +kernel
  rw [parts]
  subst name
  exact wpAny_bind (wpAny_isInstance (b := true) ty (by rw [isSubtype_type]; kernel_rfl) (wpAny_pure q))
theorem list_rev {it l : Addr} {items : Array Value} {Q : Value → Shared → Prop} (hh : A.handled = none) (hit : s.heap.IsRevIter it l ((items.size : Int) - 1)) (hl : s.heap.IsList l items) (hne : l ≠ it) (hn : items.size ≤ sizeLine)
    (hQ : ∀ (h' : Heap) (tk : Nat) (acc : Array Value) (c : Nat), (∀ b o, b ≠ it → s.heap.get? b = some o → h'.get? b = some o) → h'.get? s.heap.objs.size = some { cls := .type "list", dict := none, data := .seq acc c, slots := #[] } →
      ItemsOf (fun i v => items[items.size - 1 - i]? = some v) acc items.size → Q (.ref s.heap.objs.size) { s with heap := h', toks := tk }) : wpAny (model prog w) A (call (.type "list") [.ref it]) Q E s := by
  obtain ⟨oi, hoi, _⟩ := id hit
  obtain ⟨ol, hol, _⟩ := id hl
  obtain ⟨D, hD⟩ : ∃ D, D = s.heap.objs.size := ⟨_, rfl⟩
  have ni : D ≠ it := by rw [hD]; exact Nat.ne_of_gt (Heap.lt_size hoi)
  have nl : D ≠ l := by rw [hD]; exact Nat.ne_of_gt (Heap.lt_size hol)
  refine callType_codes (Q₁ := fun v t => v = .ref D ∧ t = { s with heap := s.heap.push { cls := .type "list", data := .seq #[] } }) F.called_list (F.typeCall_list_1 _) F.entry_list_init (code_list_new _ ⟨by rw [hD], rfl⟩) ?_
  rintro v t ⟨rfl, rfl⟩
  have g0 : (s.heap.push { cls := .type "list", data := .seq #[] }).get? D = some { cls := .type "list", data := .seq #[] } := by rw [hD]; exact Heap.get?_push_size _ rfl
  have keep0 : ∀ b o, s.heap.get? b = some o → (s.heap.push { cls := .type "list", data := .seq #[] }).get? b = some o := fun b o e => Heap.get?_push_of_some _ e
  generalize s.heap.push { cls := .type "list", data := .seq #[] } = h0 at g0 keep0 ⊢
  refine ⟨⟨_, g0, rfl⟩, F.args_list_init_2 _ _, ?_⟩
  show wpAny _ A.in1.in1 (Builtin.List.listItems (.ref D) >>= fun old => Builtin.List.listUpdate (.ref D) (fun _ => #[]) >>= fun _ => letGo old.toList.reverse >>= fun _ => Builtin.List.listExtendWith (.ref D) (.ref it) .none) _ _ _
  unfold Builtin.List.listItems
  refine wpAny_bind (wpAny_bind (wpAny_seqItems g0 rfl (wpAny_pure ?_)))
  have g1 := Heap.get?_update_self (Obj.mapSeq (fun _ => (#[] : Array Value))) g0 rfl
  have keep1 : ∀ b o, b ≠ D → s.heap.get? b = some o → (h0.update D (Obj.mapSeq (fun _ => (#[] : Array Value)))).get? b = some o := fun b o hb e => (Heap.get?_update_other _ _ (Ne.symm hb)).trans (keep0 b o e)
  show wpAny _ A.in1.in1 (updateSeq D (fun _ => #[]) >>= fun _ => letGo (#[] : Array Value).toList.reverse >>= fun _ => Builtin.List.listExtendWith (.ref D) (.ref it) .none) _ _ _
  refine wpAny_bind (wpAny_updateSeq g0 rfl (wpAny_bind (wpAny_letGo ?_)))
  generalize h0.update D (Obj.mapSeq (fun _ => (#[] : Array Value))) = h1 at g1 keep1 ⊢
  have hit1 : h1.IsRevIter it l ((items.size : Int) - 1) := hit.at fun o e => keep1 it o (Ne.symm ni) e
  have hl1 : h1.IsList l items := hl.at fun o e => keep1 l o (Ne.symm nl) e
  have hT : ({ s with heap := h1 } : Shared).TypeIs (.ref it) "list_reverseiterator" := Heap.IsRevIter.typeIs (s := { s with heap := h1 }) hit1
  have nsame : Builtin.List.listSameRef (.ref D) (.ref it) = false := by simp [Builtin.List.listSameRef, ni]
  have hint : ∀ Q', Q' false { s with heap := h1 } → wpAny (model prog w) A.in1.in1 (Builtin.List.listLengthHint (.ref it)) Q' (fun e s' => wants (fun r s₂ => r = .none ∧ Q (.ref D) s₂) E (.error e) s') { s with heap := h1 } := fun Q' q => rev_hint hit1 q
  delta Builtin.List.listExtendWith
  refine wpAny_bind (wpAny_typeOf hT (?_ : wpAny _ _ _ _ _ _))
  rw [if_neg (by rw [nsame]; decide)]
  refine wpAny_bind (wpAny_pyIter_revIter (s := { s with heap := h1 }) hit1 (wpAny_bind (wpAny_holding (hint _ ?_))))
  have W := (Walks.listRev (prog := prog) (w := w) (A := A.in1.in1) hh it l hne items).toS
  have off : D ∉ [it, l] := by simp only [List.mem_cons, List.not_mem_nil, or_false, not_or]; exact ⟨ni, nl⟩
  have z0 : ((items.size : Nat) : Int) - 1 - ((0 : Nat) : Int) = (items.size : Int) - 1 := by omega
  refine wpAny_pure ⟨plainId_quiet F.plain_extend_loop _, codeAny_extend_loopS (A := A.in1) W hn D off .none items.size 0 { s with heap := h1 } #[] _ rfl (Nat.zero_le _) ⟨Nat.zero_le _, by rw [z0]; exact hit1, hl1⟩ g1 (ItemsOf.nil _) fun t acc c hm hS hacc => ⟨rfl, ?_⟩⟩
  rw [Moved.eq_with hm, hD]
  refine hQ t.heap t.toks acc c (fun b o hb e => hm.heap b o (fun hmem => ?_) (keep1 b o (fun z => ?_) e)) (by rw [← hD]; exact hS) hacc
  · rcases List.mem_cons.mp hmem with z | more
    · exact absurd (Heap.lt_size e) (by rw [z, hD]; exact Nat.lt_irrefl _)
    · exact hb (List.mem_singleton.mp more)
  · exact absurd (Heap.lt_size e) (by rw [z, hD]; exact Nat.lt_irrefl _)
end
section
variable {X : Cx}
def tListRev (K : PySem.W.Frag) (te : TE) : TE := fun σ H Q => te σ H fun v H1 => ∃ (a : Addr) (xs : List V), v = .ref a ∧ SqL K H1 a xs ∧ ∀ q, H1 q = none → Q (.ref q) (upd H1 q (.lst xs.reverse))
theorem pe_listRev {e : Expr} {te : TE} {p p2 pos pos2 : Pos} (hc : X.calm = true) (hg : Gl X "list") (hm : X.mg "list" = none) (hg2 : Gl X "reversed") (hm2 : X.mg "reversed" = none) (he : PE X e te)
    (h1 : starEach [e] X.env = (false, eval e X.env) :: starEach [] X.env := by rfl)
    (h2 : starEach [.Call (.Name "reversed" p2) [e] [] pos2] X.env = (false, eval (.Call (.Name "reversed" p2) [e] [] pos2) X.env) :: starEach [] X.env := by rfl) :
    PE X (.Call (.Name "list" p) [.Call (.Name "reversed" p2) [e] [] pos2] [] pos) (tListRev X.K te) := by
  refine ⟨fun pins s σ H Q I h => ?_⟩
  refine Call_ (ld_blt I hg hm (by decide +kernel : bootBuiltins "list" = some (.type "list")) (PyProof.Rows.callWith_type1 (args_cons (Call_ (ld_blt I hg2 hm2 PyProof.Rows.boot_reversed (PyProof.Rows.callWith_type1 (args_cons (thn (he.run pins s σ H _ I h) fun u s1 ⟨v, H1, I1, r1, q1⟩ => args_nil ?_) h1) h1 rfl))) h2) h2 rfl))
  obtain ⟨a, xs, rfl, hq, q⟩ := q1
  cases (show u = Value.ref a from r1)
  obtain ⟨its, rv, pl, hz⟩ := I1.list hq
  refine call_reversed_list pl.isList (args_nil ?_)
  have I2 : Inv X pins σ H1 { s1 with heap := s1.heap.push (revObj a ((its.toArray.size : Int) - 1)) } := I1.kept (t' := s1.toks) fun b o e => Heap.get?_push_of_some _ e
  obtain ⟨ol, hol, _⟩ := id pl.isList
  have apart : a ≠ s1.heap.objs.size := Nat.ne_of_lt (Heap.lt_size hol)
  have short : its.toArray.size ≤ sizeLine := (List.size_toArray ▸ rv.length ▸ hz : its.toArray.size ≤ sizeLine)
  have hsz : (s1.heap.push (revObj a ((its.toArray.size : Int) - 1))).objs.size = s1.heap.objs.size + 1 := Heap.size_push ..
  have hrev : (s1.heap.push (revObj a ((its.toArray.size : Int) - 1))).IsRevIter s1.heap.objs.size a ((its.toArray.size : Int) - 1) := ⟨_, Heap.get?_push_size _ rfl, rfl, rfl⟩
  have hlst : (s1.heap.push (revObj a ((its.toArray.size : Int) - 1))).IsList a its.toArray := pl.isList.push _
  generalize s1.heap.push (revObj a ((its.toArray.size : Int) - 1)) = h1' at I2 hsz hrev hlst ⊢
  refine list_rev (s := { s1 with heap := h1' }) (I1.ok.hd hc) hrev hlst apart short fun h' tk acc c hk hS hi => ?_
  have new : ObjOk X.prog X.w (upd H1 h1'.objs.size (.lst xs.reverse)) h' h1'.objs.size (.lst xs.reverse) :=
    ⟨by rw [List.length_reverse]; exact hz, acc.toList, c, RT.vals_rev rv hi, by rw [Array.toArray_toList]; exact hS⟩
  have hf : ∀ b ∈ [s1.heap.objs.size], FpOk X pins H1 b := fun b hb => by
    rw [List.mem_singleton.mp hb]
    exact I1.fpOk (b := s1.heap.objs.size) (Nat.le_refl _) (I1.hok.fresh (Nat.le_refl _))
  have I3 : Inv X pins σ (upd H1 h1'.objs.size (.lst xs.reverse)) { s1 with heap := h', toks := tk } :=
    I2.turnedNew (ch := [s1.heap.objs.size]) (fun b o hb e => hk b o (fun z => hb (by simp [z])) e) hf (Nat.le_refl _) new
  exact ⟨.ref h1'.objs.size, _, I3, rfl, q _ (I2.hok.fresh (Nat.le_refl _))⟩
end
end Ray
end
section
set_option Elab.async false
set_option linter.all false
set_option maxRecDepth 100000
set_option maxHeartbeats 2000000
namespace Ray
open PySem PySem.Spec PyProof.Rows L2
/-! ### for i, x in enumerate(xs, start=k) -/
theorem two_mem {b e it : Addr} (h : b ∈ [e, it]) : b = e ∨ b = it := by simpa using h
/-- the list at a as it stands at each turn, each item in a new pair, counted from k on -/
def ItK (K : PySem.W.Frag) (k : Int) (a : Addr) : It where
  go := fun i H => ∃ (xs : List V) (x : V), SqL K H a xs ∧ xs[i]? = some x
  yld := fun i H v H' => ∃ T x, v = .ref T ∧ H T = none ∧ H' = upd H T (.tup [.int (k + (i : Nat)), x]) ∧ ∀ xs, SqL K H a xs → xs[i]? = some x
  stop := fun i H => ∃ xs : List V, SqL K H a xs ∧ xs.length = i
theorem turn_k {P : Program} {w : World} {K : PySem.W.Frag} {elts : List Expr} {n : Nat} {tpos : Pos} (k : Int) (a e it : Addr) :
    Turn P w K (.Tuple elts n tpos) (ItK K k a) [e, it] e (fun i h => ((∃ old, IsEnum h e it (k + (i : Nat)) old) ∧ h.IsListIter it a i) ∧ e ≠ it) where
  mem := List.mem_cons_self
  obj := fun i h st b hb => by
    obtain ⟨⟨⟨old, he⟩, ⟨o, ho, hc, hd⟩⟩, _⟩ := st
    rcases two_mem hb with rfl | rfl
    · exact ⟨_, he, fun v q => nomatch q⟩
    · exact ⟨o, ho, fun v q => by rw [hd] at q; cases q⟩
  keep := fun i h h' st kp => by
    obtain ⟨⟨⟨old, he⟩, hi⟩, r⟩ := st
    exact ⟨⟨⟨old, kp e (by simp) _ he⟩, hi.at fun o q => kp it (by simp) o q⟩, r⟩
  item := by
    rintro X rfl rfl rfl hc i pins s σ H E I hf ⟨⟨⟨old, he⟩, hit⟩, hne⟩ ⟨xs, x, hq, hx⟩
    obtain ⟨its, rv, pl, -⟩ := I.list hq
    obtain ⟨u, hu, rel⟩ := rv.get hx
    have hel := Heap.lt_size he
    have hil : it < s.heap.objs.size := by
      obtain ⟨_, q, _⟩ := hit
      exact Heap.lt_size q
    obtain ⟨oa, hoa, hca, _⟩ := id pl.isList
    have hea : e ≠ a := by
      rintro rfl
      rw [he] at hoa
      rw [← Option.some.inj hoa] at hca
      exact absurd (show Value.type "enumerate" = Value.type "list" from hca) (by decide)
    have hia : a ≠ it := by
      rintro rfl
      obtain ⟨oi, hoi, hci, _⟩ := hit
      rw [hoi] at hoa
      rw [← Option.some.inj hoa, hci] at hca
      exact absurd hca (by decide)
    have hlt : i < its.toArray.size := by
      have h1 : i < its.length := (List.getElem?_eq_some_iff.mp hu).1
      simpa using h1
    have Dr := Draws.list (prog := X.prog) (w := X.w) (A := X.A.in1) (I.ok.hd hc) it a hia its.toArray
    refine wpAny_pyNext_enum_itemC (A := X.A) Dr he ⟨hit, pl.isList⟩ hlt hne (by simp [hne, hea]) fun y h' tk hy ho hst hT hsz hk => ?_
    have ey : y = u := by
      have e1 : its.toArray[i]? = some y := hy
      rw [List.getElem?_toArray, hu] at e1
      exact (Option.some.inj e1).symm
    subst ey
    refine ⟨_, rfl, wpAny_letOwnedTupleGo_enum (s := { s with heap := h', toks := tk + 1 }) ho fun h2 he2 sb => ?_⟩
    have hT2 : h2.get? s.heap.objs.size = some { cls := .type "tuple", data := .seq #[.int (k + (i : Nat)) tk, y] } := (sb.2 _ (Nat.ne_of_gt hel)).trans hT
    have new : ObjOk X.prog X.w (upd H s.heap.objs.size (.tup [.int (k + (i : Nat)), x])) h2 s.heap.objs.size (.tup [.int (k + (i : Nat)), x]) :=
      ⟨by show 2 ≤ sizeLine; decide, [.int (k + (i : Nat)) tk, y], .cons ⟨_, rfl⟩ (.cons rel .nil), ⟨_, hT2, rfl, _, rfl⟩⟩
    have I1 : Inv X pins σ (upd H s.heap.objs.size (.tup [.int (k + (i : Nat)), x])) { s with heap := h2, toks := tk + 1 } := by
      refine I.turnedNew (ch := [e, it]) (fun b ob hb q => ?_) hf (Nat.le_refl _) new
      have b1 : b ≠ e := fun z => hb (by simp [z])
      have b2 : b ≠ it := fun z => hb (by simp [z])
      exact (sb.2 b b1).trans (hk b ob b1 b2 q)
    refine ⟨.ref s.heap.objs.size, _, I1, rfl, ⟨_, x, rfl, I.hok.fresh (Nat.le_refl _), rfl, fun ys hy' => by rw [I.list_inj hy' hq]; exact hx⟩, ⟨⟨⟨y, ?_⟩, hst.1.at fun o q => (sb.2 it (Ne.symm hne)).trans q⟩, hne⟩, fun b hb => ?_⟩
    · rw [show k + ((i + 1 : Nat) : Int) = k + (i : Int) + 1 by omega]; exact he2
    · have old' : b < s.heap.objs.size := by rcases two_mem hb with rfl | rfl <;> assumption
      rw [upd_ne (Nat.ne_of_lt old')]; exact (hf b hb).1
  done := by
    rintro X rfl rfl rfl hc i pins s σ H E I hf ⟨⟨⟨old, he⟩, hit⟩, hne⟩ ⟨xs, hq, hx⟩
    obtain ⟨its, rv, pl, -⟩ := I.list hq
    obtain ⟨g0, g1, -, g3, g4, g5⟩ := hf it (List.mem_cons_of_mem _ (List.mem_singleton.mpr rfl))
    obtain ⟨oa, hoa, hca, _⟩ := id pl.isList
    have hia : a ≠ it := by
      rintro rfl
      obtain ⟨oi, hoi, hci, _⟩ := hit
      rw [hoi] at hoa
      rw [← Option.some.inj hoa, hci] at hca
      exact absurd hca (by decide)
    have hsz : its.toArray.size = i := by rw [List.size_toArray, ← rv.length]; exact hx
    have Dr := Draws.list (prog := X.prog) (w := X.w) (A := X.A.in1) (I.ok.hd hc) it a hia its.toArray
    exact wpAny_pyNext_enum_endD (A := X.A) Dr he ⟨by rw [hsz]; exact hit, pl.isList⟩ fun h' eb => ⟨rfl, I.turned (t' := s.toks) (fun b o hb q => eb b o hb q) g0 g1 g3 g4 g5⟩
  self := fun A i s Q E st q => wpAny_pyIter_enum st.1.1.choose_spec q
def iEnumK (K : PySem.W.Frag) (ta tk : TA) : TI := fun σ H R => ta σ H fun vs H1 => tk σ H1 fun ks H2 => ∃ a xs k, vs = [.ref a] ∧ ks = [.int k] ∧ -(2 ^ 62) ≤ k ∧ k < 2 ^ 62 ∧ SqL K H2 a xs ∧ R (ItK K k a) H2
theorem pi_enumK {X : Cx} {e c : Expr} {ta tk : TA} {p pos tpos kpos : Pos} {elts : List Expr} {n : Nat} (hg : Gl X "enumerate") (hm : X.mg "enumerate" = none) (ha : PA X [e] ta) (hk : PK X [⟨some "start", c, kpos⟩] tk)
    (h1 : starEach [e] X.env = (false, eval e X.env) :: starEach [] X.env := by rfl) (h2 : (backToKw pos (keywordEach [⟨some "start", c, kpos⟩] X.env)).all (·.1.isSome) = true := by rfl)
    (h3 : (backToKw pos (keywordEach [⟨some "start", c, kpos⟩] X.env)).filterMap (·.1) = [Str.ofString "start"] := by rfl)
    (h4 : ((backTo pos (starEach [e] X.env)).any (·.1) || (backToKw pos (keywordEach [⟨some "start", c, kpos⟩] X.env)).any (·.1.isNone)) = false := by rfl) :
    PI X (.Tuple elts n tpos) (.Call (.Name "enumerate" p) [e] [⟨some "start", c, kpos⟩] pos) (iEnumK X.K ta tk) := by
  constructor
  intro pins s σ H R I h
  refine wpAny_Call_Name_kw (ld_blt I hg hm boot_enumerate ?_)
  refine PySem.W.callWith_of (P := fun _ => True) h4 (fun _ _ => ⟨_, .inr (.inl rfl), PySem.W.Looks.now⟩) (PyProof.Rows.evalArgs_kw2 h2 (thn (ha.run pos pins s σ H _ I h) fun us s1 ⟨vs, H1, I1, r1, q1⟩ => ?_) h1)
  refine thn (hk.run pos pins s1 σ H1 _ I1 q1) fun ws s2 ⟨ks, H2, I2, r2, a, xs, k, e1, e2, b1, b2, hq, q⟩ => ⟨trivial, ?_⟩
  subst e1 e2
  rw [h3]
  obtain ⟨_, rfl, rfl⟩ := vals1 r1
  obtain ⟨_, rfl, t, rfl⟩ := vals1 r2
  obtain ⟨its, rv, pl, hz⟩ := I2.list hq
  refine enum_begins_start (begins_list a its.toArray) pl.isList (by omega) (by omega) fun h' he hit hsz kp => wpAny_pyIter_enum he ?_
  have I3 : Inv X pins σ H2 { s2 with heap := h' } := I2.kept (t' := s2.toks) kp
  refine ⟨s2.heap.objs.size + 1, [s2.heap.objs.size + 1, s2.heap.objs.size], _, _, H2, rfl, I3, turn_k k a (s2.heap.objs.size + 1) s2.heap.objs.size, ⟨⟨⟨.none, ?_⟩, ⟨_, hit, rfl, rfl⟩⟩, Nat.succ_ne_self _⟩, fun b hb => ?_, q⟩
  · rw [show k + ((0 : Nat) : Int) = k by omega]; exact he
  · have new' : s2.heap.objs.size ≤ b := by
      rcases two_mem hb with rfl | rfl
      · exact Nat.le_succ _
      · exact Nat.le_refl _
    exact I2.fpOk new' (I2.hok.fresh new')
/-- a loop over it, as long as the list stands -/
theorem for_k {K : PySem.W.Frag} {k : Int} {a : Addr} {xs : List V} {g : TG} {tb : TS} {D : Ends} {σ : L2.St} {H : Hp} (Pv : Nat → L2.St → Hp → Prop) (h0 : Pv 0 σ H) (hl : ∀ i σ H, i ≤ xs.length → Pv i σ H → SqL K H a xs)
    (hs : ∀ (i : Nat) (x : V) (T : Addr) (σ : L2.St) (H : Hp), xs[i]? = some x → Pv i σ H → H T = none → g (.ref T) σ (upd H T (.tup [.int (k + (i : Nat)), x])) fun σ2 H2 => tb { D with nx := Pv (i + 1), ct := Pv (i + 1), bk := D.nx } σ2 H2)
    (hd : ∀ σ H, Pv xs.length σ H → D.nx σ H) : ∃ W : Nat → Nat → L2.St → Hp → Prop, (∃ m, W 0 m σ H) ∧ ∀ i m σ H, W i m σ H → ((ItK K k a).stop i H ∧ D.nx σ H) ∨
      ((ItK K k a).go i H ∧ ∃ N : L2.St → Hp → Prop, (∀ σ' H', N σ' H' → ∃ m', m' < m ∧ W (i + 1) m' σ' H') ∧ ∀ v H', (ItK K k a).yld i H v H' → g v σ H' fun σ2 H2 => tb { D with nx := N, ct := N, bk := D.nx } σ2 H2) := by
  refine ⟨fun i m σ H => i + m = xs.length ∧ Pv i σ H, ⟨xs.length, Nat.zero_add _, h0⟩, ?_⟩
  rintro i m σ H ⟨sum, now⟩
  have hS := hl i σ H (by omega) now
  cases m with
  | zero => exact .inl ⟨⟨xs, hS, sum.symm⟩, hd σ H (sum ▸ now)⟩
  | succ m =>
    have lt : i < xs.length := by omega
    refine .inr ⟨⟨xs, _, hS, List.getElem?_eq_getElem lt⟩, Pv (i + 1), fun σ' H' next => ⟨m, Nat.lt_succ_self m, by omega, next⟩, ?_⟩
    rintro v H' ⟨T, x, rfl, nT, rfl, hy⟩
    exact hs i x T σ H (hy xs hS) now nT
end Ray
end
section
set_option Elab.async false
set_option linter.all false
set_option maxRecDepth 100000
set_option maxHeartbeats 3000000
namespace Ray
open PySem PySem.Spec PyProof.Rows L2
/-! ### set(xs), xs many tuples of ints, few of them different -/
/-- what a set has got from the first i: a row for each different one -/
structure Had (ks : List (Addr × List Int)) (i : Nat) (L : List (Addr × List Int)) : Prop where
  sub : ∀ p ∈ L, p ∈ ks.take i
  every : ∀ p ∈ ks.take i, p.2 ∈ L.map (·.2)
/-- the different ones are among D, which is short -/
structure Few (ks : List (Addr × List Int)) (D : List (List Int)) : Prop where
  mem : ∀ p ∈ ks, p.2 ∈ D
  len : D.length ≤ 60
theorem Few.bound {ks L : List (Addr × List Int)} {D : List (List Int)} {i : Nat} (F : Few ks D) (h : Had ks i L) (nd : (L.map (·.2)).Nodup) : L.length + 1 < 64 := by
  have q := nodup_le (L.map (·.2)) D nd fun x hx => by
    obtain ⟨p, hp, rfl⟩ := List.mem_map.mp hx
    exact F.mem p (List.mem_of_mem_take (h.sub p hp))
  rw [List.length_map] at q
  have := F.len
  omega
section
variable {A : Around} {s : Shared} {P : Program} {w : World} {E : Value → Shared → Prop}
theorem set_loop {I : Addr} {fp wr : List Addr} {G : Array GenState → Array GenState → Prop} {n : Nat} {Pv : Nat → Value → Prop} {St : Nat → Shared → Prop} {R : Result → Shared → Prop} {ks : List (Addr × List Int)} {D : List (List Int)}
    (W : WalksS P w A.in1 I fp wr G n Pv St) (S : Addr) (off : S ∉ fp) (hn : n = ks.length) (few : Few ks D) (val : ∀ i v, Pv i v → ∃ p, ks[i]? = some p ∧ v = .ref p.1)
    (b0 : Heap) (tup : ∀ p ∈ ks, IsT P w b0 p.2 p.1) (noS : b0.get? S = none) (noW : ∀ b ∈ wr, b0.get? b = none) (hu : A.in1.units < cLine) :
    ∀ (m i : Nat) (t : Shared), n - i = m → i ≤ n → St i t → (∀ b o, b0.get? b = some o → t.heap.get? b = some o) → (∃ L es ep tb, SetTR P w t.heap S L es ep tb ∧ Had ks i L) →
      (∀ t' L es ep tb, Moved (S :: wr) G t t' → SetTR P w t'.heap S L es ep tb → Had ks n L → (∀ b o, b0.get? b = some o → t'.heap.get? b = some o) → R (.ok (.ret .none)) t') →
      codeAny (model P w) A (.builtin "set.update.loop" ⟨[.ref S, .ref I], []⟩) R t := by
  have offW : S ∉ wr := fun z => off (W.sub _ z)
  have up : ∀ b ∈ wr, b ∈ S :: wr := fun b z => List.mem_cons_of_mem _ z
  have stays : ∀ {t t' : Shared}, Moved wr G t t' → (∀ b o, b0.get? b = some o → t.heap.get? b = some o) → ∀ b o, b0.get? b = some o → t'.heap.get? b = some o := by
    intro t t' mv kp b o e
    refine mv.heap b o (fun z => ?_) (kp b o e)
    rw [noW b z] at e
    cases e
  have again : ∀ {t t' : Shared} {L es ep tb} {i : Nat}, Moved wr G t t' → (∀ b o, b0.get? b = some o → t.heap.get? b = some o) → SetTR P w t.heap S L es ep tb → Had ks i L → SetTR P w t'.heap S L es ep tb := by
    intro t t' L es ep tb i mv kp q g
    exact q.keep (fun o e => mv.heap S o offW e) fun p hp => isT_keep (tup p (List.mem_of_mem_take (g.sub p hp))) (stays mv kp)
  have turn : ∀ (t : Shared) (R : Result → Shared → Prop), wpAny (model P w) A.in1 (Builtin.«set.update.loop» ⟨[.ref S, .ref I], []⟩) (fun fin s' => match fin with | .done f => R (.ok f) s' | .again c' => c'.quiet = true ∧ codeAny (model P w) A c' R s') (fun e s' => R (.error e) s') t → codeAny (model P w) A (.builtin "set.update.loop" ⟨[.ref S, .ref I], []⟩) R t := by
    intro t R h
    exact codeAny_builtin F.entry_set_update_loop (by rw [Around.under_plainId F.plain_set_update_loop _]; exact h)
  intro m
  induction m with
  | zero =>
    rintro i t hm hi hst kp ⟨L, es, ep, tb, hS, g⟩ hR
    obtain rfl : i = n := by omega
    refine turn t R (wpAny_bind (m := pyNext (.ref I)) (W.done t _ _ hst fun t' mv => ?_))
    exact wpAny_pure (hR t' L es ep tb (mv.mono up) (again mv kp hS g) g (stays mv kp))
  | succ m ih =>
    rintro i t hm hi hst kp ⟨L, es, ep, tb, hS, g⟩ hR
    have hlt : i < n := by omega
    refine turn t R (wpAny_bind (m := pyNext (.ref I)) (W.item i t _ _ hlt hst fun v t' hv hst' mv => ?_))
    obtain ⟨p, hp, rfl⟩ := val i v hv
    have kp' := stays mv kp
    have hS' := again mv kp hS g
    have hx : IsT P w t'.heap p.2 p.1 := isT_keep (tup p (List.mem_of_getElem? hp)) kp'
    refine wpAny_bind (m := holding [Value.ref p.1] (setAdd S (.ref p.1))) (wpAny_holding ?_)
    unfold setAdd
    refine wpAny_holding (wpAny_bind (wpAny_pyHash_tuple hu hx ?_))
    refine add_at (s := { t' with toks := t'.toks + (p.2.length + 1) }) hS' hx hu (few.bound g hS'.nd) fun b h2 L2 es2 ep2 tb2 sb hS2 c1 c2 => ?_
    have tk : ks.take (i + 1) = ks.take i ++ [p] := by rw [List.take_add_one, hp]; rfl
    have g2 : Had ks (i + 1) L2 := by
      by_cases c : p.2 ∈ L.map (·.2)
      · rw [c1 c]
        refine ⟨fun q hq => by rw [tk]; exact List.mem_append_left _ (g.sub q hq), fun q hq => ?_⟩
        rw [tk] at hq
        rcases List.mem_append.mp hq with z | z
        · exact g.every q z
        · rw [List.mem_singleton.mp z]; exact c
      · have pm := c2 c
        refine ⟨fun q hq => ?_, fun q hq => ?_⟩
        · rw [tk]
          rcases List.mem_cons.mp (pm.mem_iff.mp hq) with z | z
          · exact List.mem_append_right _ (List.mem_singleton.mpr z)
          · exact List.mem_append_left _ (g.sub q z)
        · refine (pm.map (·.2)).mem_iff.mpr (show q.2 ∈ p.2 :: L.map (·.2) from ?_)
          rw [tk] at hq
          exact (List.mem_append.mp hq).elim (fun z => List.mem_cons_of_mem _ (g.every q z)) fun z => by rw [List.mem_singleton.mp z]; exact List.mem_cons_self ..
    have kp2 : ∀ b o, b0.get? b = some o → h2.get? b = some o := by
      intro b o e
      refine (sb.2 b fun z => ?_).trans (kp' b o e)
      rw [z, noS] at e
      cases e
    refine wpAny_pure ⟨plainId_quiet F.plain_set_update_loop _, ih (i + 1) _ (by omega) hlt (W.frame _ t' _ _ hst' (Nat.le_add_right _ _) fun b hb o e => ?_) kp2 ⟨L2, es2, ep2, tb2, hS2, g2⟩ fun t3 L3 es3 ep3 tb3 mv3 hS3 g3 kp3 => ?_⟩
    · rw [sb.2 b fun z => off (by rw [← z]; exact hb)]; exact e
    · refine hR t3 L3 es3 ep3 tb3 (Moved.trans W.gtrans ((mv.mono up).then_heap (Nat.le_add_right _ _) fun b o hb e => ?_) mv3) hS3 g3 kp3
      rw [sb.2 b fun z => hb (by rw [z]; exact List.mem_cons_self)]; exact e
def newSet (w : World) : Obj := { cls := .type "set", dict := none, data := .set #[] 0 (.fresh 0 0 (!w.params.followText "set-order")) }
/-- set.__init__ of a new set and a list of tuples -/
theorem set_init {R : Result → Shared → Prop} {l S : Addr} {items : Array Value} {ks : List (Addr × List Int)} {D : List (List Int)} {h1 : Heap} (hh : A.handled = none) (hl : s.heap.IsList l items) (hit : items.toList = ks.map fun p => Value.ref p.1)
    (tup : ∀ p ∈ ks, IsT P w s.heap p.2 p.1) (few : Few ks D) (hu : A.units + 2 < cLine) (eS : S = s.heap.objs.size) (e1 : h1 = s.heap.push (newSet w))
    (h : ∀ (h' : Heap) (tk : Nat) L es ep tb, SetTR P w h' S L es ep tb → Had ks ks.length L → (∀ b o, s.heap.get? b = some o → h'.get? b = some o) → R (.ok (.ret .none)) { s with heap := h', toks := tk }) :
    wpAny (model P w) A.in1 (Builtin.«set.__init__» ⟨[.ref S, .ref l], []⟩)
      (fun fin s' => match fin with | .done f => R (.ok f) s' | .again c' => c'.quiet = true ∧ codeAny (model P w) A c' R s') (fun e s' => R (.error e) s') { s with heap := h1 } := by
  have hisz : items.size = ks.length := by rw [← Array.length_toList, hit, List.length_map]
  have gS : h1.get? S = some (newSet w) := by rw [e1, eS]; exact Heap.get?_push_size _ rfl
  have kp : ∀ b o, s.heap.get? b = some o → h1.get? b = some o := fun b o e => by rw [e1]; exact Heap.get?_push_of_some _ e
  have hz1 : h1.objs.size = S + 1 := by rw [e1, eS]; exact Heap.size_push ..
  have hlS : l < S := by
    obtain ⟨ol, hol, _⟩ := hl
    rw [eS]; exact Heap.lt_size hol
  have noS : ∀ b, S ≤ b → s.heap.get? b = none := fun b hb => by
    cases q : s.heap.get? b with
    | none => rfl
    | some o => exact absurd (Nat.lt_of_lt_of_le (Heap.lt_size q) (by rw [← eS]; exact hb)) (Nat.lt_irrefl _)
  have val : ∀ (i : Nat) (v : Value), items[i]? = some v → ∃ p, ks[i]? = some p ∧ v = .ref p.1 := fun i v hv => by
    rw [← Array.getElem?_toList, hit, List.getElem?_map] at hv
    cases q : ks[i]? with
    | none => rw [q] at hv; cases hv
    | some p => rw [q] at hv; exact ⟨p, rfl, (Option.some.inj hv).symm⟩
  obtain ⟨⟨cls, dict, data, slots⟩, hol, rfl, nl, rfl⟩ := id hl
  have gl := kp _ _ hol
  have hl1 : h1.IsList l items := ⟨_, gl, rfl, nl, rfl⟩
  have n1 := F.sub_list_set
  have n2 := F.sub_list_frozenset
  have n3 : (Value.type "list" == Value.type "dict") = false := by decide
  clear e1
  delta Builtin.«set.__init__» noKeywords Builtin.Frozenset.updateFrom
  generalize hPI : pyIter = PI
  wp_walk
  subst hPI
  refine wpAny_pyIter_list hl1 (wpAny_bind (wpAny_runValue ?_))
  have hI : l ≠ h1.objs.size := by rw [hz1]; exact Nat.ne_of_lt (Nat.lt_succ_of_lt hlS)
  have off : S ∉ [h1.objs.size, l] := by
    rw [hz1]
    simp only [List.mem_cons, List.not_mem_nil, or_false, not_or]
    exact ⟨Nat.ne_of_lt (Nat.lt_succ_self S), (Nat.ne_of_lt hlS).symm⟩
  have W := (Walks.list (prog := P) (w := w) (A := A.in1.in1) hh h1.objs.size l hI items).toS
  have gS2 := Heap.get?_push_of_some ({ cls := .type "list_iterator", data := .fields #[.ref l, .int 0 0] } : Obj) gS
  refine set_loop (A := A.in1) W S off hisz few val s.heap tup (noS _ (Nat.le_refl _)) (fun b hb => noS b ?_) hu (items.size - 0) 0 _ rfl (Nat.zero_le _) ⟨⟨_, Heap.get?_push_size _ rfl, rfl, rfl⟩, hl1.push _⟩ (fun b o e => Heap.get?_push_of_some _ (kp b o e)) ⟨[], #[], 0, _, setTR_fresh gS2, ⟨fun p hp => (by cases hp), fun p hp => (by simp at hp)⟩⟩ ?_
  · rw [List.mem_singleton.mp hb, hz1]; exact Nat.le_succ _
  · intro t L es ep tb mv hS g kp3
    obtain ⟨h', g2, d', tk', os'⟩ := t
    obtain rfl : g2 = s.gens := mv.gens
    obtain rfl : d' = s.drawn := mv.drawn
    obtain rfl : os' = s.os := mv.os
    rw [hisz] at g
    exact wpAny_pure (wpAny_pure (h h' tk' L es ep tb hS g kp3))
end
end Ray
end
section
set_option Elab.async false
set_option linter.all false
set_option maxRecDepth 100000
set_option maxHeartbeats 3000000
namespace Ray
open PySem PySem.Spec PyProof.Rows L2
section
variable {A : Around} {s : Shared} {P : Program} {w : World} {E : Value → Shared → Prop}
theorem set_few {l : Addr} {items : Array Value} {ks : List (Addr × List Int)} {D : List (List Int)} {Q : Value → Shared → Prop} (hh : A.handled = none) (hl : s.heap.IsList l items) (hit : items.toList = ks.map fun p => Value.ref p.1)
    (tup : ∀ p ∈ ks, IsT P w s.heap p.2 p.1) (few : Few ks D) (hu : A.units + 3 < cLine)
    (h : ∀ (h' : Heap) (tk : Nat) L es ep tb, SetTR P w h' s.heap.objs.size L es ep tb → Had ks ks.length L → (∀ b o, s.heap.get? b = some o → h'.get? b = some o) → Q (.ref s.heap.objs.size) { s with heap := h', toks := tk }) : wpAny (model P w) A (call (.type "set") [.ref l]) Q E s := by
  obtain ⟨c, tl, q1⟩ := F.called_set.mro
  have q2 := F.called_set.made
  have q3 := F.called_set.sub
  have q4 := F.called_set.notType
  have q5 := F.called_set.canCreate
  have q6 := F.typeCall_set_1 (Value.ref l)
  refine wpAny_call (codeAny_of_tree (show wpAny _ _ (callAny (.type "set") _) _ _ _ from wpAny_pure ⟨Code.quiet_builtin _ (by decide +kernel), codeAny_builtin F.entry_type_call ?_⟩))
  rw [Around.under_plain (weight_type_call_type "set" [Value.ref l] []) rfl]
  repeat any_goals first | assumption | wp_step
  refine codeAny_mono (code_set_led1 (.ref l) (E := E) (Q₁ := fun v t => v = .ref s.heap.objs.size ∧ t = { s with heap := s.heap.push (newSet w) }) ⟨rfl, rfl⟩) fun r s1 hr => ?_
  cases r with
  | error e => exact hr
  | ok fl =>
    cases fl with
    | ret obj =>
      obtain ⟨rfl, rfl⟩ := hr
      have hT : Shared.TypeIs { s with heap := s.heap.push (newSet w) } (.ref s.heap.objs.size) "set" := ⟨_, Heap.get?_push_size _ rfl, rfl⟩
      have q7 := F.called_set.init.lookup
      have q8 := F.called_set.init.bind (.ref s.heap.objs.size)
      repeat any_goals first | assumption | wp_step
      refine codeAny_mono (codeAny_call_builtin (R := wants (fun r t => r = .none ∧ ∃ h' tk L es ep tb, t = { s with heap := h', toks := tk } ∧ SetTR P w h' s.heap.objs.size L es ep tb ∧ Had ks ks.length L ∧ ∀ b o, s.heap.get? b = some o → h'.get? b = some o) E)
        F.called_set.init.plain F.entry_set_init (check_set_init_1 hT (set_init (A := A.in1) hh hl hit tup few hu rfl rfl fun h' tk L es ep tb a1 a2 a3 => ⟨rfl, h', tk, L, es, ep, tb, rfl, a1, a2, a3⟩))) fun r2 s2 hr2 => ?_
      cases r2 with
      | error e => exact hr2
      | ok fl2 =>
        cases fl2 with
        | ret r =>
          obtain ⟨rfl, h', tk, L, es, ep, tb, rfl, a1, a2, a3⟩ := hr2
          repeat any_goals first | assumption | wp_step
          exact h _ _ _ _ _ _ a1 a2 a3
        | _ => exact hr2.elim
    | _ => exact hr.elim
end
section
variable {X : Cx}
/-- len(set(xs)): how many are different -/
def tLenSetT (K : PySem.W.Frag) (ta : TE) : TE := fun σ H Q => ta σ H fun x H1 => ∃ (l : Addr) (ks : List (Addr × List Int)) (D : List (List Int)), x = V.ref l ∧ SqL K H1 l (ks.map fun p => V.ref p.1) ∧ (∀ p ∈ ks, SqT K H1 p.1 (p.2.map V.int)) ∧ Few ks D ∧
  ∀ (L : List (List Int)), L.Nodup → (∀ x ∈ L, x ∈ ks.map (·.2)) → (∀ x ∈ ks.map (·.2), x ∈ L) → Q (.int (L.length : Nat)) H1
theorem pe_lenSetT {a : Expr} {ta : TE} {p p2 q pos : Pos} (hc : X.calm = true) (hu : X.A.units + 64 < cLine) (hg : Gl X "len") (hm : X.mg "len" = none) (hg2 : Gl X "set") (hm2 : X.mg "set" = none) (ha : PE X a ta)
    (na : starEach [a] X.env = (false, eval a X.env) :: starEach [] X.env := by rfl) : PE X (.Call (.Name "len" p) [.Call (.Name "set" p2) [a] [] q] [] pos) (tLenSetT X.K ta) := by
  refine ⟨fun pins s σ H Q I h => ?_⟩
  refine Call_ (ld_blt I hg hm PySem.boot_len (PyProof.Rows.callWith_builtin1 (PyProof.Rows.args_cons (Call_ (ld_blt I hg2 hm2 PyProof.Rows.boot_set (PyProof.Rows.callWith_type1 (PyProof.Rows.args_cons (thn (ha.run pins s σ H _ I h) fun v s1 ⟨x, H1, I1, r1, q1⟩ => PyProof.Rows.args_nil ?_) na) na rfl))) rfl) rfl rfl))
  obtain ⟨l, ks, D, rfl, hq, hk, few, q1⟩ := q1
  cases r1
  obtain ⟨its, r, pl, -⟩ := I1.list hq
  refine set_few (P := X.prog) (w := X.w) (ks := ks) (I1.ok.hd hc) pl.isList (by simpa using refs_of_vals r) (fun p hp => I1.isT (hk p hp)) few (by omega) fun h' tk L es ep tb R g kp => PyProof.Rows.args_nil ?_
  obtain ⟨o, at_, exact_, data_⟩ := R.ob
  have hn : es.size = L.length := SetTR.size (s := { s1 with heap := h', toks := tk }) R
  have hf : tb.fits es.size = true := SetTR.fits (s := { s1 with heap := h', toks := tk }) R
  have hb := few.bound g R.nd
  have now : Inv X pins σ H1 { s1 with heap := h', toks := tk } := I1.kept (t' := tk) kp
  refine call_len_set (s := { s1 with heap := h', toks := tk }) at_ exact_ data_ hf (by omega) ⟨.int (L.length : Nat), H1, now.tok _, ⟨_, by rw [hn]⟩, ?_⟩
  have e : (L.map (·.2)).length = L.length := List.length_map _
  have q2 := q1 (L.map (·.2)) R.nd (fun x hx => ?_) fun x hx => ?_
  · rw [e] at q2; exact q2
  · obtain ⟨p, hp, rfl⟩ := List.mem_map.mp hx
    exact List.mem_map.mpr ⟨p, List.mem_of_mem_take (g.sub p hp), rfl⟩
  · obtain ⟨p, hp, rfl⟩ := List.mem_map.mp hx
    exact g.every p (by rw [List.take_length]; exact hp)
end
end Ray
end
section
set_option Elab.async false
set_option linter.all false
set_option maxRecDepth 100000
set_option maxHeartbeats 2000000
namespace Ray
open PySem PySem.Spec PyProof.Rows L2
/-! ### the text by places -/
def topS (i : Nat) : Stmt := PySem.Challenge.pw_raylayers_s01_answers.main.body.getD i (.Pass ⟨0, 0, 0, 0⟩)
abbrev sPos : Stmt := topS 11
/-- natural numbers as values -/
def nI (l : List Nat) : List V := l.map fun (x : Nat) => V.int (x : Int)
theorem nI_length (l : List Nat) : (nI l).length = l.length := List.length_map _
theorem nI_get {l : List Nat} {i : Nat} {y : V} (h : (nI l)[i]? = some y) : ∃ x, l[i]? = some x ∧ y = V.int (x : Int) := by
  unfold nI at h
  rw [List.getElem?_map] at h
  cases e : l[i]? with
  | none =>
    rw [e] at h
    cases h
  | some z => rw [e] at h; exact ⟨z, rfl, (Option.some.inj h).symm⟩
theorem nI_at {l : List Nat} {i x : Nat} (h : l[i]? = some x) : (nI l)[i]? = some (V.int (x : Int)) := by
  unfold nI
  rw [List.getElem?_map, h]; rfl
theorem nI_append (l m : List Nat) : nI (l ++ m) = nI l ++ nI m := List.map_append
/-- a bound on all lists that come in -/
def big : Nat := 100000
theorem big_line {n : Nat} (h : n ≤ big) : n < sizeLine := Nat.lt_of_le_of_lt h (by decide)
def huge : Nat := 16000000
theorem lt_huge {n : Nat} (h : n < big) : n < huge := Nat.lt_trans h (by decide)
theorem huge_line {n : Nat} (h : n < huge) : 1 + n ≤ sizeLine := by
  have : (16000000 : Nat) < sizeLine := by decide
  have h' : n < 16000000 := h
  omega
theorem same_put {H H' : Hp} {p : Addr} {o : HO} (s : Same H H') (np : H p = none) : Same H (upd H' p o) := fun b q e => by
  rw [upd_ne (ne_of_none e np)]; exact s b q e
theorem same_new {H H' : Hp} {p : Addr} {o : HO} (s : Same H H') (np : H' p = none) : Same H (upd H' p o) := same_put s (s.free np)
theorem yes_of {c : Bool} {A B : Prop} (hc : c = true) (h : A) : if c = true then A else B := by rw [hc]; exact iteT h
theorem no_of {c : Bool} {A B : Prop} (hc : c = false) (h : B) : if c = true then A else B := by rw [hc]; exact iteF h
theorem int_ne {i j : Int} (h : i ≠ j) : decide (V.int i = V.int j) = false := decide_eq_false fun e => h (V.int.inj e)
theorem int_eq {i j : Int} (h : i = j) : decide (V.int i = V.int j) = true := decide_eq_true (by rw [h])
section
variable {P : Program} {w : World} {K : PySem.W.Frag} {mg : Str → Option Value} {base : Heap}
/-! ### positions(word) -/
def spPos (K : PySem.W.Frag) : Sp := fun vs H Q _ => ∃ (a : Addr) (w : List Nat), vs = [.ref a] ∧ SqL K H a (nI w) ∧ w.length < big ∧
  ∀ (H' : Hp) (p : Addr), Same H H' → H p = none → H' p = some (.lst (nI (plcs w w.length))) → Q (.ref p) H'
theorem scPos : FnScope ["word", "place", "places", "step"] ["word"] (defScope sPos) := ⟨rfl, rfl, rfl, by decide +kernel, rfl, by decide +kernel, by decide +kernel⟩
theorem ok_pos {f : Addr} {fd : FuncData} (F : Fun K "positions" "positions" sPos f fd) : FnOk P w K mg base CX0 1 f fd ["word"] (spPos K) := by
  refine F.ok scPos (fun vs H Q E h => ?_) (fun cdv A outer s H vs Q E hr h => ⟨_, pss_cons (ps_set (i := 1) scPos.nd rfl (Or.inl rfl) pe_int)
    (pss_cons (ps_set (i := 2) scPos.nd rfl (Or.inl rfl) (pe_lst (pa_cons (pv 1) pa_nil)))
    (pss_cons (ps_for PassesOwn.never rfl (pi_list (pv 0)) (pg_name (i := 3) scPos.nd rfl (Or.inl rfl))
      (pss_cons (ps_set (i := 1) scPos.nd rfl (Or.inl rfl) (pe_op op_mod (pe_op op_add (pv 1) (pe_ifExp (pt_cmpR op_eq (pv 3) pe_int (nomark _)) pe_int pe_int)) pe_int))
      (pss_one (ps_expr (pe_bm PySem.F.plainAttrs_list PySem.F.slot_list_append PySem.F.type_list_append mt_append (pv 2) (pa_cons (pv 1) pa_nil))))))
    (pss_one (ps_ret (pv 2))))), ?_⟩)
  · obtain ⟨a, w, rfl, _⟩ := h
    rfl
  · obtain ⟨a, wd, rfl, hS, hlen, k⟩ := h
    refine ⟨_, rfl, (by show 1 ≤ sizeLine; decide), fun p np => ?_⟩
    refine ⟨_, rfl, a, rfl, ⟨_, (same_put (.refl H) np).seq hS⟩, for_list (K := K) (a := a) (xs := nI wd) (fun i σ H' => ∃ v : Option V, σ = [some (.ref a), some (.int (plc wd i : Nat)), some (.ref p), v] ∧ Same H H' ∧ H' p = some (.lst (nI (plcs wd i))))
      ⟨none, by rw [plc_zero]; rfl, same_put (.refl H) np, by rw [plcs_zero]; exact upd_same⟩ (fun i σ H' _ ⟨_, _, e, _⟩ => e.seq hS) ?_ ?_⟩
    · rintro i y σ H' hi ⟨v, rfl, sm, hp⟩
      obtain ⟨x, hx, rfl⟩ := nI_get hi
      have hlt : i < wd.length := (List.getElem?_eq_some_iff.mp hx).1
      have hz : (nI (plcs wd i)).length < sizeLine := by rw [nI_length, plcs_length]; exact big_line (Nat.lt_of_le_of_lt hlt hlen |> Nat.le_of_lt)
      have e1 := plc_succ hx
      have fin : ∀ z : Int, z = ((plc wd (i + 1) : Nat) : Int) → nI (plcs wd i) ++ [V.int z] = nI (plcs wd (i + 1)) := fun z hz => by
        rw [hz, plcs_succ, nI_append]; rfl
      refine ⟨_, rfl, _, rfl, rfl, _, rfl, ?_⟩
      by_cases h1 : x = 1
      · subst h1
        have g : (((plc wd i : Nat) : Int) + 1) % 3 = ((plc wd (i + 1) : Nat) : Int) := by rw [e1]; unfold Kqi6.gain; simp
        refine yes_of rfl ⟨_, _, rfl, rfl, _, _, rfl, rfl, (by show (0 : Int) < 3; decide), ?_⟩
        refine ⟨_, rfl, .inl ⟨rfl, _, SqL.of hp⟩, _, rfl, p, _, _, rfl, rfl, hp, hz, ⟨some (.int ((1 : Nat) : Int)), ?_, same_put sm np, ?_⟩⟩
        · rw [← g]; rfl
        · rw [upd_same, fin _ g]
      · have g : (((plc wd i : Nat) : Int) + 2) % 3 = ((plc wd (i + 1) : Nat) : Int) := by rw [e1]; unfold Kqi6.gain; simp [h1]
        refine no_of (int_ne (by omega)) ⟨_, _, rfl, rfl, _, _, rfl, rfl, (by show (0 : Int) < 3; decide), ?_⟩
        refine ⟨_, rfl, .inl ⟨rfl, _, SqL.of hp⟩, _, rfl, p, _, _, rfl, rfl, hp, hz, ⟨some (.int (x : Int)), ?_, same_put sm np, ?_⟩⟩
        · rw [← g]; rfl
        · rw [upd_same, fin _ g]
    · rintro σ H' ⟨v, rfl, sm, hp⟩
      rw [nI_length] at hp
      exact ⟨_, rfl, k _ p sm np hp⟩
end
end Ray
end
section
set_option Elab.async false
set_option linter.all false
set_option maxRecDepth 100000
set_option maxHeartbeats 2000000
namespace Ray
open PySem PySem.Spec PyProof.Rows L2
abbrev sClo : Stmt := topS 12
abbrev sOnl : Stmt := topS 13
abbrev sIsl : Stmt := topS 14
abbrev sIsw : Stmt := topS 15
abbrev sRef : Stmt := topS 16
abbrev sRfb : Stmt := topS 17
abbrev sPai : Stmt := topS 23
abbrev sTab : Stmt := topS 24
abbrev sWit : Stmt := topS 25
/-- a def of the top that keeps its promise -/
structure Has (P : Program) (w : World) (K : PySem.W.Frag) (mg : Str → Option Value) (base : Heap) (name : Str) (k : Nat) (ps : List Str) (sp : Sp) : Prop where
  ex : ∃ (f : Addr) (fd : FuncData), mg name = some (.ref f) ∧ FnOk P w K mg base CX0 k f fd ps sp ∧ PySem.W.keepIn K (.ref f) = true ∧ Binds K fd ps []
section
variable {P : Program} {w : World} {K : PySem.W.Frag} {mg : Str → Option Value} {base : Heap}
/-! ### closes(word) -/
def spClo (K : PySem.W.Frag) : Sp := fun vs H Q _ => ∃ (a : Addr) (w : List Nat), vs = [.ref a] ∧ SqL K H a (nI w) ∧ w.length < big ∧ ∀ H' : Hp, Same H H' → Q (.bl (Kqi6.closes w)) H'
theorem scClo : FnScope ["word"] ["word"] (defScope sClo) := ⟨rfl, rfl, rfl, by decide +kernel, rfl, by decide +kernel, by decide +kernel⟩
theorem ok_clo {f : Addr} {fd : FuncData} (F : Fun K "closes" "closes" sClo f fd) (D : Has P w K mg base "positions" 1 ["word"] (spPos K)) (mlen : mg "len" = none) : FnOk P w K mg base CX0 2 f fd ["word"] (spClo K) := by
  obtain ⟨fp, fdp, mp, G, kp, bp⟩ := D.ex
  refine F.ok scClo (fun vs H Q E h => ?_) (fun cdv A outer s H vs Q E hr h => ⟨_, pss_one (ps_ret (pe_cmpR op_eq (pe_ix ix_list (pe_call G hr rfl mp kp bp .nil pass0 (pa_cons (pv 0) pa_nil))
    (pe_callB call_len_seq (by rfl) mlen PySem.boot_len (pa_cons (pv 0) pa_nil)) (fun _ _ => rfl)) pe_int (nomark _))), ?_⟩)
  · obtain ⟨a, w, rfl, _⟩ := h
    rfl
  · obtain ⟨a, wd, rfl, hS, hlen, k⟩ := h
    refine ⟨_, rfl, a, wd, rfl, hS, hlen, fun H' p sm np hp => ?_⟩
    refine ⟨_, rfl, a, _, rfl, .inl (sm.seq hS), p, _, _, V.int ((plc wd wd.length : Nat) : Int), rfl, rfl, SqL.of hp, ?_, rfl, ?_⟩
    · rw [nI_length]; exact atI_nat (nI_at (plcs_get (Nat.le_refl _)))
    · have e : decide (V.int ((plc wd wd.length : Nat) : Int) = V.int 0) = Kqi6.closes wd := by
        rw [closes_iff]
        by_cases h0 : plc wd wd.length = 0
        · rw [int_eq (by omega), h0]; rfl
        · rw [int_ne (by omega)]; simp [h0]
      rw [e]
      exact k H' sm
/-! ### only_steps(numbers) -/
def onl (w : List Nat) : Bool := w.all fun x => decide (x ≤ 1)
def spOnl (K : PySem.W.Frag) : Sp := fun vs H Q _ => ∃ (a : Addr) (w : List Nat), vs = [.ref a] ∧ SqL K H a (nI w) ∧ w.length < big ∧ ∀ H' : Hp, Same H H' → Q (.bl (onl w)) H'
theorem scOnl : FnScope ["numbers", "number"] ["numbers"] (defScope sOnl) := ⟨rfl, rfl, rfl, by decide +kernel, rfl, by decide +kernel, by decide +kernel⟩
theorem inV01 (x : Nat) : inV (V.int (x : Int)) [V.int 0, V.int 1] = decide (x ≤ 1) := by
  unfold inV eqV
  by_cases h0 : x = 0
  · subst h0; rfl
  · by_cases h1 : x = 1
    · subst h1; rfl
    · have e0 : ((0 : Int) == (x : Int)) = false := by simpa using fun h => h0 (by omega)
      have e1 : ((1 : Int) == (x : Int)) = false := by simpa using fun h => h1 (by omega)
      simp only [List.any_cons, List.any_nil, e0, e1, Bool.or_false]
      exact (decide_eq_false (show ¬ x ≤ 1 by omega)).symm
theorem ok_onl {f : Addr} {fd : FuncData} (F : Fun K "only_steps" "only_steps" sOnl f fd) (mall : mg "all" = none) : FnOk P w K mg base CX0 1 f fd ["numbers"] (spOnl K) := by
  refine F.ok scOnl (fun vs H Q E h => ?_) (fun cdv A outer s H vs Q E hr h => ⟨_, pss_one (ps_ret (pe_callB (cr_all rfl) (by rfl) mall (by decide +kernel) (pa_cons
    (pe_lc (own := [("number", 1)]) (g := gName 1) (tt := tYes) (te := tOp (rIn K false) (tVar 1) (tTup (tCons (tC (.int 0)) (tCons (tC (.int 1)) tNil)))) rfl scOnl.nd (pi_list (pv 0)) (blkOk_by (N := ["numbers", "number"]) (sc := defScope sOnl) (by decide +kernel)) (fun _ _ _ _ _ => pg_name (i := 1) scOnl.nd rfl (Or.inl rfl)) (fun _ _ _ _ _ => pts_nil)
      (fun _ _ _ _ _ => pe_cmpR op_in_seq (pv 1) (pe_tup (pa_cons pe_int (pa_cons pe_int pa_nil))) (by rfl))) pa_nil))), ?_⟩)
  · obtain ⟨a, w, rfl, _⟩ := h
    rfl
  · obtain ⟨a, wd, rfl, hS, hlen, k⟩ := h
    refine ⟨_, rfl, a, rfl, ⟨_, hS⟩, fun D hD => lc_list (K := K) (a := a) (xs := nI wd) (fun i H' => Same H H' ∧ H' D = some (.lst ((wd.take i).map fun x => V.bl (decide (x ≤ 1))))) ⟨same_put (.refl H) hD, upd_same⟩ (fun i H' _ e => e.1.seq hS) ?_ ?_⟩
    · rintro i y H' hi ⟨sm, hp⟩
      obtain ⟨x, hx, rfl⟩ := nI_get hi
      refine ⟨rfl, _, rfl, (by show 2 ≤ sizeLine; decide), fun p np => ?_⟩
      have hp' : (upd H' p (.tup [V.int 0, V.int 1])) D = some (.lst ((wd.take i).map fun x => V.bl (decide (x ≤ 1)))) := by
        rw [upd_ne (ne_of_none hp np)]; exact hp
      refine ⟨p, _, rfl, .inr (SqT.of upd_same), rfl, rfl, _, hp', ?_, ?_⟩
      · rw [List.length_map, List.length_take]
        exact big_line (by omega)
      · refine ⟨same_put (same_new sm np) hD, ?_⟩
        rw [upd_same, take_more hx, List.map_append]
        show some (HO.lst (_ ++ [V.bl (inV (V.int (x : Int)) [V.int 0, V.int 1])])) = _
        rw [inV01]; rfl
    · rintro H' ⟨sm, hp⟩
      rw [nI_length, List.take_length] at hp
      refine ⟨D, wd.map fun x => decide (x ≤ 1), rfl, ?_, ?_⟩
      · rw [List.map_map]; exact SqL.of hp
      · have e : (wd.map fun x => decide (x ≤ 1)).all id = onl wd := by
          rw [List.all_map]; rfl
        rw [e]
        exact k H' sm
end
end Ray
end
section
set_option Elab.async false
set_option linter.all false
set_option maxRecDepth 100000
set_option maxHeartbeats 2000000
namespace Ray
open PySem PySem.Spec PyProof.Rows L2
section
variable {P : Program} {w : World} {K : PySem.W.Frag} {mg : Str → Option Value} {base : Heap}
/-! ### is_length(number) -/
def isl (n : Nat) : Bool := decide (1 ≤ n) && decide (n ≤ 8)
def spIsl : Sp := fun vs H Q _ => ∃ n : Nat, vs = [.int (n : Int)] ∧ Q (.bl (isl n)) H
theorem scIsl : FnScope ["number"] ["number"] (defScope sIsl) := ⟨rfl, rfl, rfl, by decide +kernel, rfl, by decide +kernel, by decide +kernel⟩
theorem ok_isl {f : Addr} {fd : FuncData} (F : Fun K "is_length" "is_length" sIsl f fd) {t1 : Tok} (mM : mg "MOST_STEPS" = some (.int 8 t1)) : FnOk P w K mg base CX0 1 f fd ["number"] spIsl := by
  refine F.ok scIsl (fun vs H Q E h => ?_) (fun cdv A outer s H vs Q E hr h => ⟨_, pss_one (ps_ret (pe_and (pe_cmpR op_ge (pv 0) pe_int (nomark _)) (pe_one (pe_cmpR op_le (pv 0) (pe_glob (v := .int 8) rfl mM ⟨_, rfl⟩) (nomark _))))), ?_⟩)
  · obtain ⟨n, rfl, _⟩ := h
    rfl
  · obtain ⟨n, rfl, k⟩ := h
    unfold isl at k
    refine ⟨_, rfl, _, _, rfl, rfl, _, rfl, ?_⟩
    by_cases h1 : 1 ≤ n
    · refine yes_of (decide_eq_true (by omega)) ⟨_, rfl, _, _, rfl, rfl, ?_⟩
      rw [decide_eq_true h1, Bool.true_and] at k
      have e : decide ((n : Int) ≤ 8) = decide (n ≤ 8) := decide_eq_decide.mpr (by omega)
      rw [← e] at k
      exact k
    · refine no_of (decide_eq_false (by omega)) ?_
      rw [decide_eq_false h1, Bool.false_and] at k
      exact k
/-! ### is_word(numbers) -/
theorem right_isl (w : List Nat) : Kqi6.right w = (isl w.length && onl w) := rfl
def spIsw (K : PySem.W.Frag) : Sp := fun vs H Q _ => ∃ (a : Addr) (w : List Nat), vs = [.ref a] ∧ SqL K H a (nI w) ∧ w.length < big ∧ ∀ H' : Hp, Same H H' → Q (.bl (Kqi6.right w)) H'
theorem scIsw : FnScope ["numbers"] ["numbers"] (defScope sIsw) := ⟨rfl, rfl, rfl, by decide +kernel, rfl, by decide +kernel, by decide +kernel⟩
theorem ok_isw {f : Addr} {fd : FuncData} (F : Fun K "is_word" "is_word" sIsw f fd) (DO : Has P w K mg base "only_steps" 1 ["numbers"] (spOnl K)) (DI : Has P w K mg base "is_length" 1 ["number"] spIsl) (mlen : mg "len" = none) : FnOk P w K mg base CX0 2 f fd ["numbers"] (spIsw K) := by
  obtain ⟨fo, fdo, mo, GO, ko, bo⟩ := DO.ex
  obtain ⟨fi, fdi, mi, GI, ki, bi⟩ := DI.ex
  refine F.ok scIsw (fun vs H Q E h => ?_) (fun cdv A outer s H vs Q E hr h => ⟨_, pss_one (ps_ret (pe_and (pe_call GI hr rfl mi ki bi .nil pass0 (pa_cons (pe_callB call_len_seq (by rfl) mlen PySem.boot_len (pa_cons (pv 0) pa_nil)) pa_nil)) (pe_one (pe_call GO hr rfl mo ko bo .nil pass0 (pa_cons (pv 0) pa_nil))))), ?_⟩)
  · obtain ⟨a, w, rfl, _⟩ := h
    rfl
  · obtain ⟨a, wd, rfl, hS, hlen, k⟩ := h
    refine ⟨_, rfl, a, _, rfl, .inl hS, wd.length, by rw [nI_length]; rfl, _, rfl, ?_⟩
    rw [right_isl] at k
    cases h1 : isl wd.length with
    | true =>
      rw [h1, Bool.true_and] at k
      exact yes_of rfl ⟨_, rfl, a, wd, rfl, hS, hlen, k⟩
    | false =>
      rw [h1, Bool.false_and] at k
      exact no_of rfl (k H (.refl H))
/-! ### refusal(numbers) -/
def refu (w : List Nat) : Int := if Kqi6.right w = false then -22 else if Kqi6.closes w = true then 0 else -33
def spRef (K : PySem.W.Frag) : Sp := fun vs H Q _ => ∃ (a : Addr) (w : List Nat), vs = [.ref a] ∧ SqL K H a (nI w) ∧ w.length < big ∧ ∀ H' : Hp, Same H H' → Q (.int (refu w)) H'
theorem scRef : FnScope ["numbers"] ["numbers"] (defScope sRef) := ⟨rfl, rfl, rfl, by decide +kernel, rfl, by decide +kernel, by decide +kernel⟩
theorem ok_ref {f : Addr} {fd : FuncData} (F : Fun K "refusal" "refusal" sRef f fd) (DO : Has P w K mg base "is_word" 2 ["numbers"] (spIsw K)) (DC : Has P w K mg base "closes" 2 ["word"] (spClo K))
    {t1 t2 : Tok} (mW : mg "WRONG_NUMBERS" = some (.int (-22) t1)) (mN : mg "NO_CLOSING_WORD" = some (.int (-33) t2)) : FnOk P w K mg base CX0 3 f fd ["numbers"] (spRef K) := by
  obtain ⟨fo, fdo, mo, GO, ko, bo⟩ := DO.ex
  obtain ⟨fc, fdc, mc, GC, kc, bc⟩ := DC.ex
  refine F.ok scRef (fun vs H Q E h => ?_) (fun cdv A outer s H vs Q E hr h => ⟨_, pss_cons (ps_if (pt_not (pt_val (pe_call GO hr rfl mo ko bo .nil pass0 (pa_cons (pv 0) pa_nil)))) (pss_one (ps_ret (pe_glob (v := .int (-22)) rfl mW ⟨_, rfl⟩))) pss_nil)
    (pss_cons (ps_if (pt_not (pt_val (pe_call GC hr rfl mc kc bc .nil pass0 (pa_cons (pv 0) pa_nil)))) (pss_one (ps_ret (pe_glob (v := .int (-33)) rfl mN ⟨_, rfl⟩))) pss_nil)
    (pss_one (ps_ret pe_int))), ?_⟩)
  · obtain ⟨a, w, rfl, _⟩ := h
    rfl
  · obtain ⟨a, wd, rfl, hS, hlen, k⟩ := h
    unfold refu at k
    refine ⟨_, rfl, a, wd, rfl, hS, hlen, fun H1 s1 => ⟨_, rfl, ?_⟩⟩
    cases h3 : Kqi6.right wd with
    | false =>
      rw [if_pos h3] at k
      exact k H1 s1
    | true =>
      rw [if_neg (by rw [h3]; exact Bool.true_eq_false.mp)] at k
      refine ⟨_, rfl, a, wd, rfl, s1.seq hS, hlen, fun H2 s2 => ⟨_, rfl, ?_⟩⟩
      cases h4 : Kqi6.closes wd with
      | false =>
        rw [h4] at k
        exact k H2 (s1.trans s2)
      | true =>
        rw [h4] at k
        exact k H2 (s1.trans s2)
/-! ### refusal_beside(word, numbers) -/
def refb (w l : List Nat) : Int := if l.length ≠ w.length then -22 else refu l
def spRfb (K : PySem.W.Frag) : Sp := fun vs H Q _ => ∃ (a b : Addr) (w l : List Nat), vs = [.ref a, .ref b] ∧ SqL K H a (nI w) ∧ SqL K H b (nI l) ∧ l.length < big ∧ ∀ H' : Hp, Same H H' → Q (.int (refb w l)) H'
theorem scRfb : FnScope ["word", "numbers"] ["word", "numbers"] (defScope sRfb) := ⟨rfl, rfl, rfl, by decide +kernel, rfl, by decide +kernel, by decide +kernel⟩
theorem ok_rfb {f : Addr} {fd : FuncData} (F : Fun K "refusal_beside" "refusal_beside" sRfb f fd) (DR : Has P w K mg base "refusal" 3 ["numbers"] (spRef K)) (mlen : mg "len" = none)
    {t1 : Tok} (mW : mg "WRONG_NUMBERS" = some (.int (-22) t1)) : FnOk P w K mg base CX0 4 f fd ["word", "numbers"] (spRfb K) := by
  obtain ⟨fo, fdo, mo, GO, ko, bo⟩ := DR.ex
  refine F.ok scRfb (fun vs H Q E h => ?_) (fun cdv A outer s H vs Q E hr h => ⟨_, pss_cons (ps_if (pt_cmpR op_ne (pe_callB call_len_seq (by rfl) mlen PySem.boot_len (pa_cons (pv 1) pa_nil)) (pe_callB call_len_seq (by rfl) mlen PySem.boot_len (pa_cons (pv 0) pa_nil)) (nomark _)) (pss_one (ps_ret (pe_glob (v := .int (-22)) rfl mW ⟨_, rfl⟩))) pss_nil)
    (pss_one (ps_ret (pe_call GO hr rfl mo ko bo .nil pass0 (pa_cons (pv 1) pa_nil)))), ?_⟩)
  · obtain ⟨a, b, w, l, rfl, _⟩ := h
    rfl
  · obtain ⟨a, b, wd, l, rfl, hA, hB, hlen, k⟩ := h
    unfold refb at k
    refine ⟨_, rfl, b, _, rfl, .inl hB, _, rfl, a, _, rfl, .inl hA, rfl, _, rfl, ?_⟩
    rw [nI_length, nI_length]
    by_cases h1 : l.length = wd.length
    · rw [if_neg (fun q => q h1)] at k
      exact no_of (by rw [int_eq (by omega)]; rfl) ⟨_, rfl, b, l, rfl, hB, hlen, k⟩
    · rw [if_pos h1] at k
      exact yes_of (by rw [int_ne (by omega)]; rfl) (k H (.refl H))
/-! ### with_length(row) -/
def spWit (K : PySem.W.Frag) : Sp := fun vs H Q _ => ∃ (a : Addr) (xs : List V), vs = [.ref a] ∧ H a = some (.lst xs) ∧ xs.length < huge ∧
  ∀ (H' : Hp) (p : Addr), Same H H' → H p = none → H' p = some (.lst (V.int (xs.length : Int) :: xs)) → Q (.ref p) H'
theorem scWit : FnScope ["row"] ["row"] (defScope sWit) := ⟨rfl, rfl, rfl, by decide +kernel, rfl, by decide +kernel, by decide +kernel⟩
theorem ok_wit {f : Addr} {fd : FuncData} (F : Fun K "with_length" "with_length" sWit f fd) (mlen : mg "len" = none) : FnOk P w K mg base CX0 1 f fd ["row"] (spWit K) := by
  refine F.ok scWit (fun vs H Q E h => ?_) (fun cdv A outer s H vs Q E hr h => ⟨_, pss_one (ps_ret (pe_op op_cat (pe_lst (pa_cons (pe_callB call_len_seq (by rfl) mlen PySem.boot_len (pa_cons (pv 0) pa_nil)) pa_nil)) (pv 0))), ?_⟩)
  · obtain ⟨a, w, rfl, _⟩ := h
    rfl
  · obtain ⟨a, xs, rfl, hS, hlen, k⟩ := h
    refine ⟨_, rfl, a, _, rfl, .inl (SqL.of hS), (by show 1 ≤ sizeLine; decide), fun p np => ?_⟩
    have h1 : (upd H p (.lst [V.int (xs.length : Int)])) a = some (.lst xs) := by rw [upd_ne (ne_of_none hS np)]; exact hS
    refine ⟨_, rfl, p, a, _, _, rfl, rfl, upd_same, h1, ?_, fun q nq => ?_⟩
    · exact huge_line hlen
    · exact k _ q (same_new (same_new (.refl H) np) nq) ((same_new (.refl H) np).free nq) upd_same
end
end Ray
end
section
set_option Elab.async false
set_option linter.all false
set_option maxRecDepth 100000
set_option maxHeartbeats 2000000
namespace Ray
open PySem PySem.Spec PyProof.Rows L2
theorem ixN_at {n j : Nat} {i : Int} (e : i = (j : Int)) (hj : j < n) : ixN n i = some j := by
  subst e
  unfold ixN
  rw [if_pos (by omega), if_pos (by omega)]; rfl
def cnts (w : List Nat) (d i : Nat) : List Nat := [cnt w d 0 i, cnt w d 1 i, cnt w d 2 i]
theorem cnts_get {w : List Nat} {d i g : Nat} (h : g < 3) : (cnts w d i)[g]? = some (cnt w d g i) := by
  match g, h with
  | 0, _ => rfl
  | 1, _ => rfl
  | 2, _ => rfl
theorem cnts_succ (w : List Nat) (d i : Nat) : (cnts w d i).set (dif w d i) (cnt w d (dif w d i) i + 1) = cnts w d (i + 1) := by
  unfold cnts
  rw [cnt_succ, cnt_succ, cnt_succ]
  have h := dif_lt w d i
  rcases (show dif w d i = 0 ∨ dif w d i = 1 ∨ dif w d i = 2 by omega) with e | e | e <;> rw [e] <;> rfl
theorem cnts_apart {w : List Nat} (hc : Kqi6.closes w = true) (d : Nat) : cnts w d w.length = [Kqi6.apart w d 0, Kqi6.apart w d 1, Kqi6.apart w d 2] := by
  rw [apart_eq hc, apart_eq hc, apart_eq hc]; rfl
section
variable {P : Program} {w : World} {K : PySem.W.Frag} {mg : Str → Option Value} {base : Heap}
/-! ### pairs_apart(word, apart) -/
def spPai (K : PySem.W.Frag) : Sp := fun vs H Q _ => ∃ (a : Addr) (w : List Nat) (d : Nat), vs = [.ref a, .int (d : Int)] ∧ SqL K H a (nI w) ∧ w.length < big ∧
  ∀ (H' : Hp) (p : Addr), Same H H' → H p = none → H' p = some (.lst (nI (cnts w d w.length))) → Q (.ref p) H'
theorem scPai : FnScope ["word", "apart", "layers", "places", "counts", "lower", "upper"] ["word", "apart"] (defScope sPai) := ⟨rfl, rfl, rfl, by decide +kernel, rfl, by decide +kernel, by decide +kernel⟩
theorem ok_pai {f : Addr} {fd : FuncData} (F : Fun K "pairs_apart" "pairs_apart" sPai f fd) (D : Has P w K mg base "positions" 1 ["word"] (spPos K)) (mlen : mg "len" = none) (mran : mg "range" = none) : FnOk P w K mg base CX0 2 f fd ["word", "apart"] (spPai K) := by
  obtain ⟨fp, fdp, mp, G, kp, bp⟩ := D.ex
  refine F.ok scPai (fun vs H Q E h => ?_) (fun cdv A outer s H vs Q E hr h => ⟨_, pss_cons (ps_set (i := 2) scPai.nd rfl (Or.inl rfl) (pe_callB call_len_seq (by rfl) mlen PySem.boot_len (pa_cons (pv 0) pa_nil)))
    (pss_cons (ps_set (i := 3) scPai.nd rfl (Or.inl rfl) (pe_call G hr rfl mp kp bp .nil pass0 (pa_cons (pv 0) pa_nil)))
    (pss_cons (ps_set (i := 4) scPai.nd rfl (Or.inl rfl) (pe_lst (pa_cons pe_int (pa_cons pe_int (pa_cons pe_int pa_nil)))))
    (pss_cons (ps_for PassesOwn.never rfl (pi_range1 rfl mran (pa_cons (pv 2) pa_nil)) (pg_name (i := 5) scPai.nd rfl (Or.inl rfl))
      (pss_cons (ps_set (i := 6) scPai.nd rfl (Or.inl rfl) (pe_op op_mod (pe_op op_add (pv 5) (pv 1)) (pv 2)))
      (pss_one (ps_augS (pv 4) (pe_op op_mod (pe_op op_sub (pe_ix ix_list (pv 3) (pv 6) (fun _ _ => rfl)) (pe_ix ix_list (pv 3) (pv 5) (fun _ _ => rfl))) pe_int) get_list pe_int ip_add set_list))))
    (pss_one (ps_ret (pv 4)))))), ?_⟩)
  · obtain ⟨a, w, d, rfl, _⟩ := h
    rfl
  · obtain ⟨a, wd, d, rfl, hS, hlen, k⟩ := h
    refine ⟨_, rfl, a, _, rfl, .inl hS, ?_⟩
    rw [nI_length]
    refine ⟨_, rfl, a, wd, rfl, hS, hlen, fun H1 q s1 nq hq => ?_⟩
    refine ⟨(by show 3 ≤ sizeLine; decide), fun p np => ?_⟩
    have hb : wd.length < 100000 := hlen
    have nH : H p = none := s1.free np
    have hqp : q ≠ p := ne_of_none hq np
    have hq2 : (upd H1 p (.lst [V.int 0, V.int 0, V.int 0])) q = some (.lst (nI (plcs wd wd.length))) := by rw [upd_ne hqp]; exact hq
    refine ⟨_, rfl, (wd.length : Int), rfl, (by omega), (by omega), for_range (lo := 0) (n := ((wd.length : Nat) : Int).toNat) (fun i σ H' => ∃ v u : Option V, σ = [some (.ref a), some (.int (d : Int)), some (.int (wd.length : Int)), some (.ref q), some (.ref p), v, u] ∧ Same H H' ∧ H' q = some (.lst (nI (plcs wd wd.length))) ∧ H' p = some (.lst (nI (cnts wd d i))))
      ⟨none, none, rfl, same_put s1 nH, hq2, upd_same⟩ ?_ ?_⟩
    · rintro i σ H' hi ⟨v, u, rfl, sm, hq, hp⟩
      have hi' : i < wd.length := by omega
      have e0 : (0 : Int) + (i : Int) = (i : Int) := by omega
      have hm : (i + d) % wd.length < wd.length := Nat.mod_lt _ (by omega)
      have e1 : (0 + (i : Int) + (d : Int)) % (wd.length : Int) = (((i + d) % wd.length : Nat) : Int) := by rw [e0]; simp
      have l1 := plc_lt wd ((i + d) % wd.length)
      have l2 := plc_lt wd i
      have e2 : (((plc wd ((i + d) % wd.length) : Nat) : Int) - ((plc wd i : Nat) : Int)) % 3 = ((dif wd d i : Nat) : Int) := by unfold dif; omega
      refine ⟨_, rfl, _, rfl, _, _, rfl, rfl, _, rfl, _, _, rfl, rfl, (by show (0 : Int) < _; omega), ?_⟩
      refine ⟨_, rfl, _, rfl, _, rfl, q, _, _, V.int ((plc wd ((i + d) % wd.length) : Nat) : Int), rfl, rfl, SqL.of hq, at_of e1 (nI_at (plcs_get (Nat.le_of_lt hm))), ?_⟩
      refine ⟨_, rfl, _, rfl, q, _, _, V.int ((plc wd i : Nat) : Int), rfl, rfl, SqL.of hq, at_of e0 (nI_at (plcs_get (Nat.le_of_lt hi'))), ?_⟩
      refine ⟨_, _, rfl, rfl, _, _, rfl, rfl, (by show (0 : Int) < 3; decide), ?_⟩
      refine ⟨p, _, dif wd d i, _, rfl, congrArg V.int e2, SqL.of hp, nI_at (cnts_get (dif_lt wd d i)), _, _, rfl, rfl, p, _, _, dif wd d i, rfl, rfl, hp, ixN_at e2 (by rw [nI_length]; exact dif_lt wd d i), ?_⟩
      refine ⟨_, _, rfl, same_put sm nH, ?_, ?_⟩
      · rw [upd_ne hqp]; exact hq
      · rw [upd_same, ← cnts_succ]
        unfold nI
        rw [List.map_set]
        rfl
    · rintro σ H' ⟨v, u, rfl, sm, hq, hp⟩
      exact ⟨_, rfl, k _ p sm nH hp⟩
end
end Ray
end
section
set_option Elab.async false
set_option linter.all false
set_option maxRecDepth 100000
set_option maxHeartbeats 2000000
namespace Ray
open PySem PySem.Spec PyProof.Rows L2
section
variable {P : Program} {w : World} {K : PySem.W.Frag} {mg : Str → Option Value} {base : Heap}
/-! ### table_of(word) -/
def spTab (K : PySem.W.Frag) : Sp := fun vs H Q _ => ∃ (a : Addr) (w : List Nat), vs = [.ref a] ∧ SqL K H a (nI w) ∧ w.length < big ∧ Kqi6.closes w = true ∧
  ∀ (H' : Hp) (p : Addr), Same H H' → H p = none → H' p = some (.lst (nI (Kqi6.table w))) → Q (.ref p) H'
theorem scTab : FnScope ["word", "apart"] ["word"] (defScope sTab) := ⟨rfl, rfl, rfl, by decide +kernel, rfl, by decide +kernel, by decide +kernel⟩
theorem ok_tab {f : Addr} {fd : FuncData} (F : Fun K "table_of" "table_of" sTab f fd) (D : Has P w K mg base "pairs_apart" 2 ["word", "apart"] (spPai K)) (mlen : mg "len" = none) (mran : mg "range" = none) : FnOk P w K mg base CX0 3 f fd ["word"] (spTab K) := by
  obtain ⟨fp, fdp, mp, G, kp, bp⟩ := D.ex
  refine F.ok scTab (fun vs H Q E h => ?_) (fun cdv A outer s H vs Q E hr h => ⟨_, pss_one (ps_ret
    (pe_lc (own := [("apart", 1)]) (g := gName 1) (tt := tYes) (te := tOp (rIxL K) (tCall (spPai K) [] E0 (tCons (tVar 0) (tCons (tVar 1) tNil))) (tC (.int 0))) rfl scTab.nd
      (pi_range2 (by rfl) mran (pa_cons pe_int (pa_cons (pe_op op_add (pe_callB call_len_seq (by rfl) mlen PySem.boot_len (pa_cons (pv 0) pa_nil)) pe_int) pa_nil)))
      (blkOk_by (N := ["word", "apart"]) (sc := defScope sTab) (by decide +kernel)) (fun _ _ _ _ _ => pg_name (i := 1) scTab.nd rfl (Or.inl rfl)) (fun _ _ _ _ _ => pts_nil)
      (fun _ _ _ _ _ => pe_ix ix_list (pe_call G hr (by rfl) mp kp bp .nil pass0 (pa_cons (pv 0) (pa_cons (pv 1) pa_nil))) pe_int (fun _ _ => rfl)))), ?_⟩)
  · obtain ⟨a, w, rfl, _⟩ := h
    rfl
  · obtain ⟨a, wd, rfl, hS, hlen, hc, k⟩ := h
    have hb : wd.length < 100000 := hlen
    refine ⟨_, rfl, a, _, rfl, .inl hS, _, _, rfl, rfl, 1, (((nI wd).length : Nat) : Int) + 1, rfl, (by rw [nI_length]; omega), fun D hD => ?_⟩
    refine lc_range (lo := 1) (n := ((((nI wd).length : Nat) : Int) + 1 - 1).toNat) (fun i H' => i ≤ wd.length ∧ Same H H' ∧ H' D = some (.lst (nI (tbl wd i)))) ⟨Nat.zero_le _, same_put (.refl H) hD, upd_same⟩ ?_ ?_
    · rintro i H' hi ⟨_, sm, hp⟩
      rw [nI_length] at hi
      have hi' : i < wd.length := by omega
      refine ⟨rfl, _, rfl, _, rfl, a, wd, i + 1, ?_, sm.seq hS, hlen, fun H2 p s2 np hp2 => ?_⟩
      · show [V.ref a, V.int (1 + (i : Int))] = [V.ref a, V.int ((i + 1 : Nat) : Int)]
        rw [show (1 + (i : Int)) = ((i + 1 : Nat) : Int) by omega]
      · refine ⟨p, _, _, V.int ((cnt wd (i + 1) 0 wd.length : Nat) : Int), rfl, rfl, SqL.of hp2, at_of (j := 0) rfl (nI_at (cnts_get (by decide))), _, s2 D _ hp, ?_, ?_⟩
        · rw [nI_length, tbl_length]; exact big_line (by unfold big; omega)
        · refine ⟨hi', same_put (sm.trans s2) hD, ?_⟩
          rw [upd_same, tbl_succ, nI_append, apart_eq hc]; rfl
    · rintro H' ⟨_, sm, hp⟩
      refine k H' D sm hD ?_
      have e : ((((nI wd).length : Nat) : Int) + 1 - 1).toNat = wd.length := by rw [nI_length]; omega
      rw [e, tbl_full] at hp
      exact hp
end
end Ray
end
section
set_option Elab.async false
set_option linter.all false
set_option maxRecDepth 100000
set_option maxHeartbeats 2000000
namespace Ray
open PySem PySem.Spec PyProof.Rows L2
abbrev sIni : Stmt := inClass (topS 10) 0
abbrev sSta : Stmt := topS 26
abbrev sExc : Stmt := topS 27
abbrev sLat : Stmt := topS 28
/-! ### the object -/
def StAt (C : Addr) (H : Hp) (a : Addr) (wd : List Nat) : Prop := ∃ dx l, H a = some (.ins C dx [("word", .ref l)]) ∧ H l = some (.lst (nI wd))
/-- all but the object at a stands; its word is the list that it was, or a new one -/
def Frm (a : Addr) (H H' : Hp) : Prop := (∀ b o, H b = some o → b ≠ a → H' b = some o) ∧ ∀ C dx' l', H' a = some (.ins C dx' [("word", .ref l')]) → (∃ dx, H a = some (.ins C dx [("word", .ref l')])) ∨ H l' = none
theorem StAt.same {C a : Addr} {H H' : Hp} {wd : List Nat} (h : StAt C H a wd) (s : Same H H') : StAt C H' a wd := by
  obtain ⟨dx, l, h1, h2⟩ := h
  exact ⟨dx, l, s _ _ h1, s _ _ h2⟩
theorem StAt.frm {C a : Addr} {H H' : Hp} {wd : List Nat} (h : StAt C H a wd) (s : Same H H') : Frm a H H' := by
  refine ⟨fun b o e _ => s b o e, fun C' dx' l' e => .inl ?_⟩
  obtain ⟨dx, l, h1, h2⟩ := h
  rw [s _ _ h1] at e
  injection e with e
  injection e with e1 e2 e3
  exact ⟨dx, by rw [h1, e1, e3]⟩
theorem lk_word {v : V} : List.lookup ("word" : Str) [(("word" : Str), v)] = some v := by
  have e : (("word" : Str) == ("word" : Str)) = true := beq_self_eq_true _
  simp only [List.lookup, e]
theorem put_word {v x : V} : putF "word" v [(("word" : Str), x)] = [(("word" : Str), v)] := if_pos rfl
theorem sql_store {K : PySem.W.Frag} {C a b dx : Addr} {H : Hp} {xs : List V} {fs : List (Str × V)} {o : HO} (h : SqL K H b xs) (ha : H a = some (.ins C dx fs)) : SqL K (upd H a o) b xs := by
  rcases h with (h | ⟨q, h⟩) | h
  · refine .inl (.inl ?_)
    rw [upd_ne (fun e => by rw [e, ha] at h; cases h)]; exact h
  · refine .inl (.inr ⟨q, ?_⟩)
    rw [upd_ne (fun e => by rw [e, ha] at h; cases h)]; exact h
  · exact .inr h
theorem stAt_put {C a dx l : Addr} {H : Hp} {wd : List Nat} {v : V} (hl : H l = some (.lst (nI wd))) (hn : l ≠ a) : StAt C (upd H a (.ins C dx (putF "word" (.ref l) [("word", v)]))) a wd := by
  rw [put_word]
  exact ⟨dx, l, upd_same, by rw [upd_ne hn]; exact hl⟩
theorem frm_store {C a dx l : Addr} {H H' : Hp} {v : V} (s : Same H H') (nl : H l = none) : Frm a H (upd H' a (.ins C dx (putF "word" (.ref l) [("word", v)]))) := by
  rw [put_word]
  refine ⟨fun b q e n => by rw [upd_ne n]; exact s b q e, fun C' dx' l' e => .inr ?_⟩
  rw [upd_same] at e
  injection e with e
  injection e with e1 e2 e3
  injection e3 with e3
  injection e3 with e3 e4
  injection e4 with e4
  rw [← e4]; exact nl
theorem Frm.and {a : Addr} {H H1 H2 : Hp} {o : HO} (f : Frm a H H1) (h1 : H1 a = some o) (s : Same H1 H2) : Frm a H H2 :=
  ⟨fun b o e n => s b o (f.1 b o e n), fun C dx l e => f.2 C dx l (by rw [s _ _ h1] at e; rw [h1, e])⟩
structure Txt (K : PySem.W.Frag) (mg : Str → Option Value) (C : Addr) : Prop where
  cl : Cls K C
  nW : NoAttr K C "word"
  gC : mg "Stacking" = some (.ref C)
  len : mg "len" = none
  range : mg "range" = none
  list : mg "list" = none
  sum : mg "sum" = none
  all : mg "all" = none
theorem nI_int (l : List Nat) : nI l = (l.map fun (x : Nat) => (x : Int)).map V.int := by
  rw [List.map_map]; rfl
/-- a call on the object: what it asks, the word and the answer behind it -/
def spC (K : PySem.W.Frag) (C : Addr) (pre : List Nat → List Nat → Prop) (g : List Nat → List Nat → List Nat × List Int) : Sp := fun vs H Q _ => ∃ (a b : Addr) (wd ns : List Nat), vs = [.ref a, .ref b] ∧ StAt C H a wd ∧ SqL K H b (nI ns) ∧
  wd.length < big ∧ ns.length < big ∧ pre wd ns ∧ ∀ (H' : Hp) (p : Addr), Frm a H H' → StAt C H' a (g wd ns).1 → H' p = some (.lst ((g wd ns).2.map V.int)) → Q (.ref p) H'
theorem spC_len {K : PySem.W.Frag} {C : Addr} {pre : List Nat → List Nat → Prop} {g : List Nat → List Nat → List Nat × List Int} {vs : List V} {H : Hp} {Q : VK} {E : XK} (h : spC K C pre g vs H Q E) : vs.length = 2 := by
  obtain ⟨a, b, wd, ns, rfl, _⟩ := h
  rfl
section
variable {P : Program} {w : World} {K : PySem.W.Frag} {mg : Str → Option Value} {base : Heap} {C : Addr}
/-! ### Stacking() -/
def spIni (C : Addr) : Sp := fun vs H Q _ => ∃ (p dx : Addr), vs = [.ref p] ∧ H p = some (.ins C dx []) ∧ ∀ H' : Hp, StAt C H' p [] → (∀ b o, H b = some o → b ≠ p → H' b = some o) → Q .non H'
theorem scIni : FnScope ["self"] ["self"] (defScope sIni) := ⟨rfl, rfl, rfl, by decide +kernel, rfl, by decide +kernel, by decide +kernel⟩
theorem ok_ini {f : Addr} {fd : FuncData} (F : Fun K "__init__" "Stacking.__init__" sIni f fd) (T : Txt K mg C) : FnOk P w K mg base CX0 1 f fd ["self"] (spIni C) := by
  refine F.ok scIni (fun vs H Q E h => ?_) (fun cdv A outer s H vs Q E hr h => ⟨_, pss_one (ps_fld (pv 0) (pe_lst pa_nil) rfl), ?_⟩)
  · obtain ⟨p, dx, rfl, _⟩ := h
    rfl
  · obtain ⟨p, dx, rfl, hp, k⟩ := h
    refine ⟨(by show 0 ≤ sizeLine; decide), fun l nl => ⟨_, rfl, p, C, dx, [], rfl, ?_, T.cl, T.nW, (by show 0 < 1000; decide), ?_⟩⟩
    · rw [upd_ne (ne_of_none hp nl)]; exact hp
    · refine k _ ⟨dx, l, upd_same, ?_⟩ fun b o e n => ?_
      · rw [upd_ne (ne_of_none hp nl).symm, upd_same]; rfl
      · rw [upd_ne n, upd_ne (ne_of_none e nl)]; exact e
/-! ### start(stacking, numbers) -/
def gSta (wd ns : List Nat) : List Nat × List Int := if refu ns = 0 then (ns, [(ns.length : Int)]) else (wd, [refu ns])
theorem scSta : FnScope ["stacking", "numbers", "refused"] ["stacking", "numbers"] (defScope sSta) := ⟨rfl, rfl, rfl, by decide +kernel, rfl, by decide +kernel, by decide +kernel⟩
theorem ok_sta {f : Addr} {fd : FuncData} (F : Fun K "start" "start" sSta f fd) (T : Txt K mg C) (D : Has P w K mg base "refusal" 3 ["numbers"] (spRef K)) :
    FnOk P w K mg base CX0 4 f fd ["stacking", "numbers"] (spC K C (fun _ _ => True) gSta) := by
  obtain ⟨fr, fdr, mr, G, kr, br⟩ := D.ex
  refine F.ok scSta (fun vs H Q E h => spC_len h) (fun cdv A outer s H vs Q E hr h => ⟨_, pss_cons (ps_set (i := 2) scSta.nd rfl (Or.inl rfl) (pe_call G hr rfl mr kr br .nil pass0 (pa_cons (pv 1) pa_nil)))
    (pss_cons (ps_if (pt_cmpR op_ne (pv 2) pe_int (nomark _)) (pss_one (ps_ret (pe_lst (pa_cons (pv 2) pa_nil)))) pss_nil)
    (pss_cons (ps_fld (pv 0) (pe_callTy call_list_of (by rfl) T.list (by decide +kernel) (pa_cons (pv 1) pa_nil)) rfl)
    (pss_one (ps_ret (pe_lst (pa_cons (pe_callB call_len_seq (by rfl) T.len PySem.boot_len (pa_cons (pv 1) pa_nil)) pa_nil)))))), ?_⟩)
  obtain ⟨a, b, wd, ns, rfl, hA, hS, hwl, hnl, _, k⟩ := h
  refine ⟨_, rfl, b, ns, rfl, hS, hnl, fun H1 s1 => ?_⟩
  refine ⟨_, rfl, rfl, _, rfl, ?_⟩
  unfold gSta at k
  by_cases h0 : refu ns = 0
  · refine no_of (by rw [int_eq h0]; rfl) ?_
    rw [if_pos h0] at k
    refine ⟨_, rfl, b, _, rfl, .inl (s1.seq hS), fun l nl => ?_⟩
    obtain ⟨dx, l0, ha, hl0⟩ := hA
    have ha1 := s1 _ _ ha
    have s2 : Same H (upd H1 l (.lst (nI ns))) := same_new s1 nl
    refine ⟨_, rfl, a, C, dx, _, rfl, s2 _ _ ha, T.cl, T.nW, (by show 1 < 1000; decide), ?_⟩
    have hn : l ≠ a := (ne_of_none ha1 nl).symm
    have hf : Frm a H (upd (upd H1 l (.lst (nI ns))) a (.ins C dx (putF "word" (.ref l) [("word", .ref l0)]))) := frm_store s2 (s1.free nl)
    have hst : StAt C (upd (upd H1 l (.lst (nI ns))) a (.ins C dx (putF "word" (.ref l) [("word", .ref l0)]))) a ns := stAt_put upd_same hn
    refine ⟨_, rfl, b, _, rfl, .inl (sql_store (s2.seq hS) (s2 _ _ ha)), (by show 1 ≤ sizeLine; decide), fun p np => ?_⟩
    rw [nI_length]
    exact k _ p (hf.and upd_same (same_new (.refl _) np)) (hst.same (same_new (.refl _) np)) upd_same
  · refine yes_of (by rw [int_ne h0]; rfl) ?_
    rw [if_neg h0] at k
    refine ⟨_, rfl, (by show 1 ≤ sizeLine; decide), fun p np => ?_⟩
    exact k _ p (hA.frm (same_new s1 np)) (hA.same (same_new s1 np)) upd_same
end
end Ray
end
section
set_option Elab.async false
set_option linter.all false
set_option maxRecDepth 100000
set_option maxHeartbeats 2000000
namespace Ray
open PySem PySem.Spec PyProof.Rows L2
theorem nI_set (l : List Nat) (i x : Nat) : nI (l.set i x) = (nI l).set i (V.int (x : Int)) := by
  unfold nI
  rw [List.map_set]
theorem nI_drop (l : List Nat) (k : Nat) : nI (l.drop k) = (nI l).drop k := by unfold nI; rw [List.map_drop]
theorem nI_take (l : List Nat) (k : Nat) : nI (l.take k) = (nI l).take k := by unfold nI; rw [List.map_take]
theorem at_some {w : List Nat} {i : Nat} (h : i < w.length) : w[i]? = some (Kqi6.at_ w i) := by
  unfold Kqi6.at_
  rw [List.getD_eq_getElem?_getD, List.getElem?_eq_getElem h]
  rfl
section
variable {P : Program} {w : World} {K : PySem.W.Frag} {mg : Str → Option Value} {base : Heap} {C : Addr}
/-! ### exchange(stacking, numbers) -/
def gExc (wd ns : List Nat) : List Nat × List Int := match ns with
  | [i, j] => if wd.length ≤ i ∨ wd.length ≤ j then (wd, [-2]) else (swp wd i j, (wd.length : Int) :: (swp wd i j).map fun (x : Nat) => (x : Int))
  | _ => (wd, [])
theorem scExc : FnScope ["stacking", "numbers", "word", "one", "other"] ["stacking", "numbers"] (defScope sExc) := ⟨rfl, rfl, rfl, by decide +kernel, rfl, by decide +kernel, by decide +kernel⟩
theorem ok_exc {f : Addr} {fd : FuncData} (F : Fun K "exchange" "exchange" sExc f fd) (T : Txt K mg C) (D : Has P w K mg base "with_length" 1 ["row"] (spWit K)) {t1 : Tok} (mN : mg "NO_STEP" = some (.int (-2) t1)) :
    FnOk P w K mg base CX0 2 f fd ["stacking", "numbers"] (spC K C (fun _ ns => ∃ i j, ns = [i, j]) gExc) := by
  obtain ⟨fr, fdr, mr, G, kr, br⟩ := D.ex
  refine F.ok scExc (fun vs H Q E h => spC_len h) (fun cdv A outer s H vs Q E hr h => ⟨_, pss_cons (ps_set (i := 2) scExc.nd rfl (Or.inl rfl) (pe_callTy call_list_of (by rfl) T.list (by decide +kernel) (pa_cons (pe_fld (pv 0) rfl) pa_nil)))
    (pss_cons (ps_set (i := 3) scExc.nd rfl (Or.inl rfl) (pe_ix ix_list (pv 1) pe_int (fun _ _ => rfl)))
    (pss_cons (ps_set (i := 4) scExc.nd rfl (Or.inl rfl) (pe_ix ix_list (pv 1) pe_int (fun _ _ => rfl)))
    (pss_cons (ps_if (PW.pt (pw_or (pt_cmpR op_ge (pv 3) (pe_callB call_len_seq (by rfl) T.len PySem.boot_len (pa_cons (pv 2) pa_nil)) (nomark _)) (pw_or1 (pt_cmpR op_ge (pv 4) (pe_callB call_len_seq (by rfl) T.len PySem.boot_len (pa_cons (pv 2) pa_nil)) (nomark _)))))
      (pss_one (ps_ret (pe_lst (pa_cons (pe_glob (v := .int (-2)) rfl mN ⟨_, rfl⟩) pa_nil)))) pss_nil)
    (pss_cons (ps_asg (pe_ix ix_list (pe_fld (pv 0) rfl) (pv 4) (fun _ _ => rfl)) (pg_sub (pv 2) (pv 3) set_list))
    (pss_cons (ps_asg (pe_ix ix_list (pe_fld (pv 0) rfl) (pv 3) (fun _ _ => rfl)) (pg_sub (pv 2) (pv 4) set_list))
    (pss_cons (ps_fld (pv 0) (pv 2) rfl)
    (pss_one (ps_ret (pe_call G hr rfl mr kr br .nil pass0 (pa_cons (pv 2) pa_nil)))))))))), ?_⟩)
  obtain ⟨a, b, wd, ns, rfl, hA, hS, hwl, hnl, ⟨i, j, rfl⟩, k⟩ := h
  have hA0 := hA
  obtain ⟨dx, l0, ha, hl0⟩ := hA
  refine ⟨_, rfl, a, C, dx, _, _, rfl, ha, T.cl, T.nW, lk_word, l0, _, rfl, .inl (SqL.of hl0), fun l nl => ?_⟩
  have s1 : Same H (upd H l (.lst (nI wd))) := same_new (.refl H) nl
  refine ⟨_, rfl, b, _, _, V.int (i : Int), rfl, rfl, s1.seq hS, at_of (j := 0) rfl rfl, ?_⟩
  refine ⟨_, rfl, b, _, _, V.int (j : Int), rfl, rfl, s1.seq hS, at_of (j := 1) rfl rfl, ?_⟩
  refine ⟨_, rfl, _, rfl, l, _, rfl, .inl (SqL.of upd_same), _, _, rfl, rfl, _, rfl, ?_⟩
  have kN : (wd.length ≤ i ∨ wd.length ≤ j) → tRet (tLst (tCons (tC (.int (-2))) tNil)) { nx := fun _ H' => Q .non H', rt := Q } [some (.ref a), some (.ref b), some (.ref l), some (.int (i : Int)), some (.int (j : Int))] (upd H l (.lst (nI wd))) := by
    intro h1
    unfold gExc at k
    dsimp only at k
    rw [if_pos h1] at k
    refine ⟨(by show 1 ≤ sizeLine; decide), fun p np => ?_⟩
    exact k _ p (hA0.frm (same_new s1 np)) (hA0.same (same_new s1 np)) upd_same
  by_cases h1 : wd.length ≤ i
  · refine yes_of (decide_eq_true (by rw [nI_length]; omega)) ?_
    exact kN (.inl h1)
  · refine no_of (decide_eq_false (by rw [nI_length]; omega)) ?_
    refine ⟨_, rfl, _, rfl, l, _, rfl, .inl (SqL.of upd_same), _, _, rfl, rfl, _, rfl, ?_⟩
    by_cases h2 : wd.length ≤ j
    · refine yes_of (decide_eq_true (by rw [nI_length]; omega)) ?_
      exact kN (.inr h2)
    · refine no_of (decide_eq_false (by rw [nI_length]; omega)) ?_
      have hi : i < wd.length := by omega
      have hj : j < wd.length := by omega
      unfold gExc at k
      dsimp only at k
      rw [if_neg (by omega)] at k
      have ne0 : l0 ≠ l := ne_of_none hl0 nl
      have nea : a ≠ l := ne_of_none ha nl
      refine ⟨_, rfl, a, C, dx, _, _, rfl, s1 _ _ ha, T.cl, T.nW, lk_word, _, rfl, l0, _, _, V.int ((Kqi6.at_ wd j : Nat) : Int), rfl, rfl, SqL.of (s1 _ _ hl0), at_of rfl (nI_at (at_some hj)), ?_⟩
      refine ⟨_, rfl, _, rfl, l, _, _, i, rfl, rfl, upd_same, ixN_at rfl (by rw [nI_length]; exact hi), ?_⟩
      have s2 : Same H (upd (upd H l (.lst (nI wd))) l (.lst ((nI wd).set i (V.int ((Kqi6.at_ wd j : Nat) : Int))))) := same_put s1 nl
      refine ⟨_, rfl, a, C, dx, _, _, rfl, s2 _ _ ha, T.cl, T.nW, lk_word, _, rfl, l0, _, _, V.int ((Kqi6.at_ wd i : Nat) : Int), rfl, rfl, SqL.of (s2 _ _ hl0), at_of rfl (nI_at (at_some hi)), ?_⟩
      refine ⟨_, rfl, _, rfl, l, _, _, j, rfl, rfl, upd_same, ixN_at rfl (by rw [List.length_set, nI_length]; exact hj), ?_⟩
      have s3 : Same H (upd (upd (upd H l (.lst (nI wd))) l (.lst ((nI wd).set i (V.int ((Kqi6.at_ wd j : Nat) : Int))))) l (.lst (((nI wd).set i (V.int ((Kqi6.at_ wd j : Nat) : Int))).set j (V.int ((Kqi6.at_ wd i : Nat) : Int))))) := same_put s2 nl
      have e3 : ((nI wd).set i (V.int ((Kqi6.at_ wd j : Nat) : Int))).set j (V.int ((Kqi6.at_ wd i : Nat) : Int)) = nI (swp wd i j) := by
        unfold swp
        rw [nI_set, nI_set]
      refine ⟨_, rfl, _, rfl, a, C, dx, _, rfl, s3 _ _ ha, T.cl, T.nW, (by show 1 < 1000; decide), ?_⟩
      rw [e3] at s3 ⊢
      refine ⟨_, rfl, l, nI (swp wd i j), rfl, ?_, ?_, fun H5 p s5 np hp => ?_⟩
      · rw [upd_ne nea.symm, upd_same]
      · rw [nI_length, swp_length]; exact lt_huge hwl
      · refine k H5 p ((frm_store s3 nl).and upd_same s5) ((stAt_put upd_same nea.symm).same s5) ?_
        rw [hp, nI_length, swp_length, nI_int]; rfl
end
end Ray
end
section
set_option Elab.async false
set_option linter.all false
set_option maxRecDepth 100000
set_option maxHeartbeats 2000000
namespace Ray
open PySem PySem.Spec PyProof.Rows L2
abbrev sBgn : Stmt := topS 19
abbrev sPrs : Stmt := topS 29
abbrev sTbl : Stmt := topS 30
abbrev sLyi : Stmt := topS 31
abbrev sTot : Stmt := topS 32
theorem cut_from {wd : List Nat} {k : Nat} (h : k ≤ wd.length) : cutV (nI wd) (some (k : Int)) none = nI (wd.drop k) := by
  unfold cutV
  rw [HT.sIx_nat, HT.sIx_none, nI_length, Nat.min_eq_left h, nI_drop]
  exact List.take_of_length_le (by rw [List.length_drop, nI_length]; omega)
theorem cut_to {wd : List Nat} {k : Nat} (h : k ≤ wd.length) : cutV (nI wd) none (some (k : Int)) = nI (wd.take k) := by
  unfold cutV
  rw [HT.sIx_nat, HT.sIx_none, nI_length, Nat.min_eq_left h, nI_take]
  rfl
section
variable {P : Program} {w : World} {K : PySem.W.Frag} {mg : Str → Option Value} {base : Heap} {C : Addr}
/-! ### begun_later(word, steps) -/
def spBgn (K : PySem.W.Frag) : Sp := fun vs H Q _ => ∃ (a : Addr) (w : List Nat) (i : Nat), vs = [.ref a, .int (i : Int)] ∧ SqL K H a (nI w) ∧ w.length < big ∧ i ≤ w.length ∧
  ∀ (H' : Hp) (p : Addr), Same H H' → H p = none → H' p = some (.lst (nI (Kqi6.begun w i))) → Q (.ref p) H'
theorem scBgn : FnScope ["word", "steps"] ["word", "steps"] (defScope sBgn) := ⟨rfl, rfl, rfl, by decide +kernel, rfl, by decide +kernel, by decide +kernel⟩
theorem ok_bgn {f : Addr} {fd : FuncData} (F : Fun K "begun_later" "begun_later" sBgn f fd) : FnOk P w K mg base CX0 1 f fd ["word", "steps"] (spBgn K) := by
  refine F.ok scBgn (fun vs H Q E h => ?_) (fun cdv A outer s H vs Q E hr h => ⟨_, pss_one (ps_ret (pe_op op_cat (pe_slice sl_list (pv 0) (po_some (pv 1)) po_none) (pe_slice sl_list (pv 0) po_none (po_some (pv 1))))), ?_⟩)
  · obtain ⟨a, w, i, rfl, _⟩ := h
    rfl
  · obtain ⟨a, wd, i, rfl, hS, hwl, hi, k⟩ := h
    refine ⟨_, rfl, _, rfl, _, rfl, a, _, rfl, hS, fun p1 n1 => ?_⟩
    have s1 := same_new (o := HO.lst (cutV (nI wd) (some (i : Int)) none)) (.refl H) n1
    refine ⟨_, rfl, _, rfl, _, rfl, a, _, rfl, s1.seq hS, fun p2 n2 => ?_⟩
    have s2 := same_new (o := HO.lst (cutV (nI wd) none (some (i : Int)))) s1 n2
    have n21 : p1 ≠ p2 := ne_of_none upd_same n2
    have hz : (cutV (nI wd) (some (i : Int)) none).length + (cutV (nI wd) none (some (i : Int))).length ≤ sizeLine := by
      rw [cut_from hi, cut_to hi, nI_length, nI_length, List.length_drop, List.length_take]
      have := big_line (Nat.le_of_lt hwl)
      omega
    refine ⟨p1, p2, _, _, rfl, rfl, (by rw [upd_ne n21, upd_same]), upd_same, hz, fun p3 n3 => ?_⟩
    have s3 := same_new (o := HO.lst (cutV (nI wd) (some (i : Int)) none ++ cutV (nI wd) none (some (i : Int)))) s2 n3
    have e3 : cutV (nI wd) (some (i : Int)) none ++ cutV (nI wd) none (some (i : Int)) = nI (Kqi6.begun wd i) := by
      rw [cut_from hi, cut_to hi, ← nI_append]; rfl
    rw [e3] at s3 ⊢
    exact k _ p3 s3 (s2.free n3) upd_same
/-! ### later(stacking, numbers) -/
def gLat (wd ns : List Nat) : List Nat × List Int := match ns with
  | [k] => if wd.length ≤ k then (wd, [-22]) else (Kqi6.begun wd k, (wd.length : Int) :: (Kqi6.begun wd k).map fun (x : Nat) => (x : Int))
  | _ => (wd, [])
theorem scLat : FnScope ["stacking", "numbers"] ["stacking", "numbers"] (defScope sLat) := ⟨rfl, rfl, rfl, by decide +kernel, rfl, by decide +kernel, by decide +kernel⟩
theorem ok_lat {f : Addr} {fd : FuncData} (F : Fun K "later" "later" sLat f fd) (T : Txt K mg C) (D : Has P w K mg base "with_length" 1 ["row"] (spWit K)) (D2 : Has P w K mg base "begun_later" 1 ["word", "steps"] (spBgn K)) {t1 : Tok} (mN : mg "WRONG_NUMBERS" = some (.int (-22) t1)) :
    FnOk P w K mg base CX0 2 f fd ["stacking", "numbers"] (spC K C (fun _ ns => ∃ i, ns = [i]) gLat) := by
  obtain ⟨fr, fdr, mr, G, kr, br⟩ := D.ex
  obtain ⟨fb, fdb, mb, GB, kb, bb⟩ := D2.ex
  refine F.ok scLat (fun vs H Q E h => spC_len h) (fun cdv A outer s H vs Q E hr h => ⟨_, pss_cons (ps_if (pt_cmpR op_ge (pe_ix ix_list (pv 1) pe_int (fun _ _ => rfl)) (pe_callB call_len_seq (by rfl) T.len PySem.boot_len (pa_cons (pe_fld (pv 0) rfl) pa_nil)) (nomark _))
      (pss_one (ps_ret (pe_lst (pa_cons (pe_glob (v := .int (-22)) rfl mN ⟨_, rfl⟩) pa_nil)))) pss_nil)
    (pss_cons (ps_fld (pv 0) (pe_call GB hr rfl mb kb bb .nil pass0 (pa_cons (pe_fld (pv 0) rfl) (pa_cons (pe_ix ix_list (pv 1) pe_int (fun _ _ => rfl)) pa_nil))) rfl)
    (pss_one (ps_ret (pe_call G hr rfl mr kr br .nil pass0 (pa_cons (pe_fld (pv 0) rfl) pa_nil))))), ?_⟩)
  obtain ⟨a, b, wd, ns, rfl, hA, hS, hwl, hnl, ⟨i, rfl⟩, k⟩ := h
  have hA0 := hA
  obtain ⟨dx, l0, ha, hl0⟩ := hA
  refine ⟨_, rfl, b, _, _, V.int (i : Int), rfl, rfl, hS, at_of (j := 0) rfl rfl, ?_⟩
  refine ⟨_, rfl, a, C, dx, _, _, rfl, ha, T.cl, T.nW, lk_word, l0, _, rfl, .inl (SqL.of hl0), _, _, rfl, rfl, _, rfl, ?_⟩
  unfold gLat at k
  dsimp only at k
  by_cases h1 : wd.length ≤ i
  · refine yes_of (decide_eq_true (by rw [nI_length]; omega)) ?_
    rw [if_pos h1] at k
    refine ⟨(by show 1 ≤ sizeLine; decide), fun p np => ?_⟩
    exact k _ p (hA0.frm (same_new (.refl H) np)) (hA0.same (same_new (.refl H) np)) upd_same
  · refine no_of (decide_eq_false (by rw [nI_length]; omega)) ?_
    rw [if_neg h1] at k
    have hi : i < wd.length := by omega
    refine ⟨_, rfl, a, C, dx, _, _, rfl, ha, T.cl, T.nW, lk_word, _, rfl, b, _, _, V.int (i : Int), rfl, rfl, hS, at_of (j := 0) rfl rfl, l0, wd, i, rfl, SqL.of hl0, hwl, Nat.le_of_lt hi, fun H3 p3 s3 n3 h3 => ?_⟩
    have nea : p3 ≠ a := (ne_of_none ha n3).symm
    refine ⟨_, rfl, a, C, dx, _, rfl, s3 _ _ ha, T.cl, T.nW, (by show 1 < 1000; decide), ?_⟩
    refine ⟨_, rfl, a, C, dx, _, V.ref p3, rfl, upd_same, T.cl, T.nW, (by rw [put_word]; exact lk_word), p3, nI (Kqi6.begun wd i), rfl, ?_, ?_, fun H5 p s5 np hp => ?_⟩
    · rw [upd_ne nea]; exact h3
    · rw [nI_length, begun_length hi]; exact lt_huge hwl
    · refine k H5 p ((frm_store s3 n3).and upd_same s5) ((stAt_put h3 nea).same s5) ?_
      rw [hp, nI_length, begun_length hi, nI_int]; rfl
/-! ### pairs(stacking, numbers) -/
def gPrs (wd ns : List Nat) : List Nat × List Int := match ns with
  | [d] => (wd, [(Kqi6.apart wd d 0 : Int), (Kqi6.apart wd d 1 : Int), (Kqi6.apart wd d 2 : Int)])
  | _ => (wd, [])
theorem scPrs : FnScope ["stacking", "numbers"] ["stacking", "numbers"] (defScope sPrs) := ⟨rfl, rfl, rfl, by decide +kernel, rfl, by decide +kernel, by decide +kernel⟩
theorem ok_prs {f : Addr} {fd : FuncData} (F : Fun K "pairs" "pairs" sPrs f fd) (T : Txt K mg C) (D : Has P w K mg base "pairs_apart" 2 ["word", "apart"] (spPai K)) :
    FnOk P w K mg base CX0 3 f fd ["stacking", "numbers"] (spC K C (fun wd ns => Good wd ∧ ∃ i, ns = [i]) gPrs) := by
  obtain ⟨fr, fdr, mr, G, kr, br⟩ := D.ex
  refine F.ok scPrs (fun vs H Q E h => spC_len h) (fun cdv A outer s H vs Q E hr h => ⟨_, pss_one (ps_ret (pe_call G hr rfl mr kr br .nil pass0 (pa_cons (pe_fld (pv 0) rfl) (pa_cons (pe_ix ix_list (pv 1) pe_int (fun _ _ => rfl)) pa_nil)))), ?_⟩)
  obtain ⟨a, b, wd, ns, rfl, hA, hS, hwl, hnl, ⟨gd, i, rfl⟩, k⟩ := h
  have hA0 := hA
  obtain ⟨dx, l0, ha, hl0⟩ := hA
  refine ⟨_, rfl, a, C, dx, _, _, rfl, ha, T.cl, T.nW, lk_word, _, rfl, b, _, _, V.int (i : Int), rfl, rfl, hS, at_of (j := 0) rfl rfl, l0, wd, i, rfl, SqL.of hl0, hwl, fun H' p sm np hp => ?_⟩
  refine k H' p (hA0.frm sm) (hA0.same sm) ?_
  rw [hp, cnts_apart gd.2]; rfl
/-! ### table(stacking, numbers) -/
def gTbl (wd ns : List Nat) : List Nat × List Int := (wd, (wd.length : Int) :: (Kqi6.table wd).map fun (x : Nat) => (x : Int))
theorem scTbl : FnScope ["stacking", "numbers"] ["stacking", "numbers"] (defScope sTbl) := ⟨rfl, rfl, rfl, by decide +kernel, rfl, by decide +kernel, by decide +kernel⟩
theorem ok_tbl {f : Addr} {fd : FuncData} (F : Fun K "table" "table" sTbl f fd) (T : Txt K mg C) (D : Has P w K mg base "with_length" 1 ["row"] (spWit K)) (D2 : Has P w K mg base "table_of" 3 ["word"] (spTab K)) :
    FnOk P w K mg base CX0 4 f fd ["stacking", "numbers"] (spC K C (fun wd ns => Good wd) gTbl) := by
  obtain ⟨fr, fdr, mr, G, kr, br⟩ := D.ex
  obtain ⟨ft, fdt, mt, GT, kt, bt⟩ := D2.ex
  refine F.ok scTbl (fun vs H Q E h => spC_len h) (fun cdv A outer s H vs Q E hr h => ⟨_, pss_one (ps_ret (pe_call G (hr.mono (by decide)) rfl mr kr br .nil pass0 (pa_cons (pe_call GT hr rfl mt kt bt .nil pass0 (pa_cons (pe_fld (pv 0) rfl) pa_nil)) pa_nil))), ?_⟩)
  obtain ⟨a, b, wd, ns, rfl, hA, hS, hwl, hnl, gd, k⟩ := h
  have hA0 := hA
  obtain ⟨dx, l0, ha, hl0⟩ := hA
  refine ⟨_, rfl, a, C, dx, _, _, rfl, ha, T.cl, T.nW, lk_word, l0, wd, rfl, SqL.of hl0, hwl, gd.2, fun H' p sm np hp => ?_⟩
  refine ⟨p, _, rfl, hp, ?_, fun H2 q s2 nq hq => ?_⟩
  · rw [nI_length, table_length]; exact lt_huge hwl
  · refine k H2 q (hA0.frm (sm.trans s2)) (hA0.same (sm.trans s2)) ?_
    rw [hq, nI_length, table_length, nI_int]; rfl
/-! ### total(stacking, numbers) -/
def gTot (wd ns : List Nat) : List Nat × List Int := (wd, [(((Kqi6.table wd).foldl (· + ·) 0 : Nat) : Int)])
theorem sum_int (l : List Nat) : (l.map fun (x : Nat) => (x : Int)).sum = ((l.sum : Nat) : Int) := by
  induction l with
  | nil => rfl
  | cons x r ih => rw [List.map_cons, List.sum_cons, ih, List.sum_cons]; omega
theorem scTot : FnScope ["stacking", "numbers"] ["stacking", "numbers"] (defScope sTot) := ⟨rfl, rfl, rfl, by decide +kernel, rfl, by decide +kernel, by decide +kernel⟩
theorem ok_tot {f : Addr} {fd : FuncData} (F : Fun K "total" "total" sTot f fd) (T : Txt K mg C) (D2 : Has P w K mg base "table_of" 3 ["word"] (spTab K)) :
    FnOk P w K mg base CX0 4 f fd ["stacking", "numbers"] (spC K C (fun wd ns => Good wd) gTot) := by
  obtain ⟨ft, fdt, mt, GT, kt, bt⟩ := D2.ex
  refine F.ok scTot (fun vs H Q E h => spC_len h) (fun cdv A outer s H vs Q E hr h => ⟨_, pss_one (ps_ret (pe_lst (pa_cons (pe_callB (cr_sum rfl) (by rfl) T.sum (by decide +kernel) (pa_cons (pe_call GT hr rfl mt kt bt .nil pass0 (pa_cons (pe_fld (pv 0) rfl) pa_nil)) pa_nil)) pa_nil))), ?_⟩)
  obtain ⟨a, b, wd, ns, rfl, hA, hS, hwl, hnl, gd, k⟩ := h
  have hA0 := hA
  obtain ⟨dx, l0, ha, hl0⟩ := hA
  refine ⟨_, rfl, a, C, dx, _, _, rfl, ha, T.cl, T.nW, lk_word, l0, wd, rfl, SqL.of hl0, hwl, gd.2, fun H' p sm np hp => ?_⟩
  rw [nI_int] at hp
  refine ⟨p, _, rfl, SqL.of hp, (by show 1 ≤ sizeLine; decide), fun q nq => ?_⟩
  refine k _ q (hA0.frm (same_new sm nq)) (hA0.same (same_new sm nq)) ?_
  rw [upd_same, sum_int]
  unfold gTot
  rw [foldl_add, Nat.zero_add]; rfl
end
end Ray
end
section
set_option Elab.async false
set_option linter.all false
set_option maxRecDepth 100000
set_option maxHeartbeats 2000000
namespace Ray
open PySem PySem.Spec PyProof.Rows L2
abbrev sNea : Stmt := topS 33
abbrev sSam : Stmt := topS 34
def lays (w : List Nat) (i : Nat) : List Nat := [lay w 0 i, lay w 1 i, lay w 2 i]
theorem lays_get {w : List Nat} {i g : Nat} (h : g < 3) : (lays w i)[g]? = some (lay w g i) := by
  match g, h with
  | 0, _ => rfl
  | 1, _ => rfl
  | 2, _ => rfl
theorem lays_succ (w : List Nat) (i : Nat) : (lays w i).set (plc w i) (lay w (plc w i) i + 1) = lays w (i + 1) := by
  unfold lays
  rw [lay_succ, lay_succ, lay_succ]
  have h := plc_lt w i
  rcases (show plc w i = 0 ∨ plc w i = 1 ∨ plc w i = 2 by omega) with e | e | e <;> rw [e] <;> rfl
/-! ### lists of whole numbers compared -/
def dI (l : List Nat) : List PyData := l.map fun (x : Nat) => PyData.int (x : Int)
theorem dpAll {K : PySem.W.Frag} {H : Hp} : ∀ l : List Nat, DpAll K H (nI l) (dI l)
  | [] => .nil
  | x :: r => .cons (.int _) (dpAll r)
theorem canLay_dI : ∀ l : List Nat, PyData.canLayAll0 (dI l) = true
  | [] => rfl
  | x :: r => by
    show (PyData.canLay0 (.int _) && PyData.canLayAll0 (dI r)) = true
    rw [canLay_dI r]; rfl
theorem depth_dI : ∀ l : List Nat, PyData.depthAll (dI l) = 0
  | [] => rfl
  | x :: r => by
    show max (PyData.depth (.int _)) (PyData.depthAll (dI r)) = 0
    rw [depth_dI r]; rfl
theorem shaped_dI (l : List Nat) : SeqAt.shaped (.list (dI l)) = true := by
  unfold SeqAt.shaped
  have h1 : PyData.canLay0 (.list (dI l)) = true := canLay_dI l
  have h2 : PyData.depth (.list (dI l)) = 1 := by
    show PyData.depthAll (dI l) + 1 = 1
    rw [depth_dI]
  rw [h1, h2]; rfl
theorem eqvAll_dI : ∀ l m : List Nat, PyData.eqvAll (dI l) (dI m) = (l == m)
  | [], [] => rfl
  | [], _ :: _ => rfl
  | _ :: _, [] => rfl
  | x :: r, y :: t => by
    show (((x : Int) == (y : Int)) && PyData.eqvAll (dI r) (dI t)) = (x :: r == y :: t)
    rw [eqvAll_dI r t]
    by_cases h : x = y
    · subst h; simp
    · have : ((x : Int) == (y : Int)) = false := beq_false_of_ne (by omega)
      rw [this]; simp [h]
theorem eqv_dI (l m : List Nat) : PyData.eqv (.list (dI l)) (.list (dI m)) = (l == m) := eqvAll_dI l m
section
variable {P : Program} {w : World} {K : PySem.W.Frag} {mg : Str → Option Value} {base : Heap} {C : Addr}
/-! ### lying(stacking, numbers) -/
def gLyi (wd ns : List Nat) : List Nat × List Int := (wd, 3 :: (Kqi6.lying wd).map fun (x : Nat) => (x : Int))
theorem scLyi : FnScope ["stacking", "numbers", "counts", "place"] ["stacking", "numbers"] (defScope sLyi) := ⟨rfl, rfl, rfl, by decide +kernel, rfl, by decide +kernel, by decide +kernel⟩
theorem ok_lyi {f : Addr} {fd : FuncData} (F : Fun K "lying" "lying" sLyi f fd) (T : Txt K mg C) (D : Has P w K mg base "with_length" 1 ["row"] (spWit K)) (D2 : Has P w K mg base "positions" 1 ["word"] (spPos K)) :
    FnOk P w K mg base CX0 2 f fd ["stacking", "numbers"] (spC K C (fun wd ns => Good wd) gLyi) := by
  obtain ⟨fr, fdr, mr, G, kr, br⟩ := D.ex
  obtain ⟨ft, fdt, mt, GT, kt, bt⟩ := D2.ex
  refine F.ok scLyi (fun vs H Q E h => spC_len h) (fun cdv A outer s H vs Q E hr h => ⟨_, pss_cons (ps_set (i := 2) scLyi.nd rfl (Or.inl rfl) (pe_lst (pa_cons pe_int (pa_cons pe_int (pa_cons pe_int pa_nil)))))
    (pss_cons (ps_for PassesOwn.never rfl (pi_list (pe_slice sl_list (pe_call GT hr rfl mt kt bt .nil pass0 (pa_cons (pe_fld (pv 0) rfl) pa_nil)) po_none (po_some (pe_callB call_len_seq (by rfl) T.len PySem.boot_len (pa_cons (pe_fld (pv 0) rfl) pa_nil))))) (pg_name (i := 3) scLyi.nd rfl (Or.inl rfl))
      (pss_one (ps_augS (pv 2) (pv 3) get_list pe_int ip_add set_list)))
    (pss_one (ps_ret (pe_call G hr rfl mr kr br .nil pass0 (pa_cons (pv 2) pa_nil))))), ?_⟩)
  obtain ⟨a, b, wd, ns, rfl, hA, hS, hwl, hnl, gd, k⟩ := h
  have hA0 := hA
  obtain ⟨dx, l0, ha, hl0⟩ := hA
  refine ⟨(by show 3 ≤ sizeLine; decide), fun p np => ?_⟩
  have s1 := same_new (o := HO.lst [V.int 0, V.int 0, V.int 0]) (.refl H) np
  refine ⟨_, rfl, a, C, dx, _, _, rfl, s1 _ _ ha, T.cl, T.nW, lk_word, l0, wd, rfl, SqL.of (s1 _ _ hl0), hwl, fun H2 q s2 nq hq => ?_⟩
  have s3 := s1.trans s2
  refine ⟨_, rfl, a, C, dx, _, _, rfl, s3 _ _ ha, T.cl, T.nW, lk_word, l0, _, rfl, .inl (SqL.of (s3 _ _ hl0)), (wd.length : Int), ?_, q, _, rfl, SqL.of hq, fun r nr => ?_⟩
  · rw [nI_length]
  have e1 : cutV (nI (plcs wd wd.length)) none (some (wd.length : Int)) = nI ((plcs wd wd.length).take wd.length) := cut_to (by rw [plcs_length]; omega)
  rw [e1]
  have s4 := same_new (o := HO.lst (nI ((plcs wd wd.length).take wd.length))) s3 nr
  have hp2 : H2 p = some (.lst [V.int 0, V.int 0, V.int 0]) := s2 _ _ upd_same
  have hpr : p ≠ r := ne_of_none hp2 nr
  have hnr : H r = none := s3.free nr
  have hl1 : ((plcs wd wd.length).take wd.length).length = wd.length := by rw [List.length_take, plcs_length]; omega
  refine ⟨r, rfl, ⟨_, SqL.of upd_same⟩, for_list (K := K) (a := r) (xs := nI ((plcs wd wd.length).take wd.length)) (fun i σ H' => ∃ v : Option V, σ = [some (.ref a), some (.ref b), some (.ref p), v] ∧ Same H H' ∧ H' r = some (.lst (nI ((plcs wd wd.length).take wd.length))) ∧ H' p = some (.lst (nI (lays wd i))))
    ⟨none, rfl, s4, upd_same, by rw [upd_ne hpr]; exact hp2⟩ (fun i σ H' _ ⟨_, _, _, e, _⟩ => SqL.of e) ?_ ?_⟩
  · rintro i y σ H' hi ⟨v, rfl, sm, hr', hp⟩
    obtain ⟨x, hx, rfl⟩ := nI_get hi
    have hlt : i < wd.length := by have := (List.getElem?_eq_some_iff.mp hx).1; omega
    have ex : x = plc wd i := by
      rw [List.getElem?_take_of_lt hlt, plcs_get (by omega)] at hx
      exact (Option.some.inj hx).symm
    subst ex
    refine ⟨_, rfl, _, rfl, p, _, plc wd i, _, rfl, rfl, SqL.of hp, nI_at (lays_get (plc_lt wd i)), _, _, rfl, rfl, p, _, _, plc wd i, rfl, rfl, hp, ixN_at rfl (by rw [nI_length]; exact plc_lt wd i), ?_⟩
    refine ⟨_, rfl, same_put sm np, ?_, ?_⟩
    · rw [upd_ne hpr.symm]; exact hr'
    · rw [upd_same, ← lays_succ, nI_set]; rfl
  · rintro σ H' ⟨v, rfl, sm, hr', hp⟩
    rw [nI_length, hl1] at hp
    refine ⟨_, rfl, p, _, rfl, hp, (by show 3 < huge; decide), fun H5 u s5 nu hu => ?_⟩
    refine k H5 u (hA0.frm (sm.trans s5)) (hA0.same (sm.trans s5)) ?_
    rw [hu]
    unfold gLyi
    rw [lying_eq gd.2]; rfl
/-! ### near(stacking, numbers) -/
def gNea (wd ns : List Nat) : List Nat × List Int := (wd, [((((List.range wd.length).find? fun d => decide (0 < Kqi6.at_ (Kqi6.table wd) d)).getD 0 + 1 : Nat) : Int)])
theorem scNea : FnScope ["stacking", "numbers", "apart"] ["stacking", "numbers"] (defScope sNea) := ⟨rfl, rfl, rfl, by decide +kernel, rfl, by decide +kernel, by decide +kernel⟩
def slotI (i : Nat) (σ : L2.St) : Int := match σ[i]? with
  | some (some (.int k)) => k
  | _ => 0
theorem ok_nea {f : Addr} {fd : FuncData} (F : Fun K "near" "near" sNea f fd) (T : Txt K mg C) (D : Has P w K mg base "pairs_apart" 2 ["word", "apart"] (spPai K)) :
    FnOk P w K mg base CX0 3 f fd ["stacking", "numbers"] (spC K C (fun wd ns => Good wd) gNea) := by
  obtain ⟨fr, fdr, mr, G, kr, br⟩ := D.ex
  refine F.ok scNea (fun vs H Q E h => spC_len h) (fun cdv A outer s H vs Q E hr h => ⟨_, pss_cons (ps_set (i := 2) scNea.nd rfl (Or.inl rfl) pe_int)
    (pss_cons (ps_while PassesOwn.never (pt_cmpR op_eq (pe_ix ix_list (pe_call G hr rfl mr kr br .nil pass0 (pa_cons (pe_fld (pv 0) rfl) (pa_cons (pv 2) pa_nil))) pe_int (fun _ _ => rfl)) pe_int (nomark _))
      (pss_one (ps_aug (i := 2) scNea.nd rfl (.inl rfl) pe_int ip_add)))
    (pss_one (ps_ret (pe_lst (pa_cons (pv 2) pa_nil))))), ?_⟩)
  obtain ⟨a, b, wd, ns, rfl, hA, hS, hwl, hnl, gd, k⟩ := h
  have hA0 := hA
  obtain ⟨dx, l0, ha, hl0⟩ := hA
  have hlen : 1 ≤ wd.length := ((right_iff wd).mp gd.1).1
  refine while_by (fun σ H' => ∃ n : Nat, σ = [some (.ref a), some (.ref b), some (.int (n : Int))] ∧ 1 ≤ n ∧ n ≤ wd.length ∧ (∀ j, 1 ≤ j → j < n → Kqi6.apart wd j 0 = 0) ∧ Same H H') (fun σ _ => wd.length - (slotI 2 σ).toNat)
    ⟨1, rfl, Nat.le_refl _, hlen, fun j h1 h2 => by omega, .refl H⟩ ?_ ?_
  · rintro σ H1 ⟨n, rfl, h1, h2, h3, sm⟩
    refine ⟨_, rfl, a, C, dx, _, _, rfl, sm _ _ ha, T.cl, T.nW, lk_word, _, rfl, l0, wd, n, rfl, SqL.of (sm _ _ hl0), hwl, fun H2 p s2 np hp => ?_⟩
    refine ⟨p, _, _, V.int ((cnt wd n 0 wd.length : Nat) : Int), rfl, rfl, SqL.of hp, at_of (j := 0) rfl (nI_at (cnts_get (by decide))), rfl, _, rfl, ?_⟩
    rw [← apart_eq gd.2]
    by_cases h0 : Kqi6.apart wd n 0 = 0
    · refine yes_of (int_eq (by omega)) ?_
      have hn : n ≠ wd.length := by
        intro e
        rw [e, apart_self gd.2] at h0
        omega
      refine ⟨_, rfl, _, _, rfl, rfl, ⟨n + 1, rfl, by omega, by omega, fun j j1 j2 => ?_, sm.trans s2⟩, ?_⟩
      · by_cases e : j = n
        · rw [e]; exact h0
        · exact h3 j j1 (by omega)
      · show wd.length - ((n : Int) + 1).toNat < wd.length - (n : Int).toNat
        omega
    · refine no_of (int_ne (by omega)) ?_
      refine ⟨_, rfl, (by show 1 ≤ sizeLine; decide), fun q nq => ?_⟩
      have sq := same_new (o := HO.lst [V.int (n : Int)]) (sm.trans s2) nq
      refine k _ q (hA0.frm sq) (hA0.same sq) ?_
      unfold gNea
      rw [near_is h1 h2 h0 h3]
      exact upd_same
  · rintro σ H1 Q1 Q2 hQ ⟨v, e1, a', C', dx', fs, v', e2, e3, e4, e5, e6, v2, e7, a2, w2, d2, e8, e9, e10, kk⟩
    refine ⟨v, e1, a', C', dx', fs, v', e2, e3, e4, e5, e6, v2, e7, a2, w2, d2, e8, e9, e10, fun H2 p s2 np hp => ?_⟩
    obtain ⟨p', xs, i, z, f1, f2, f3, f4, f5, kq, f6, f7⟩ := kk H2 p s2 np hp
    exact ⟨p', xs, i, z, f1, f2, f3, f4, f5, kq, f6, hQ _ _ f7⟩
/-! ### same(stacking, numbers) -/
def gSam (wd ns : List Nat) : List Nat × List Int := (wd, [if refb wd ns = 0 then (if Kqi6.same ns wd = true then 1 else 0) else refb wd ns])
theorem refb_zero {wd ns : List Nat} (h : refb wd ns = 0) : Kqi6.closes ns = true ∧ ns.length = wd.length := by
  unfold refb refu at h
  split at h
  · omega
  · rename_i hl
    split at h
    · omega
    · split at h
      · exact ⟨by assumption, Classical.not_not.mp hl⟩
      · omega
theorem scSam : FnScope ["stacking", "numbers", "refused"] ["stacking", "numbers"] (defScope sSam) := ⟨rfl, rfl, rfl, by decide +kernel, rfl, by decide +kernel, by decide +kernel⟩
theorem ok_sam {f : Addr} {fd : FuncData} (F : Fun K "same" "same" sSam f fd) (T : Txt K mg C) (D : Has P w K mg base "refusal_beside" 4 ["word", "numbers"] (spRfb K)) (D2 : Has P w K mg base "table_of" 3 ["word"] (spTab K)) :
    FnOk P w K mg base CX0 5 f fd ["stacking", "numbers"] (spC K C (fun wd ns => Good wd) gSam) := by
  obtain ⟨fr, fdr, mr, G, kr, br⟩ := D.ex
  obtain ⟨ft, fdt, mt, GT, kt, bt⟩ := D2.ex
  refine F.ok scSam (fun vs H Q E h => spC_len h) (fun cdv A outer s H vs Q E hr h => ⟨_, pss_cons (ps_set (i := 2) scSam.nd rfl (Or.inl rfl) (pe_call G hr rfl mr kr br .nil pass0 (pa_cons (pe_fld (pv 0) rfl) (pa_cons (pv 1) pa_nil))))
    (pss_cons (ps_if (pt_cmpR op_ne (pv 2) pe_int (nomark _)) (pss_one (ps_ret (pe_lst (pa_cons (pv 2) pa_nil)))) pss_nil)
    (pss_one (ps_ret (pe_lst (pa_cons (pe_ifExp (pt_cmpR (op_eqD hr.units) (pe_call GT (hr.mono (by decide)) rfl mt kt bt .nil pass0 (pa_cons (pv 1) pa_nil)) (pe_call GT (hr.mono (by decide)) rfl mt kt bt .nil pass0 (pa_cons (pe_fld (pv 0) rfl) pa_nil)) (nomark _)) pe_int pe_int) pa_nil))))), ?_⟩)
  obtain ⟨a, b, wd, ns, rfl, hA, hS, hwl, hnl, gd, k⟩ := h
  have hA0 := hA
  obtain ⟨dx, l0, ha, hl0⟩ := hA
  refine ⟨_, rfl, a, C, dx, _, _, rfl, ha, T.cl, T.nW, lk_word, _, rfl, l0, b, wd, ns, rfl, SqL.of hl0, hS, hnl, fun H1 s1 => ?_⟩
  refine ⟨_, rfl, rfl, _, rfl, ?_⟩
  unfold gSam at k
  by_cases h0 : refb wd ns = 0
  · refine no_of (by rw [int_eq h0]; rfl) ?_
    rw [if_pos h0] at k
    refine ⟨_, rfl, b, ns, rfl, s1.seq hS, hnl, (refb_zero h0).1, fun H2 p s2 np hp => ?_⟩
    have s12 := s1.trans s2
    refine ⟨_, rfl, a, C, dx, _, _, rfl, s12 _ _ ha, T.cl, T.nW, lk_word, l0, wd, rfl, SqL.of (s12 _ _ hl0), hwl, gd.2, fun H3 q s3 nq hq => ?_⟩
    have s13 := s12.trans s3
    refine ⟨_, _, .lst (SqL.of (s3 _ _ hp)) (dpAll _), .lst (SqL.of hq) (dpAll _), shaped_dI _, shaped_dI _, _, rfl, ?_⟩
    rw [eqv_dI]
    have e : (Kqi6.table ns == Kqi6.table wd) = Kqi6.same ns wd := rfl
    rw [e]
    cases h1 : Kqi6.same ns wd with
    | true =>
      rw [h1] at k
      refine ⟨(by show 1 ≤ sizeLine; decide), fun u nu => ?_⟩
      exact k _ u (hA0.frm (same_new s13 nu)) (hA0.same (same_new s13 nu)) upd_same
    | false =>
      rw [h1] at k
      refine ⟨(by show 1 ≤ sizeLine; decide), fun u nu => ?_⟩
      exact k _ u (hA0.frm (same_new s13 nu)) (hA0.same (same_new s13 nu)) upd_same
  · refine yes_of (by rw [int_ne h0]; rfl) ?_
    rw [if_neg h0] at k
    refine ⟨_, rfl, (by show 1 ≤ sizeLine; decide), fun p np => ?_⟩
    exact k _ p (hA0.frm (same_new s1 np)) (hA0.same (same_new s1 np)) upd_same
end
end Ray
end
section
set_option Elab.async false
set_option linter.all false
set_option maxRecDepth 100000
set_option maxHeartbeats 2000000
namespace Ray
open PySem PySem.Spec PyProof.Rows L2
/-! ### min of a list of lists of whole numbers -/
theorem alike_dI : ∀ v w : List Nat, PySem.W.alikeAll (dI v) (dI w) = true
  | [], _ => by cases ‹List Nat› <;> rfl
  | _ :: _, [] => rfl
  | x :: v, y :: w => by
    show (PySem.W.alike (.int _) (.int _) && PySem.W.alikeAll (dI v) (dI w)) = true
    rw [alike_dI v w]; rfl
theorem lt_dI : ∀ v w : List Nat, PySem.W.dataLt (.list (dI v)) (.list (dI w)) = lexB v w
  | [], [] => by
    rw [PySem.W.dataLt_list]
    exact PyProof.Rows.lex_irrefl _
  | [], _ :: _ => by
    rw [PySem.W.dataLt_list]; rfl
  | _ :: _, [] => by
    rw [PySem.W.dataLt_list]; rfl
  | x :: v, y :: w => by
    have ih := lt_dI v w
    rw [PySem.W.dataLt_list] at ih ⊢
    show PyProof.Rows.lexLt PyProof.Rows.itemOrd (PySem.W.keyToksAll (.int (x : Int) :: dI v)) (PySem.W.keyToksAll (.int (y : Int) :: dI w)) = if x = y then lexB v w else decide (x < y)
    rw [PySem.W.dataLt_cons (by rfl), ih, PySem.W.dataLt_int]
    have e : PyData.eqv (.int (x : Int)) (.int (y : Int)) = decide (x = y) := by
      show ((x : Int) == (y : Int)) = _
      by_cases h : x = y
      · subst h; simp
      · rw [decide_eq_false h]; exact beq_false_of_ne (by omega)
    rw [e]
    by_cases h : x = y
    · rw [if_pos h, if_pos (decide_eq_true h)]
    · rw [if_neg h, if_neg (by rw [decide_eq_false h]; exact Bool.false_ne_true)]
      exact decide_eq_decide.mpr (show (x : Int) < (y : Int) ↔ x < y by omega)
theorem min_dI : ∀ (x : List Nat) (xs : List (List Nat)), PySem.W.minD (.list (dI x)) (xs.map fun w => .list (dI w)) = .list (dI (leastW x xs))
  | x, [] => rfl
  | x, y :: xs => by
    have e : PySem.W.minD (.list (dI x)) ((y :: xs).map fun w => .list (dI w)) = PySem.W.minD (if PySem.W.dataLt (.list (dI y)) (.list (dI x)) = true then .list (dI y) else .list (dI x)) (xs.map fun w => .list (dI w)) := rfl
    have e2 : leastW x (y :: xs) = leastW (if lexB y x = true then y else x) xs := rfl
    rw [e, e2, lt_dI]
    by_cases h : lexB y x = true
    · rw [if_pos h, if_pos h]; exact min_dI y xs
    · rw [if_neg h, if_neg h]; exact min_dI x xs
theorem dI_inj {v w : List Nat} (h : dI v = dI w) : v = w := by
  have e := eqvAll_dI v w
  rw [h, eqvAll_dI w w] at e
  exact (beq_iff_eq.mp (e.symm.trans (beq_self_eq_true w))).symm ▸ rfl
section
variable {X : Cx}
def rMinW (K : PySem.W.Frag) : List V → Hp → VK → Prop := fun vs H Q => ∃ (a : Addr) (k0 : Addr × List Nat) (ks : List (Addr × List Nat)), vs = [V.ref a] ∧ SqL K H a ((k0 :: ks).map fun k => V.ref k.1) ∧ (∀ k ∈ k0 :: ks, SqL K H k.1 (nI k.2)) ∧
  ∀ k ∈ k0 :: ks, k.2 = leastW k0.2 (ks.map (·.2)) → Q (.ref k.1) H
theorem dp_lists {K : PySem.W.Frag} {H : Hp} : ∀ ks : List (Addr × List Nat), (∀ k ∈ ks, SqL K H k.1 (nI k.2)) → DpAll K H (ks.map fun k => V.ref k.1) (ks.map fun k => PyData.list (dI k.2))
  | [], _ => .nil
  | k :: ks, h => .cons (.lst (h k List.mem_cons_self) (dpAll _)) (dp_lists ks fun j hj => h j (List.mem_cons_of_mem _ hj))
theorem depth_lists : ∀ ks : List (Addr × List Nat), PyData.depthAll (ks.map fun k => PyData.list (dI k.2)) ≤ 1
  | [] => by show 0 ≤ 1; decide
  | k :: ks => by
    show max (PyData.depthAll (dI k.2) + 1) (PyData.depthAll (ks.map fun k => PyData.list (dI k.2))) ≤ 1
    have := depth_lists ks
    rw [depth_dI]; omega
theorem cr_minW (hc : X.calm = true) (hu : X.A.units + 64 < cLine) : CallR X (.builtin "min") (rMinW X.K) := by
  rintro pins s σ H vs us Q I r ⟨a, k0, ks, rfl, hs, hk, q⟩
  obtain ⟨its, rv, pl, -⟩ := I.list hs
  rw [Vals.ref1 r]
  obtain ⟨as, hr⟩ := Dp.readsAll I _ _ _ (dp_lists (k0 :: ks) hk) rv
  have al : PySem.W.AlikeAll ((k0 :: ks).map fun k => PyData.list (dI k.2)) := by
    refine ⟨fun x hx y hy => ?_, fun x hx e => ?_⟩
    · obtain ⟨k, _, rfl⟩ := List.mem_map.mp hx
      obtain ⟨j, _, rfl⟩ := List.mem_map.mp hy
      exact alike_dI k.2 j.2
    · obtain ⟨k, _, rfl⟩ := List.mem_map.mp hx
      cases e
  have dl := depth_lists (k0 :: ks)
  refine PySem.W.min_list_data (I.ok.hd hc) pl.isList hr al (by show X.A.units + 1 + PyData.depthAll ((k0 :: ks).map fun k => PyData.list (dI k.2)) < cLine; omega) fun i v h' tk bs hv hR kp => ?_
  have I2 : Inv X pins σ H { s with heap := h', toks := tk } := I.kept kp
  have there : its[i]? = some v := by simpa using hv
  have hlen := rv.length
  have hi : i < ((k0 :: ks).map fun k => V.ref k.1).length := by rw [hlen]; exact (List.getElem?_eq_some_iff.mp there).1
  have hi' : i < (k0 :: ks).length := by simpa using hi
  have hx : ((k0 :: ks).map fun k => V.ref k.1)[i]? = some (V.ref ((k0 :: ks)[i]).1) := by
    rw [List.getElem?_map, List.getElem?_eq_getElem hi']; rfl
  obtain ⟨u, hu1, ru⟩ := rv.get hx
  obtain rfl : u = v := Option.some.inj (hu1.symm.trans there)
  have hmem : (k0 :: ks)[i] ∈ k0 :: ks := List.getElem_mem hi'
  obtain ⟨cs, hR2⟩ := Dp.reads I2 (.list (dI ((k0 :: ks)[i]).2)) (V.ref ((k0 :: ks)[i]).1) u (.lst (hk _ hmem) (dpAll _)) ru
  have e1 : PyData.list (dI ((k0 :: ks)[i]).2) = PySem.W.minD (.list (dI k0.2)) (ks.map fun k => PyData.list (dI k.2)) := by
    have c := SeqAt.readOf_eq (SeqAt.canLay_of_shaped (shaped_dI _)) hR2
    have e0 : (ks.map fun k => PyData.list (dI k.2)) = (ks.map (·.2)).map fun w => PyData.list (dI w) := by rw [List.map_map]; rfl
    rw [e0, min_dI] at hR ⊢
    rw [← c, SeqAt.readOf_eq (SeqAt.canLay_of_shaped (shaped_dI _)) hR]
  have e0 : (ks.map fun k => PyData.list (dI k.2)) = (ks.map (·.2)).map fun w => PyData.list (dI w) := by rw [List.map_map]; rfl
  rw [e0, min_dI] at e1
  exact ⟨.ref ((k0 :: ks)[i]).1, H, I2, ru, q _ hmem (dI_inj (PyData.list.inj e1))⟩
end
end Ray
end
section
set_option Elab.async false
set_option linter.all false
set_option maxRecDepth 100000
set_option maxHeartbeats 2000000
namespace Ray
open PySem PySem.Spec PyProof.Rows L2
abbrev sCwd : Stmt := topS 18
/-! ### a list of lists of whole numbers -/
structure LLs (H : Hp) (a : Addr) (ks : List (Addr × List Nat)) : Prop where
  lst : H a = some (.lst (ks.map fun k => V.ref k.1))
  el : ∀ k ∈ ks, H k.1 = some (.lst (nI k.2)) ∧ k.1 ≠ a
theorem LLs.same {H H' : Hp} {a : Addr} {ks : List (Addr × List Nat)} (h : LLs H a ks) (s : Same H H') : LLs H' a ks :=
  ⟨s _ _ h.lst, fun k hk => ⟨s _ _ (h.el k hk).1, (h.el k hk).2⟩⟩
theorem LLs.push {H H' : Hp} {a r : Addr} {ks : List (Addr × List Nat)} {w : List Nat} (h : LLs H a ks) (s : Same H H') (hr : H' r = some (.lst (nI w))) (hn : r ≠ a) :
    LLs (upd H' a (.lst ((ks.map fun k => V.ref k.1) ++ [V.ref r]))) a (ks ++ [(r, w)]) := by
  refine ⟨by rw [upd_same, List.map_append]; rfl, fun k hk => ?_⟩
  rcases List.mem_append.mp hk with z | z
  · exact ⟨by rw [upd_ne (h.el k z).2]; exact s _ _ (h.el k z).1, (h.el k z).2⟩
  · obtain rfl := List.mem_singleton.mp z
    exact ⟨by rw [upd_ne hn]; exact hr, hn⟩
theorem refs_get {ks : List (Addr × List Nat)} {i : Nat} {x : V} (h : (ks.map fun k => V.ref k.1)[i]? = some x) : ∃ k, ks[i]? = some k ∧ x = V.ref k.1 := by
  rw [List.getElem?_map] at h
  cases e : ks[i]? with
  | none =>
    rw [e] at h
    cases h
  | some k => rw [e] at h; exact ⟨k, rfl, (Option.some.inj h).symm⟩
theorem refs_length (ks : List (Addr × List Nat)) : (ks.map fun k => V.ref k.1).length = ks.length := List.length_map _
def slotL (i : Nat) (σ : L2.St) (H : Hp) : Nat := match σ[i]? with
  | some (some (.ref a)) => match H a with
    | some (.lst xs) => xs.length
    | _ => 0
  | _ => 0
section
variable {P : Program} {w : World} {K : PySem.W.Frag} {mg : Str → Option Value} {base : Heap}
/-! ### closing_words(steps) -/
def teDig (x : Int) : TE := tOp rCat (tLst (tCons (tC (.int x)) tNil)) (tVar 2)
/-- [[x] + word for word in words] -/
theorem digit_lc {H : Hp} {a : Addr} {ks : List (Addr × List Nat)} {n : V} {v : Option V} {x : Nat} {Q : VK} (hL : LLs H a ks) (h1 : ks.length ≤ 1000) (h2 : ∀ k ∈ ks, k.2.length ≤ 1000)
    (hd : ∀ (H' : Hp) (p : Addr) (js : List (Addr × List Nat)), Same H H' → H p = none → LLs H' p js → js.map (·.2) = (ks.map (·.2)).map (fun w => x :: w) → Q (.ref p) H') :
    tLc (iList K (tVar 1)) (gName 2) tYes (teDig (x : Int)) [2] [some n, some (.ref a), v] H Q := by
  refine ⟨_, rfl, a, rfl, ⟨_, SqL.of hL.lst⟩, fun D hD => lc_list (K := K) (a := a) (xs := ks.map fun k => V.ref k.1) (fun i H' => Same H H' ∧ ∃ js, LLs H' D js ∧ js.length = i ∧ js.map (·.2) = ((ks.take i).map (·.2)).map (fun w => x :: w))
    ⟨same_put (.refl H) hD, [], ⟨upd_same, fun k hk => (by cases hk)⟩, rfl, rfl⟩ (fun i H' _ e => e.1.seq (SqL.of hL.lst)) ?_ ?_⟩
  · rintro i y H' hi ⟨sm, js, hJ, hjl, hjs⟩
    obtain ⟨k, hk, rfl⟩ := refs_get hi
    have hmem := List.mem_of_getElem? hk
    have hil : i < ks.length := (List.getElem?_eq_some_iff.mp hk).1
    refine ⟨rfl, (by show 1 ≤ sizeLine; decide), fun q nq => ?_⟩
    have s1 := same_new (o := HO.lst [V.int (x : Int)]) (.refl H') nq
    have hk1 : H' k.1 = some (.lst (nI k.2)) := sm _ _ (hL.el k hmem).1
    refine ⟨_, rfl, q, k.1, _, _, rfl, rfl, upd_same, s1 _ _ hk1, ?_, fun r nr => ?_⟩
    · rw [nI_length]
      have := h2 k hmem
      have e : (100000 : Nat) ≤ sizeLine := by decide
      show 1 + k.2.length ≤ sizeLine
      omega
    have s2 := same_new (o := HO.lst ([V.int (x : Int)] ++ nI k.2)) s1 nr
    have hD2 := s2 _ _ hJ.lst
    have hrD : r ≠ D := fun e => by rw [e, s1 _ _ hJ.lst] at nr; cases nr
    refine ⟨_, hD2, ?_, same_put (sm.trans s2) hD, js ++ [(r, x :: k.2)], hJ.push s2 upd_same hrD, ?_, ?_⟩
    · rw [refs_length, hjl]
      exact big_line (by unfold big; omega)
    · rw [List.length_append, hjl]; rfl
    · rw [List.map_append, hjs, take_more hk, List.map_append, List.map_append]; rfl
  · rintro H' ⟨sm, js, hJ, hjl, hjs⟩
    rw [refs_length, List.take_length] at hjs
    exact hd H' D js sm hD hJ hjs
def spCwd : Sp := fun vs H Q _ => ∃ n : Nat, vs = [.int (n : Int)] ∧ n ≤ 8 ∧ ∀ (H' : Hp) (p : Addr) (ks : List (Addr × List Nat)), Same H H' → H p = none → LLs H' p ks → ks.map (·.2) = Kqi6.closing n → Q (.ref p) H'
theorem scCwd : FnScope ["steps", "words", "word"] ["steps"] (defScope sCwd) := ⟨rfl, rfl, rfl, by decide +kernel, rfl, by decide +kernel, by decide +kernel⟩
theorem ok_cwd {f : Addr} {fd : FuncData} (F : Fun K "closing_words" "closing_words" sCwd f fd) (DC : Has P w K mg base "closes" 2 ["word"] (spClo K)) (mlen : mg "len" = none) : FnOk P w K mg base CX0 3 f fd ["steps"] spCwd := by
  obtain ⟨fc, fdc, mc, GC, kc, bc⟩ := DC.ex
  refine F.ok scCwd (fun vs H Q E h => ?_) (fun cdv A outer s H vs Q E hr h => ⟨_, pss_cons (ps_set (i := 1) scCwd.nd rfl (Or.inl rfl) (pe_lst (pa_cons (pe_lst pa_nil) pa_nil)))
    (pss_cons (ps_while PassesOwn.never (pt_cmpR op_lt (pe_callB call_len_seq (by rfl) mlen PySem.boot_len (pa_cons (pe_ix ix_list (pv 1) pe_int (fun _ _ => rfl)) pa_nil)) (pv 0) (nomark _))
      (pss_one (ps_set (i := 1) scCwd.nd rfl (Or.inl rfl) (pe_op op_cat
        (pe_lc (own := [("word", 2)]) (g := gName 2) (tt := tYes) (te := teDig 0) rfl scCwd.nd (pi_list (pv 1)) (blkOk_by (N := ["steps", "words", "word"]) (sc := defScope sCwd) (by decide +kernel)) (fun _ _ _ _ _ => pg_name (i := 2) scCwd.nd rfl (Or.inl rfl)) (fun _ _ _ _ _ => pts_nil)
          (fun _ _ _ _ _ => pe_op op_cat (pe_lst (pa_cons pe_int pa_nil)) (pv 2)))
        (pe_lc (own := [("word", 2)]) (g := gName 2) (tt := tYes) (te := teDig 1) rfl scCwd.nd (pi_list (pv 1)) (blkOk_by (N := ["steps", "words", "word"]) (sc := defScope sCwd) (by decide +kernel)) (fun _ _ _ _ _ => pg_name (i := 2) scCwd.nd rfl (Or.inl rfl)) (fun _ _ _ _ _ => pts_nil)
          (fun _ _ _ _ _ => pe_op op_cat (pe_lst (pa_cons pe_int pa_nil)) (pv 2)))))))
    (pss_one (ps_ret
      (pe_lc (own := [("word", 2)]) (g := gName 2) (tt := tTest (tCall (spClo K) [] E0 (tCons (tVar 2) tNil))) (te := tVar 2) rfl scCwd.nd (pi_list (pv 1)) (blkOk_by (N := ["steps", "words", "word"]) (sc := defScope sCwd) (by decide +kernel)) (fun _ _ _ _ _ => pg_name (i := 2) scCwd.nd rfl (Or.inl rfl))
          (fun _ _ _ _ _ => pts_one (pt_val (pe_call GC hr (by rfl) mc kc bc .nil pass0 (pa_cons (pv 2) pa_nil))))
          (fun _ _ _ _ _ => pv 2))))), ?_⟩)
  · obtain ⟨n, rfl, _⟩ := h
    rfl
  · obtain ⟨n, rfl, hn, k⟩ := h
    refine ⟨(by show 0 ≤ sizeLine; decide), fun e ne => ?_⟩
    refine ⟨(by show 1 ≤ sizeLine; decide), fun W nW => ?_⟩
    have s1 := same_new (o := HO.lst []) (.refl H) ne
    have s2 := same_new (o := HO.lst [V.ref e]) s1 nW
    have heW : e ≠ W := ne_of_none upd_same nW
    refine while_by (fun σ H' => ∃ (j : Nat) (a : Addr) (v : Option V) (ks : List (Addr × List Nat)), σ = [some (.int (n : Int)), some (.ref a), v] ∧ j ≤ n ∧ Same H H' ∧ LLs H' a ks ∧ ks.map (·.2) = Kqi6.words j) (fun σ H' => 256 - slotL 1 σ H')
      ⟨0, W, none, [(e, [])], rfl, Nat.zero_le _, s2, ⟨upd_same, fun k hk => ?_⟩, rfl⟩ ?_ ?_
    · rw [List.mem_singleton.mp hk]
      exact ⟨by rw [upd_ne heW, upd_same]; rfl, heW⟩
    · rintro σ H1 ⟨j, a, v, ks, rfl, hj, sm, hL, hks⟩
      have hlen : ks.length = 2 ^ j := by rw [← words_length, ← hks, List.length_map]
      have hpos : 0 < ks.length := by rw [hlen]; exact Nat.pow_pos (by decide)
      have hle : 2 ^ j ≤ 256 := Nat.pow_le_pow_right (n := 2) (by decide) (show j ≤ 8 by omega)
      have hmem : ∀ k ∈ ks, k.2.length = j := fun k hk => ((words_mem j k.2).mp (by rw [← hks]; exact List.mem_map.mpr ⟨k, hk, rfl⟩)).1
      obtain ⟨k0, hk0⟩ : ∃ k0, ks[0]? = some k0 := ⟨ks[0], List.getElem?_eq_getElem hpos⟩
      have h0m := List.mem_of_getElem? hk0
      refine ⟨_, rfl, a, _, _, V.ref k0.1, rfl, rfl, SqL.of hL.lst, at_of (j := 0) rfl (by rw [List.getElem?_map, hk0]; rfl), k0.1, _, rfl, .inl (SqL.of (hL.el k0 h0m).1), _, rfl, _, _, rfl, rfl, _, rfl, ?_⟩
      rw [nI_length, hmem k0 h0m]
      by_cases hjn : j < n
      · refine yes_of (decide_eq_true (by omega)) ?_
        have hjle : 2 ^ (j + 1) ≤ 256 := Nat.pow_le_pow_right (n := 2) (by decide) (show j + 1 ≤ 8 by omega)
        have hpw : 2 ^ (j + 1) = 2 ^ j + 2 ^ j := by rw [Nat.pow_succ]; omega
        delta tAsg tOp
        show tLc (iList K (tVar 1)) (gName 2) tYes (teDig ((0 : Nat) : Int)) [2] [some (.int (n : Int)), some (.ref a), v] H1 _
        refine digit_lc (x := 0) hL (by omega) (fun k hk => by rw [hmem k hk]; omega) fun H2 p js s12 np hJ hjs => ?_
        have hL2 := hL.same s12
        show tLc (iList K (tVar 1)) (gName 2) tYes (teDig ((1 : Nat) : Int)) [2] [some (.int (n : Int)), some (.ref a), v] H2 _
        refine digit_lc (x := 1) hL2 (by omega) (fun k hk => by rw [hmem k hk]; omega) fun H3 q is s23 nq hI his => ?_
        have hJ3 := hJ.same s23
        have jl : js.length = 2 ^ j := by rw [← List.length_map (f := fun k : Addr × List Nat => k.2), hjs, List.length_map, List.length_map, hlen]
        have il : is.length = 2 ^ j := by rw [← List.length_map (f := fun k : Addr × List Nat => k.2), his, List.length_map, List.length_map, hlen]
        refine ⟨p, q, _, _, rfl, rfl, hJ3.lst, hI.lst, ?_, fun r nr => ?_⟩
        · rw [refs_length, refs_length, jl, il]
          have : (100000 : Nat) ≤ sizeLine := by decide
          omega
        have s34 := same_new (o := HO.lst ((js.map fun k => V.ref k.1) ++ is.map fun k => V.ref k.1)) (.refl H3) nr
        refine ⟨⟨j + 1, r, _, js ++ is, rfl, hjn, (sm.trans s12).trans (s23.trans s34), ⟨by rw [upd_same, List.map_append], fun k hk => ?_⟩, ?_⟩, ?_⟩
        · rcases List.mem_append.mp hk with z | z
          · exact ⟨s34 _ _ (hJ3.el k z).1, ne_of_none (hJ3.el k z).1 nr⟩
          · exact ⟨s34 _ _ (hI.el k z).1, ne_of_none (hI.el k z).1 nr⟩
        · rw [List.map_append, hjs, his, hks]; rfl
        · show 256 - slotL 1 [some (.int (n : Int)), some (.ref r), v] _ < 256 - slotL 1 [some (.int (n : Int)), some (.ref a), v] H1
          have e1 : slotL 1 [some (.int (n : Int)), some (.ref a), v] H1 = 2 ^ j := by
            show (match H1 a with | some (.lst xs) => xs.length | _ => 0) = _
            rw [hL.lst]
            show (ks.map fun k => V.ref k.1).length = _
            rw [refs_length, hlen]
          have e2 : slotL 1 [some (.int (n : Int)), some (.ref r), v] (upd H3 r (.lst ((js.map fun k => V.ref k.1) ++ is.map fun k => V.ref k.1))) = 2 ^ (j + 1) := by
            show (match upd H3 r (.lst ((js.map fun k => V.ref k.1) ++ is.map fun k => V.ref k.1)) r with | some (.lst xs) => xs.length | _ => 0) = _
            rw [upd_same]
            show ((js.map fun k => V.ref k.1) ++ is.map fun k => V.ref k.1).length = _
            rw [List.length_append, refs_length, refs_length, jl, il, hpw]
          have hp2 : 0 < 2 ^ j := Nat.pow_pos (by decide)
          rw [e1, e2]; omega
      · refine no_of (decide_eq_false (by omega)) ?_
        obtain rfl : j = n := by omega
        refine ⟨_, rfl, a, rfl, ⟨_, SqL.of hL.lst⟩, fun D hD => lc_list (K := K) (a := a) (xs := ks.map fun k => V.ref k.1) (fun i H' => Same H1 H' ∧ LLs H' D ((ks.take i).filter fun k => Kqi6.closes k.2)) ⟨same_put (.refl H1) hD, upd_same, fun k hk => (by cases hk)⟩ (fun i H' _ e => e.1.seq (SqL.of hL.lst)) ?_ ?_⟩
        · rintro i y H' hi ⟨sm', hJ⟩
          obtain ⟨k, hk, rfl⟩ := refs_get hi
          have hm := List.mem_of_getElem? hk
          have hil : i < ks.length := (List.getElem?_eq_some_iff.mp hk).1
          have hkD : k.1 ≠ D := ne_of_none (hL.el k hm).1 hD
          refine ⟨rfl, _, rfl, k.1, k.2, rfl, SqL.of (sm' _ _ (hL.el k hm).1), ?_, fun H2 s2 => ⟨_, rfl, ?_⟩⟩
          · rw [hmem k hm]
            have : (9 : Nat) < big := by decide
            omega
          cases hc : Kqi6.closes k.2 with
          | true =>
            refine yes_of rfl ⟨_, rfl, _, s2 _ _ hJ.lst, ?_, same_put (sm'.trans s2) hD, ?_⟩
            · rw [refs_length]
              have h3 := List.length_filter_le (fun k : Addr × List Nat => Kqi6.closes k.2) (ks.take i)
              rw [List.length_take] at h3
              exact big_line (by unfold big; omega)
            · rw [take_more hk, List.filter_append]
              have e : [k].filter (fun k => Kqi6.closes k.2) = [(k.1, k.2)] := by simp [hc]
              rw [e]
              exact hJ.push s2 (s2 _ _ (sm' _ _ (hL.el k hm).1)) hkD
          | false =>
            refine no_of rfl ⟨sm'.trans s2, ?_⟩
            rw [take_more hk, List.filter_append]
            have e : [k].filter (fun k => Kqi6.closes k.2) = [] := by simp [hc]
            rw [e, List.append_nil]
            exact hJ.same s2
        · rintro H' ⟨sm', hJ⟩
          rw [refs_length, List.take_length] at hJ
          refine k H' D _ (sm.trans sm') (sm.free hD) hJ ?_
          unfold Kqi6.closing
          rw [← hks, List.filter_map]; rfl
    · rintro σ H1 Q1 Q2 hQ ⟨v, e1, p, xs, i, z, e2, e3, e4, e5, q, ys, e6, e7, v2, e8, i1, j1, e9, e10, kq, e11, e12⟩
      exact ⟨v, e1, p, xs, i, z, e2, e3, e4, e5, q, ys, e6, e7, v2, e8, i1, j1, e9, e10, kq, e11, hQ _ _ e12⟩
end
end Ray
end
section
set_option Elab.async false
set_option linter.all false
set_option maxRecDepth 100000
set_option maxHeartbeats 2000000
namespace Ray
open PySem PySem.Spec PyProof.Rows L2
abbrev sHld : Stmt := topS 20
abbrev sNms : Stmt := topS 21
abbrev sFnm : Stmt := topS 22
/-! ### ways -/
theorem way_0 {w : List Nat} {t : Nat} (h : t / w.length = 0) (hp : 0 < w.length) : Kqi6.way w t = Kqi6.begun w (t % w.length) := by
  unfold Kqi6.way
  have : t < 1 * w.length := Nat.lt_mul_of_div_lt (by omega) hp
  dsimp only
  rw [h, if_neg (show ¬ 0 % 2 = 1 by decide), if_neg (show ¬ 2 * w.length ≤ t by omega)]
theorem way_1 {w : List Nat} {t : Nat} (h : t / w.length = 1) (hp : 0 < w.length) : Kqi6.way w t = Kqi6.opposite (Kqi6.begun w (t % w.length)) := by
  unfold Kqi6.way
  have : t < 2 * w.length := Nat.lt_mul_of_div_lt (by omega) hp
  dsimp only
  rw [h, if_pos rfl, if_neg (by omega)]
theorem way_2 {w : List Nat} {t : Nat} (h : t / w.length = 2) (hp : 0 < w.length) : Kqi6.way w t = (Kqi6.begun w (t % w.length)).reverse := by
  unfold Kqi6.way
  have : 2 * w.length ≤ t := (Nat.le_div_iff_mul_le hp).mp (by omega)
  dsimp only
  rw [h, if_neg (show ¬ 2 % 2 = 1 by decide), if_pos this]
theorem way_3 {w : List Nat} {t : Nat} (h : t / w.length = 3) (hp : 0 < w.length) : Kqi6.way w t = (Kqi6.opposite (Kqi6.begun w (t % w.length))).reverse := by
  unfold Kqi6.way
  have : 3 * w.length ≤ t := (Nat.le_div_iff_mul_le hp).mp (by omega)
  dsimp only
  rw [h, if_pos rfl, if_pos (by omega)]
theorem inV_two (x a b : Int) : inV (V.int x) [V.int a, V.int b] = (a == x || b == x) := by
  unfold inV eqV
  simp only [List.any_cons, List.any_nil, Bool.or_false]
theorem nI_reverse (l : List Nat) : (nI l).reverse = nI l.reverse := by unfold nI; rw [List.map_reverse]
theorem begun_mem {w : List Nat} {i x : Nat} (h : x ∈ Kqi6.begun w i) : x ∈ w := by
  rcases List.mem_append.mp (show x ∈ w.drop i ++ w.take i from h) with z | z
  · exact List.mem_of_mem_drop z
  · exact List.mem_of_mem_take z
section
variable {P : Program} {w : World} {K : PySem.W.Frag} {mg : Str → Option Value} {base : Heap}
/-- [1 - step for step in made] -/
def teOpp : TE := tOp (rI0 fun i j => .int (i - j)) (tC (.int 1)) (tVar 3)
theorem opp_lc {H : Hp} {a : Addr} {b : List Nat} {x0 x1 v : Option V} {Q : VK} (hL : H a = some (.lst (nI b))) (h1 : b.length < big) (h2 : ∀ x ∈ b, x ≤ 1)
    (hd : ∀ (H' : Hp) (p : Addr), Same H H' → H p = none → H' p = some (.lst (nI (Kqi6.opposite b))) → Q (.ref p) H') :
    tLc (iList K (tVar 2)) (gName 3) tYes teOpp [3] [x0, x1, some (.ref a), v] H Q := by
  refine ⟨_, rfl, a, rfl, ⟨_, SqL.of hL⟩, fun D hD => lc_list (K := K) (a := a) (xs := nI b) (fun i H' => Same H H' ∧ H' D = some (.lst (nI (Kqi6.opposite (b.take i))))) ⟨same_put (.refl H) hD, upd_same⟩ (fun i H' _ e => e.1.seq (SqL.of hL)) ?_ ?_⟩
  · rintro i y H' hi ⟨sm, hp⟩
    obtain ⟨x, hx, rfl⟩ := nI_get hi
    have hil : i < b.length := (List.getElem?_eq_some_iff.mp hx).1
    have hx1 := h2 x (List.mem_of_getElem? hx)
    refine ⟨rfl, _, rfl, _, _, rfl, rfl, _, hp, ?_, same_put sm hD, ?_⟩
    · rw [nI_length]
      unfold Kqi6.opposite
      rw [List.length_map, List.length_take]
      exact big_line (by omega)
    · rw [upd_same, take_more hx]
      unfold Kqi6.opposite
      rw [List.map_append, nI_append]
      have e : (1 : Int) - (x : Int) = ((1 - x : Nat) : Int) := by omega
      show some (HO.lst (nI (List.map (fun x => 1 - x) (b.take i)) ++ [V.int ((1 : Int) - (x : Int))])) = _
      rw [e]; rfl
  · rintro H' ⟨sm, hp⟩
    rw [nI_length, List.take_length] at hp
    exact hd H' D sm hD hp
/-! ### held(word, way) -/
def spHld (K : PySem.W.Frag) : Sp := fun vs H Q _ => ∃ (a : Addr) (w : List Nat) (t : Nat), vs = [.ref a, .int (t : Int)] ∧ SqL K H a (nI w) ∧ 0 < w.length ∧ w.length < big ∧ (∀ x ∈ w, x ≤ 1) ∧ t < 4 * w.length ∧
  ∀ (H' : Hp) (p : Addr), Same H H' → H p = none → H' p = some (.lst (nI (Kqi6.way w t))) → Q (.ref p) H'
theorem scHld : FnScope ["word", "way", "made", "step"] ["word", "way"] (defScope sHld) := ⟨rfl, rfl, rfl, by decide +kernel, rfl, by decide +kernel, by decide +kernel⟩
theorem ok_hld {f : Addr} {fd : FuncData} (F : Fun K "held" "held" sHld f fd) (DB : Has P w K mg base "begun_later" 1 ["word", "steps"] (spBgn K)) (mlen : mg "len" = none) (mlist : mg "list" = none) (mrev : mg "reversed" = none) : FnOk P w K mg base CX0 2 f fd ["word", "way"] (spHld K) := by
  obtain ⟨fb, fdb, mb, GB, kb, bb⟩ := DB.ex
  refine F.ok scHld (fun vs H Q E h => ?_) (fun cdv A outer s H vs Q E hr h => ⟨_, pss_cons (ps_set (i := 2) scHld.nd rfl (Or.inl rfl) (pe_call GB hr rfl mb kb bb .nil pass0 (pa_cons (pv 0) (pa_cons (pe_op op_mod (pv 1) (pe_callB call_len_seq (by rfl) mlen PySem.boot_len (pa_cons (pv 0) pa_nil))) pa_nil))))
    (pss_cons (ps_if (pt_cmpR op_in_seq (pe_op op_fdiv (pv 1) (pe_callB call_len_seq (by rfl) mlen PySem.boot_len (pa_cons (pv 0) pa_nil))) (pe_tup (pa_cons pe_int (pa_cons pe_int pa_nil))) (by rfl))
      (pss_one (ps_setLc (i := 2) (own := [("step", 3)]) (g := gName 3) (tt := tYes) (te := teOpp) rfl scHld.nd rfl rfl (sw_true rfl rfl rfl (by decide +kernel)) (pi_list (pv 2)) (blkOk_by (N := ["word", "way", "made", "step"]) (sc := defScope sHld) (by decide +kernel)) (fun _ _ _ _ _ => pg_name (i := 3) scHld.nd rfl (Or.inl rfl)) (fun _ _ _ _ _ => pts_nil)
        (fun _ _ _ _ _ => pe_op op_sub pe_int (pv 3)))) pss_nil)
    (pss_cons (ps_if (pt_cmpR op_in_seq (pe_op op_fdiv (pv 1) (pe_callB call_len_seq (by rfl) mlen PySem.boot_len (pa_cons (pv 0) pa_nil))) (pe_tup (pa_cons pe_int (pa_cons pe_int pa_nil))) (by rfl))
      (pss_one (ps_set (i := 2) scHld.nd rfl (Or.inl rfl) (pe_listRev rfl rfl mlist rfl mrev (pv 2)))) pss_nil)
    (pss_one (ps_ret (pv 2))))), ?_⟩)
  · obtain ⟨a, w, t, rfl, _⟩ := h
    rfl
  · obtain ⟨a, wd, t, rfl, hS, hp0, hwl, hle, ht, k⟩ := h
    have hm : t % wd.length < wd.length := Nat.mod_lt _ hp0
    have em : (t : Int) % (((nI wd).length : Nat) : Int) = ((t % wd.length : Nat) : Int) := by rw [nI_length]; simp
    have ed : (t : Int) / (((nI wd).length : Nat) : Int) = ((t / wd.length : Nat) : Int) := by rw [nI_length]; simp
    have hb1 : wd.length < 100000 := hwl
    have cdiv : CDiv (t : Int) (((nI wd).length : Nat) : Int) := by
      rw [nI_length]
      exact ⟨by omega, by omega⟩
    have hbl : (Kqi6.begun wd (t % wd.length)).length < big := by rw [begun_length hm]; exact hwl
    have hb01 : ∀ x ∈ Kqi6.begun wd (t % wd.length), x ≤ 1 := fun x hx => hle x (begun_mem hx)
    refine ⟨_, rfl, _, rfl, _, rfl, a, _, rfl, .inl hS, _, _, rfl, rfl, (by rw [nI_length]; omega), a, wd, t % wd.length, (by show [V.ref a, V.int ((t : Int) % (((nI wd).length : Nat) : Int))] = _; rw [em]), hS, hwl, Nat.le_of_lt hm, fun H1 p1 s1 n1 h1 => ?_⟩
    refine ⟨_, rfl, _, rfl, a, _, rfl, .inl (s1.seq hS), _, _, rfl, rfl, cdiv, (by show 2 ≤ sizeLine; decide), fun q1 nq1 => ?_⟩
    have s2 := same_new (o := HO.tup [V.int 1, V.int 3]) s1 nq1
    have h2 : (upd H1 q1 (.tup [V.int 1, V.int 3])) p1 = some (.lst (nI (Kqi6.begun wd (t % wd.length)))) := by rw [upd_ne (ne_of_none h1 nq1)]; exact h1
    refine ⟨q1, _, rfl, .inr (SqT.of upd_same), rfl, rfl, _, rfl, ?_⟩
    have hq4 : t / wd.length < 4 := Nat.div_lt_of_lt_mul (by rw [Nat.mul_comm]; exact ht)
    have four : ∀ q : Nat, q < 4 → q = 0 ∨ q = 1 ∨ q = 2 ∨ q = 3 := by omega
    rcases four _ hq4 with hq | hq | hq | hq
    · have e1 : inV (V.int ((t : Int) / (((nI wd).length : Nat) : Int))) [V.int 1, V.int 3] = false := by rw [ed, hq, inV_two]; rfl
      have e2 : inV (V.int ((t : Int) / (((nI wd).length : Nat) : Int))) [V.int 2, V.int 3] = false := by rw [ed, hq, inV_two]; rfl
      rw [way_0 hq hp0] at k
      refine no_of e1 ?_
      refine ⟨_, rfl, _, rfl, a, _, rfl, .inl (s2.seq hS), _, _, rfl, rfl, cdiv, (by show 2 ≤ sizeLine; decide), fun q2 nq2 => ?_⟩
      have s4 := same_new (o := HO.tup [V.int 2, V.int 3]) s2 nq2
      have h4 : (upd (upd H1 q1 (.tup [V.int 1, V.int 3])) q2 (.tup [V.int 2, V.int 3])) p1 = some (.lst (nI (Kqi6.begun wd (t % wd.length)))) := by rw [upd_ne (ne_of_none h2 nq2)]; exact h2
      refine ⟨q2, _, rfl, .inr (SqT.of upd_same), rfl, rfl, _, rfl, ?_⟩
      exact no_of e2 ⟨_, rfl, k _ p1 s4 n1 h4⟩
    · have e1 : inV (V.int ((t : Int) / (((nI wd).length : Nat) : Int))) [V.int 1, V.int 3] = true := by rw [ed, hq, inV_two]; rfl
      have e2 : inV (V.int ((t : Int) / (((nI wd).length : Nat) : Int))) [V.int 2, V.int 3] = false := by rw [ed, hq, inV_two]; rfl
      rw [way_1 hq hp0] at k
      refine yes_of e1 ?_
      delta tAsg
      show tLc (iList K (tVar 2)) (gName 3) tYes teOpp [3] [some (.ref a), some (.int (t : Int)), some (.ref p1), none] (upd H1 q1 (.tup [V.int 1, V.int 3])) _
      refine opp_lc h2 hbl hb01 fun H3 p3 s23 n3 h3 => ?_
      have s3 := s2.trans s23
      have n3H : H p3 = none := s2.free n3
      refine ⟨_, rfl, _, rfl, a, _, rfl, .inl (s3.seq hS), _, _, rfl, rfl, cdiv, (by show 2 ≤ sizeLine; decide), fun q2 nq2 => ?_⟩
      have s4 := same_new (o := HO.tup [V.int 2, V.int 3]) s3 nq2
      have h4 : (upd H3 q2 (.tup [V.int 2, V.int 3])) p3 = some (.lst (nI (Kqi6.opposite (Kqi6.begun wd (t % wd.length))))) := by rw [upd_ne (ne_of_none h3 nq2)]; exact h3
      refine ⟨q2, _, rfl, .inr (SqT.of upd_same), rfl, rfl, _, rfl, ?_⟩
      exact no_of e2 ⟨_, rfl, k _ p3 s4 n3H h4⟩
    · have e1 : inV (V.int ((t : Int) / (((nI wd).length : Nat) : Int))) [V.int 1, V.int 3] = false := by rw [ed, hq, inV_two]; rfl
      have e2 : inV (V.int ((t : Int) / (((nI wd).length : Nat) : Int))) [V.int 2, V.int 3] = true := by rw [ed, hq, inV_two]; rfl
      rw [way_2 hq hp0] at k
      refine no_of e1 ?_
      refine ⟨_, rfl, _, rfl, a, _, rfl, .inl (s2.seq hS), _, _, rfl, rfl, cdiv, (by show 2 ≤ sizeLine; decide), fun q2 nq2 => ?_⟩
      have s4 := same_new (o := HO.tup [V.int 2, V.int 3]) s2 nq2
      have h4 : (upd (upd H1 q1 (.tup [V.int 1, V.int 3])) q2 (.tup [V.int 2, V.int 3])) p1 = some (.lst (nI (Kqi6.begun wd (t % wd.length)))) := by rw [upd_ne (ne_of_none h2 nq2)]; exact h2
      refine ⟨q2, _, rfl, .inr (SqT.of upd_same), rfl, rfl, _, rfl, ?_⟩
      refine yes_of e2 ⟨_, rfl, p1, _, rfl, SqL.of h4, fun r nr => ⟨_, rfl, ?_⟩⟩
      rw [nI_reverse]
      exact k _ r (same_new s4 nr) (s4.free nr) upd_same
    · have e1 : inV (V.int ((t : Int) / (((nI wd).length : Nat) : Int))) [V.int 1, V.int 3] = true := by rw [ed, hq, inV_two]; rfl
      have e2 : inV (V.int ((t : Int) / (((nI wd).length : Nat) : Int))) [V.int 2, V.int 3] = true := by rw [ed, hq, inV_two]; rfl
      rw [way_3 hq hp0] at k
      refine yes_of e1 ?_
      delta tAsg
      show tLc (iList K (tVar 2)) (gName 3) tYes teOpp [3] [some (.ref a), some (.int (t : Int)), some (.ref p1), none] (upd H1 q1 (.tup [V.int 1, V.int 3])) _
      refine opp_lc h2 hbl hb01 fun H3 p3 s23 n3 h3 => ?_
      have s3 := s2.trans s23
      have n3H : H p3 = none := s2.free n3
      refine ⟨_, rfl, _, rfl, a, _, rfl, .inl (s3.seq hS), _, _, rfl, rfl, cdiv, (by show 2 ≤ sizeLine; decide), fun q2 nq2 => ?_⟩
      have s4 := same_new (o := HO.tup [V.int 2, V.int 3]) s3 nq2
      have h4 : (upd H3 q2 (.tup [V.int 2, V.int 3])) p3 = some (.lst (nI (Kqi6.opposite (Kqi6.begun wd (t % wd.length))))) := by rw [upd_ne (ne_of_none h3 nq2)]; exact h3
      refine ⟨q2, _, rfl, .inr (SqT.of upd_same), rfl, rfl, _, rfl, ?_⟩
      refine yes_of e2 ⟨_, rfl, p3, _, rfl, SqL.of h4, fun r nr => ⟨_, rfl, ?_⟩⟩
      rw [nI_reverse]
      exact k _ r (same_new s4 nr) (s4.free nr) upd_same
/-! ### names_of(word) -/
def spNms (K : PySem.W.Frag) : Sp := fun vs H Q _ => ∃ (a : Addr) (w : List Nat), vs = [.ref a] ∧ SqL K H a (nI w) ∧ 0 < w.length ∧ w.length < 1000 ∧ (∀ x ∈ w, x ≤ 1) ∧
  ∀ (H' : Hp) (p : Addr) (ks : List (Addr × List Nat)), Same H H' → H p = none → LLs H' p ks → ks.map (·.2) = Kqi6.ways w → Q (.ref p) H'
theorem scNms : FnScope ["word", "way"] ["word"] (defScope sNms) := ⟨rfl, rfl, rfl, by decide +kernel, rfl, by decide +kernel, by decide +kernel⟩
theorem ok_nms {f : Addr} {fd : FuncData} (F : Fun K "names_of" "names_of" sNms f fd) (DH : Has P w K mg base "held" 2 ["word", "way"] (spHld K)) (mlen : mg "len" = none) (mran : mg "range" = none) : FnOk P w K mg base CX0 3 f fd ["word"] (spNms K) := by
  obtain ⟨fh, fdh, mh, GH, kh, bh⟩ := DH.ex
  refine F.ok scNms (fun vs H Q E h => ?_) (fun cdv A outer s H vs Q E hr h => ⟨_, pss_one (ps_ret
    (pe_lc (own := [("way", 1)]) (g := gName 1) (tt := tYes) (te := tCall (spHld K) [] E0 (tCons (tVar 0) (tCons (tVar 1) tNil))) rfl scNms.nd
      (pi_range1 (by rfl) mran (pa_cons (pe_op op_mul pe_int (pe_callB call_len_seq (by rfl) mlen PySem.boot_len (pa_cons (pv 0) pa_nil))) pa_nil))
      (blkOk_by (N := ["word", "way"]) (sc := defScope sNms) (by decide +kernel)) (fun _ _ _ _ _ => pg_name (i := 1) scNms.nd rfl (Or.inl rfl)) (fun _ _ _ _ _ => pts_nil)
      (fun _ _ _ _ _ => pe_call GH hr (by rfl) mh kh bh .nil pass0 (pa_cons (pv 0) (pa_cons (pv 1) pa_nil))))), ?_⟩)
  · obtain ⟨a, w, rfl, _⟩ := h
    rfl
  · obtain ⟨a, wd, rfl, hS, hp0, hwl, hle, k⟩ := h
    have hbig : wd.length < big := Nat.lt_trans hwl (by decide)
    refine ⟨_, rfl, a, _, rfl, .inl hS, _, _, rfl, rfl, .inl ⟨by decide, by decide⟩, 4 * (((nI wd).length : Nat) : Int), rfl, (by rw [nI_length]; omega), (by rw [nI_length]; omega), fun D hD => ?_⟩
    refine lc_range (lo := 0) (n := (4 * (((nI wd).length : Nat) : Int)).toNat) (fun i H' => Same H H' ∧ ∃ js, LLs H' D js ∧ js.length = i ∧ js.map (·.2) = (List.range i).map (Kqi6.way wd)) ⟨same_put (.refl H) hD, [], ⟨upd_same, fun k hk => (by cases hk)⟩, rfl, rfl⟩ ?_ ?_
    · rintro i H' hi ⟨sm, js, hJ, hjl, hjs⟩
      rw [nI_length] at hi
      refine ⟨rfl, _, rfl, _, rfl, a, wd, i, ?_, sm.seq hS, hp0, hbig, hle, (by omega), fun H2 p s2 np hp => ?_⟩
      · show [V.ref a, V.int (0 + (i : Int))] = [V.ref a, V.int (i : Int)]
        rw [Int.zero_add]
      · have hpD : p ≠ D := fun e => by rw [e, hJ.lst] at np; cases np
        refine ⟨_, s2 _ _ hJ.lst, ?_, same_put (sm.trans s2) hD, js ++ [(p, Kqi6.way wd i)], hJ.push s2 hp hpD, ?_, ?_⟩
        · rw [refs_length, hjl]; exact big_line (by unfold big; omega)
        · rw [List.length_append, hjl]; rfl
        · rw [List.map_append, hjs, List.range_succ, List.map_append]; rfl
    · rintro H' ⟨sm, js, hJ, hjl, hjs⟩
      refine k H' D js sm hD hJ ?_
      have e : (4 * (((nI wd).length : Nat) : Int)).toNat = 4 * wd.length := by rw [nI_length]; omega
      rw [hjs, e]; rfl
/-! ### first_name(word) -/
def spFnm (K : PySem.W.Frag) : Sp := fun vs H Q _ => ∃ (a : Addr) (w : List Nat), vs = [.ref a] ∧ SqL K H a (nI w) ∧ Good w ∧
  ∀ (H' : Hp) (p : Addr), Same H H' → H' p = some (.lst (nI (Kqi6.first w))) → Q (.ref p) H'
theorem scFnm : FnScope ["word"] ["word"] (defScope sFnm) := ⟨rfl, rfl, rfl, by decide +kernel, rfl, by decide +kernel, by decide +kernel⟩
theorem ok_fnm {f : Addr} {fd : FuncData} (F : Fun K "first_name" "first_name" sFnm f fd) (DN : Has P w K mg base "names_of" 3 ["word"] (spNms K)) (mmin : mg "min" = none) : FnOk P w K mg base CX0 4 f fd ["word"] (spFnm K) := by
  obtain ⟨fh, fdh, mh, GH, kh, bh⟩ := DN.ex
  refine F.ok scFnm (fun vs H Q E h => ?_) (fun cdv A outer s H vs Q E hr h => ⟨_, pss_one (ps_ret (pe_callB (cr_minW rfl hr.units) (by rfl) mmin (by decide +kernel) (pa_cons (pe_call GH hr rfl mh kh bh .nil pass0 (pa_cons (pv 0) pa_nil)) pa_nil))), ?_⟩)
  · obtain ⟨a, w, rfl, _⟩ := h
    rfl
  · obtain ⟨a, wd, rfl, hS, gd, k⟩ := h
    have hw := (right_iff wd).mp gd.1
    refine ⟨_, rfl, a, wd, rfl, hS, hw.1, (by omega), hw.2.2, fun H1 p ks s1 np hL hks => ?_⟩
    cases ks with
    | nil =>
      have e := congrArg List.length hks
      rw [ways_length] at e
      have e' : 0 = 4 * wd.length := e
      omega
    | cons k0 ks =>
      refine ⟨p, k0, ks, rfl, SqL.of hL.lst, fun j hj => SqL.of (hL.el j hj).1, fun j hj e => ?_⟩
      have e2 : Kqi6.first wd = j.2 := by rw [first_least gd, ← hks, e]; rfl
      refine k H1 j.1 s1 ?_
      rw [e2]; exact (hL.el j hj).1
end
end Ray
end
section
set_option Elab.async false
set_option linter.all false
set_option maxRecDepth 100000
set_option maxHeartbeats 2000000
namespace Ray
open PySem PySem.Spec PyProof.Rows L2
abbrev sDif : Stmt := topS 35
abbrev sAlk : Stmt := topS 39
abbrev sFst : Stmt := topS 40
abbrev sSte : Stmt := topS 42
theorem room65 {k : Nat} {A : Around} (r : Room k A) : A.units + 65 < cLine := by have := r.un; omega
section
variable {P : Program} {w : World} {K : PySem.W.Frag} {mg : Str → Option Value} {base : Heap} {C : Addr}
/-! ### state(stacking, numbers) -/
def gSte (wd ns : List Nat) : List Nat × List Int := (wd, (wd.length : Int) :: wd.map fun (x : Nat) => (x : Int))
theorem scSte : FnScope ["stacking", "numbers"] ["stacking", "numbers"] (defScope sSte) := ⟨rfl, rfl, rfl, by decide +kernel, rfl, by decide +kernel, by decide +kernel⟩
theorem ok_ste {f : Addr} {fd : FuncData} (F : Fun K "state" "state" sSte f fd) (T : Txt K mg C) (D : Has P w K mg base "with_length" 1 ["row"] (spWit K)) :
    FnOk P w K mg base CX0 2 f fd ["stacking", "numbers"] (spC K C (fun wd ns => Good wd) gSte) := by
  obtain ⟨fr, fdr, mr, G, kr, br⟩ := D.ex
  refine F.ok scSte (fun vs H Q E h => spC_len h) (fun cdv A outer s H vs Q E hr h => ⟨_, pss_one (ps_ret (pe_call G hr rfl mr kr br .nil pass0 (pa_cons (pe_fld (pv 0) rfl) pa_nil))), ?_⟩)
  obtain ⟨a, b, wd, ns, rfl, hA, hS, hwl, hnl, gd, k⟩ := h
  have hA0 := hA
  obtain ⟨dx, l0, ha, hl0⟩ := hA
  refine ⟨_, rfl, a, C, dx, _, _, rfl, ha, T.cl, T.nW, lk_word, l0, _, rfl, hl0, ?_, fun H2 q s2 nq hq => ?_⟩
  · rw [nI_length]; exact lt_huge hwl
  · refine k H2 q (hA0.frm s2) (hA0.same s2) ?_
    rw [hq, nI_length, nI_int]; rfl
/-! ### first(stacking, numbers) -/
def gFst (wd ns : List Nat) : List Nat × List Int := (wd, ((Kqi6.first wd).length : Int) :: (Kqi6.first wd).map fun (x : Nat) => (x : Int))
theorem scFst : FnScope ["stacking", "numbers"] ["stacking", "numbers"] (defScope sFst) := ⟨rfl, rfl, rfl, by decide +kernel, rfl, by decide +kernel, by decide +kernel⟩
theorem first_short {w : List Nat} (g : Good w) : (Kqi6.first w).length ≤ 8 := by
  have hn := ((right_iff w).mp g.1).2.1
  have h := kind_mem hn (good_closing g)
  have := (closing_mem (List.mem_filter.mp h).1).1
  omega
theorem ok_fst {f : Addr} {fd : FuncData} (F : Fun K "first" "first" sFst f fd) (T : Txt K mg C) (D : Has P w K mg base "with_length" 1 ["row"] (spWit K)) (D2 : Has P w K mg base "first_name" 4 ["word"] (spFnm K)) :
    FnOk P w K mg base CX0 5 f fd ["stacking", "numbers"] (spC K C (fun wd ns => Good wd) gFst) := by
  obtain ⟨fr, fdr, mr, G, kr, br⟩ := D.ex
  obtain ⟨ft, fdt, mt, GT, kt, bt⟩ := D2.ex
  refine F.ok scFst (fun vs H Q E h => spC_len h) (fun cdv A outer s H vs Q E hr h => ⟨_, pss_one (ps_ret (pe_call G (hr.mono (by decide)) rfl mr kr br .nil pass0 (pa_cons (pe_call GT hr rfl mt kt bt .nil pass0 (pa_cons (pe_fld (pv 0) rfl) pa_nil)) pa_nil))), ?_⟩)
  obtain ⟨a, b, wd, ns, rfl, hA, hS, hwl, hnl, gd, k⟩ := h
  have hA0 := hA
  obtain ⟨dx, l0, ha, hl0⟩ := hA
  refine ⟨_, rfl, a, C, dx, _, _, rfl, ha, T.cl, T.nW, lk_word, l0, wd, rfl, SqL.of hl0, gd, fun H' p sm hp => ?_⟩
  refine ⟨p, _, rfl, hp, ?_, fun H2 q s2 nq hq => ?_⟩
  · rw [nI_length]
    exact Nat.lt_of_le_of_lt (first_short gd) (by decide)
  · refine k H2 q (hA0.frm (sm.trans s2)) (hA0.same (sm.trans s2)) ?_
    rw [hq, nI_length, nI_int]; rfl
/-! ### alike(stacking, numbers) -/
def gAlk (wd ns : List Nat) : List Nat × List Int := (wd, [if Kqi6.right ns = true then (if (Kqi6.ways wd).contains ns = true then 1 else 0) else -22])
theorem scAlk : FnScope ["stacking", "numbers"] ["stacking", "numbers"] (defScope sAlk) := ⟨rfl, rfl, rfl, by decide +kernel, rfl, by decide +kernel, by decide +kernel⟩
theorem canLay_lists : ∀ ws : List (List Nat), PyData.canLayAll0 (ws.map fun w => PyData.list (dI w)) = true
  | [] => rfl
  | w :: ws => by
    show (PyData.canLayAll0 (dI w) && PyData.canLayAll0 (ws.map fun w => PyData.list (dI w))) = true
    rw [canLay_dI, canLay_lists ws]; rfl
theorem shaped_lists (ks : List (Addr × List Nat)) : SeqAt.shaped (.list (ks.map fun k => PyData.list (dI k.2))) = true := by
  unfold SeqAt.shaped
  have h1 : PyData.canLay0 (.list (ks.map fun k => PyData.list (dI k.2))) = true := by
    have e : (ks.map fun k => PyData.list (dI k.2)) = (ks.map (·.2)).map fun w => PyData.list (dI w) := by rw [List.map_map]; rfl
    show PyData.canLayAll0 (ks.map fun k => PyData.list (dI k.2)) = true
    rw [e]; exact canLay_lists _
  have h2 : PyData.depth (.list (ks.map fun k => PyData.list (dI k.2))) ≤ 64 := by
    have := depth_lists ks
    show PyData.depthAll (ks.map fun k => PyData.list (dI k.2)) + 1 ≤ 64
    omega
  rw [h1, decide_eq_true h2]; rfl
theorem any_lists (ks : List (Addr × List Nat)) (l : List Nat) : ((ks.map fun k => PyData.list (dI k.2)).any fun z => PyData.eqv z (.list (dI l))) = (ks.map (·.2)).contains l := by
  induction ks with
  | nil => rfl
  | cons k ks ih =>
    rw [List.map_cons, List.any_cons, ih, List.map_cons, List.contains_cons, eqv_dI, Bool.beq_comm]
theorem ok_alk {f : Addr} {fd : FuncData} (F : Fun K "alike" "alike" sAlk f fd) (T : Txt K mg C) (D : Has P w K mg base "is_word" 2 ["numbers"] (spIsw K)) (D2 : Has P w K mg base "names_of" 3 ["word"] (spNms K)) {t1 : Tok} (mW : mg "WRONG_NUMBERS" = some (.int (-22) t1)) :
    FnOk P w K mg base CX0 4 f fd ["stacking", "numbers"] (spC K C (fun wd ns => Good wd) gAlk) := by
  obtain ⟨fr, fdr, mr, G, kr, br⟩ := D.ex
  obtain ⟨ft, fdt, mt, GT, kt, bt⟩ := D2.ex
  refine F.ok scAlk (fun vs H Q E h => spC_len h) (fun cdv A outer s H vs Q E hr h => ⟨_, pss_cons (ps_if (pt_not (pt_val (pe_call G (hr.mono (by decide)) rfl mr kr br .nil pass0 (pa_cons (pv 1) pa_nil)))) (pss_one (ps_ret (pe_lst (pa_cons (pe_glob (v := .int (-22)) rfl mW ⟨_, rfl⟩) pa_nil)))) pss_nil)
    (pss_one (ps_ret (pe_lst (pa_cons (pe_ifExp (pt_cmpR (op_inD (room65 hr)) (pv 1) (pe_call GT hr rfl mt kt bt .nil pass0 (pa_cons (pe_fld (pv 0) rfl) pa_nil)) (by rfl)) pe_int pe_int) pa_nil)))), ?_⟩)
  obtain ⟨a, b, wd, ns, rfl, hA, hS, hwl, hnl, gd, k⟩ := h
  have hA0 := hA
  obtain ⟨dx, l0, ha, hl0⟩ := hA
  have hw := (right_iff wd).mp gd.1
  unfold gAlk at k
  refine ⟨_, rfl, b, ns, rfl, hS, hnl, fun H1 s1 => ⟨_, rfl, ?_⟩⟩
  cases h1 : Kqi6.right ns with
  | false =>
    rw [h1] at k
    refine ⟨(by show 1 ≤ sizeLine; decide), fun p np => ?_⟩
    exact k _ p (hA0.frm (same_new s1 np)) (hA0.same (same_new s1 np)) upd_same
  | true =>
    rw [h1] at k
    refine ⟨_, rfl, _, rfl, a, C, dx, _, _, rfl, s1 _ _ ha, T.cl, T.nW, lk_word, l0, wd, rfl, SqL.of (s1 _ _ hl0), hw.1, (by omega), hw.2.2, fun H2 p ks s2 np hL hks => ?_⟩
    have s12 := s1.trans s2
    refine ⟨_, _, .lst (s12.seq hS) (dpAll _), .lst (SqL.of hL.lst) (dp_lists ks fun j hj => SqL.of (hL.el j hj).1), shaped_dI _, shaped_lists ks, _, rfl, ?_⟩
    rw [any_lists, hks]
    cases h2 : (Kqi6.ways wd).contains ns with
    | true =>
      rw [h2] at k
      refine ⟨(by show 1 ≤ sizeLine; decide), fun u nu => ?_⟩
      exact k _ u (hA0.frm (same_new s12 nu)) (hA0.same (same_new s12 nu)) upd_same
    | false =>
      rw [h2] at k
      refine ⟨(by show 1 ≤ sizeLine; decide), fun u nu => ?_⟩
      exact k _ u (hA0.frm (same_new s12 nu)) (hA0.same (same_new s12 nu)) upd_same
end
end Ray
end
section
set_option Elab.async false
set_option linter.all false
set_option maxRecDepth 100000
set_option maxHeartbeats 2000000
namespace Ray
open PySem PySem.Spec PyProof.Rows L2
section
variable {P : Program} {w : World} {K : PySem.W.Frag} {mg : Str → Option Value} {base : Heap} {C : Addr}
/-! ### differ(stacking, numbers) -/
def firstDif (wd ns : List Nat) : Option Nat := (List.range wd.length).find? fun d => Kqi6.at_ (Kqi6.table ns) d != Kqi6.at_ (Kqi6.table wd) d
def gDif (wd ns : List Nat) : List Nat × List Int := (wd, [if refb wd ns = 0 then (match firstDif wd ns with | none => -6 | some d => (d : Int) + 1) else refb wd ns])
theorem scDif : FnScope ["stacking", "numbers", "refused", "own_table", "apart", "alike_pairs"] ["stacking", "numbers"] (defScope sDif) := ⟨rfl, rfl, rfl, by decide +kernel, rfl, by decide +kernel, by decide +kernel⟩
theorem ok_dif {f : Addr} {fd : FuncData} (F : Fun K "differ" "differ" sDif f fd) (T : Txt K mg C) (menum : mg "enumerate" = none) (D : Has P w K mg base "refusal_beside" 4 ["word", "numbers"] (spRfb K)) (D2 : Has P w K mg base "table_of" 3 ["word"] (spTab K)) {t1 : Tok} (mS : mg "SAME_TABLE" = some (.int (-6) t1)) :
    FnOk P w K mg base CX0 5 f fd ["stacking", "numbers"] (spC K C (fun wd ns => Good wd) gDif) := by
  obtain ⟨fr, fdr, mr, G, kr, br⟩ := D.ex
  obtain ⟨ft, fdt, mt, GT, kt, bt⟩ := D2.ex
  refine F.ok scDif (fun vs H Q E h => spC_len h) (fun cdv A outer s H vs Q E hr h => ⟨_, pss_cons (ps_set (i := 2) scDif.nd rfl (Or.inl rfl) (pe_call G hr rfl mr kr br .nil pass0 (pa_cons (pe_fld (pv 0) rfl) (pa_cons (pv 1) pa_nil))))
    (pss_cons (ps_if (pt_cmpR op_ne (pv 2) pe_int (nomark _)) (pss_one (ps_ret (pe_lst (pa_cons (pv 2) pa_nil)))) pss_nil)
    (pss_cons (ps_set (i := 3) scDif.nd rfl (Or.inl rfl) (pe_call GT (hr.mono (by decide)) rfl mt kt bt .nil pass0 (pa_cons (pe_fld (pv 0) rfl) pa_nil)))
    (pss_cons (ps_for PassesOwn.never rfl (pi_enumK (by rfl) menum (pa_cons (pe_call GT (hr.mono (by decide)) rfl mt kt bt .nil pass0 (pa_cons (pv 1) pa_nil)) pa_nil) (pk_cons pe_int pk_nil))
        (pg_tup rfl (pgs_cons (pg_name (i := 4) scDif.nd rfl (.inl rfl)) (pgs_cons (pg_name (i := 5) scDif.nd rfl (.inl rfl)) pgs_nil)))
      (pss_one (ps_if (pt_cmpR op_ne (pv 5) (pe_ix ix_list (pv 3) (pe_op op_sub (pv 4) pe_int) (fun _ _ => rfl)) (nomark _)) (pss_one (ps_ret (pe_lst (pa_cons (pv 4) pa_nil)))) pss_nil)))
    (pss_one (ps_ret (pe_lst (pa_cons (pe_glob (v := .int (-6)) rfl mS ⟨_, rfl⟩) pa_nil))))))), ?_⟩)
  obtain ⟨a, b, wd, ns, rfl, hA, hS, hwl, hnl, gd, k⟩ := h
  have hA0 := hA
  obtain ⟨dx, l0, ha, hl0⟩ := hA
  refine ⟨_, rfl, a, C, dx, _, _, rfl, ha, T.cl, T.nW, lk_word, _, rfl, l0, b, wd, ns, rfl, SqL.of hl0, hS, hnl, fun H1 s1 => ?_⟩
  refine ⟨_, rfl, rfl, _, rfl, ?_⟩
  unfold gDif at k
  by_cases h0 : refb wd ns = 0
  · refine no_of (by rw [int_eq h0]; rfl) ?_
    rw [if_pos h0] at k
    obtain ⟨hcl, hle⟩ := refb_zero h0
    refine ⟨_, rfl, a, C, dx, _, _, rfl, s1 _ _ ha, T.cl, T.nW, lk_word, l0, wd, rfl, SqL.of (s1 _ _ hl0), hwl, gd.2, fun H2 p s2 np hp => ?_⟩
    have s12 := s1.trans s2
    refine ⟨_, rfl, b, ns, rfl, s12.seq hS, hnl, hcl, fun H3 q s3 nq hq => ?_⟩
    have s13 := s12.trans s3
    have hp3 := s3 _ _ hp
    refine ⟨q, _, 1, rfl, rfl, (by decide), (by decide), SqL.of hq, for_k (K := K) (k := 1) (a := q) (xs := nI (Kqi6.table ns)) (fun i σ H' => ∃ v4 v5 : Option V, σ = [some (.ref a), some (.ref b), some (.int (refb wd ns)), some (.ref p), v4, v5] ∧ Same H3 H' ∧ ∀ j, j < i → Kqi6.at_ (Kqi6.table ns) j = Kqi6.at_ (Kqi6.table wd) j)
      ⟨none, none, rfl, .refl H3, fun j hj => absurd hj (Nat.not_lt_zero j)⟩ (fun i σ H' _ ⟨_, _, _, e, _⟩ => SqL.of (e _ _ hq)) ?_ ?_⟩
    · rintro i y Tu σ H' hi ⟨v4, v5, rfl, sm, hb⟩ nT
      obtain ⟨x, hx, rfl⟩ := nI_get hi
      have hil : i < ns.length := by rw [← table_length ns]; exact (List.getElem?_eq_some_iff.mp hx).1
      have hilw : i < wd.length := by rw [← hle]; exact hil
      have ex : x = Kqi6.at_ (Kqi6.table ns) i := by
        unfold Kqi6.at_
        rw [List.getD_eq_getElem?_getD, hx]; rfl
      have sT := same_new (o := HO.tup [V.int (1 + (i : Nat)), V.int (x : Int)]) sm nT
      have e4 : (1 + (i : Int)) - 1 = (i : Int) := by omega
      have hit : (Kqi6.table wd)[i]? = some (Kqi6.at_ (Kqi6.table wd) i) := at_some (by rw [table_length]; exact hilw)
      refine ⟨Tu, _, rfl, SqT.of upd_same, rfl, _, _, rfl, _, _, rfl, rfl, ?_⟩
      refine ⟨_, rfl, _, rfl, _, rfl, _, _, rfl, rfl, p, _, _, V.int ((Kqi6.at_ (Kqi6.table wd) i : Nat) : Int), rfl, rfl, SqL.of (sT _ _ hp3), at_of e4 (nI_at hit), rfl, _, rfl, ?_⟩
      by_cases hd : x = Kqi6.at_ (Kqi6.table wd) i
      · refine no_of (by rw [int_eq (by omega)]; rfl) ⟨_, _, rfl, sT, fun j hj => ?_⟩
        by_cases hji : j = i
        · rw [hji, ← ex]; exact hd
        · exact hb j (by omega)
      · refine yes_of (by rw [int_ne (by omega)]; rfl) ⟨_, rfl, (by show 1 ≤ sizeLine; decide), fun u nu => ?_⟩
        have sU := s13.trans (same_new (o := HO.lst [V.int (1 + (i : Nat))]) sT nu)
        have ef : firstDif wd ns = some i := by
          refine find_range hilw ?_ fun j hj => ?_
          · rw [← ex]; exact bne_iff_ne.mpr hd
          · rw [hb j hj]; exact bne_self_eq_false _
        rw [ef] at k
        refine k _ u (hA0.frm sU) (hA0.same sU) ?_
        rw [upd_same]
        show some (HO.lst [V.int (1 + (i : Int))]) = some (HO.lst [V.int ((i : Int) + 1)])
        rw [Int.add_comm]
    · rintro σ H' ⟨v4, v5, rfl, sm, hb⟩
      rw [nI_length, table_length, hle] at hb
      have ef : firstDif wd ns = none := by
        unfold firstDif
        rw [List.find?_eq_none]
        intro j hj
        rw [hb j (List.mem_range.mp hj), bne_self_eq_false]
        exact Bool.false_ne_true
      rw [ef] at k
      refine ⟨(by show 1 ≤ sizeLine; decide), fun u nu => ?_⟩
      have sU := s13.trans (same_new (o := HO.lst [V.int (-6)]) sm nu)
      exact k _ u (hA0.frm sU) (hA0.same sU) upd_same
  · refine yes_of (by rw [int_ne h0]; rfl) ?_
    rw [if_neg h0] at k
    refine ⟨_, rfl, (by show 1 ≤ sizeLine; decide), fun p np => ?_⟩
    exact k _ p (hA0.frm (same_new s1 np)) (hA0.same (same_new s1 np)) upd_same
end
end Ray
end
section
set_option Elab.async false
set_option linter.all false
set_option maxRecDepth 100000
set_option maxHeartbeats 2000000
namespace Ray
open PySem PySem.Spec PyProof.Rows L2
abbrev sFnd : Stmt := topS 36
abbrev sWth : Stmt := topS 41
theorem find_at {α : Type} {p : α → Bool} : ∀ {l : List α} {i : Nat} {x : α}, l[i]? = some x → p x = true → (∀ y ∈ l.take i, p y = false) → l.find? p = some x
  | [], i, x, h, _, _ => by simp at h
  | a :: l, 0, x, h, hp, _ => by
    obtain rfl : a = x := Option.some.inj h
    rw [List.find?_cons, hp]
  | a :: l, i + 1, x, h, hp, hb => by
    have ha : p a = false := hb a (by simp)
    rw [List.find?_cons, ha]
    exact find_at (l := l) (i := i) h hp fun y hy => hb y (by simp [hy])
section
variable {P : Program} {w : World} {K : PySem.W.Frag} {mg : Str → Option Value} {base : Heap} {C : Addr}
/-! ### find(stacking, numbers) -/
def gFnd (wd ns : List Nat) : List Nat × List Int := (wd, if isl ns.length = true then (match Kqi6.found ns with | none => [-33] | some v => (v.length : Int) :: v.map fun (x : Nat) => (x : Int)) else [-22])
theorem scFnd : FnScope ["stacking", "numbers", "word"] ["stacking", "numbers"] (defScope sFnd) := ⟨rfl, rfl, rfl, by decide +kernel, rfl, by decide +kernel, by decide +kernel⟩
theorem ok_fnd {f : Addr} {fd : FuncData} (F : Fun K "find" "find" sFnd f fd) (T : Txt K mg C) (DI : Has P w K mg base "is_length" 1 ["number"] spIsl) (DC : Has P w K mg base "closing_words" 3 ["steps"] spCwd) (DT : Has P w K mg base "table_of" 3 ["word"] (spTab K)) (DW : Has P w K mg base "with_length" 1 ["row"] (spWit K))
    {t1 t2 : Tok} (mW : mg "WRONG_NUMBERS" = some (.int (-22) t1)) (mN : mg "NO_CLOSING_WORD" = some (.int (-33) t2)) : FnOk P w K mg base CX0 4 f fd ["stacking", "numbers"] (spC K C (fun wd ns => Good wd) gFnd) := by
  obtain ⟨fi, fdi, mi, GI, ki, bi⟩ := DI.ex
  obtain ⟨fc, fdc, mc, GC, kc, bc⟩ := DC.ex
  obtain ⟨ft, fdt, mt, GT, kt, bt⟩ := DT.ex
  obtain ⟨fw, fdw, mw, GW, kw, bw⟩ := DW.ex
  refine F.ok scFnd (fun vs H Q E h => spC_len h) (fun cdv A outer s H vs Q E hr h => ⟨_, pss_cons (ps_if (pt_not (pt_val (pe_call GI (hr.mono (by decide)) rfl mi ki bi .nil pass0 (pa_cons (pe_callB call_len_seq (by rfl) T.len PySem.boot_len (pa_cons (pv 1) pa_nil)) pa_nil)))) (pss_one (ps_ret (pe_lst (pa_cons (pe_glob (v := .int (-22)) rfl mW ⟨_, rfl⟩) pa_nil)))) pss_nil)
    (pss_cons (ps_for PassesOwn.never rfl (pi_list (pe_call GC hr rfl mc kc bc .nil pass0 (pa_cons (pe_callB call_len_seq (by rfl) T.len PySem.boot_len (pa_cons (pv 1) pa_nil)) pa_nil))) (pg_name (i := 2) scFnd.nd rfl (Or.inl rfl))
      (pss_one (ps_if (pt_cmpR (op_eqD hr.units) (pe_call GT hr rfl mt kt bt .nil pass0 (pa_cons (pv 2) pa_nil)) (pv 1) (nomark _)) (pss_one (ps_ret (pe_call GW (hr.mono (by decide)) rfl mw kw bw .nil pass0 (pa_cons (pv 2) pa_nil)))) pss_nil)))
    (pss_one (ps_ret (pe_lst (pa_cons (pe_glob (v := .int (-33)) rfl mN ⟨_, rfl⟩) pa_nil))))), ?_⟩)
  obtain ⟨a, b, wd, ns, rfl, hA, hS, hwl, hnl, gd, k⟩ := h
  have hA0 := hA
  unfold gFnd at k
  refine ⟨_, rfl, b, _, rfl, .inl hS, ns.length, by rw [nI_length]; rfl, _, rfl, ?_⟩
  cases h1 : isl ns.length with
  | false =>
    rw [h1] at k
    refine ⟨(by show 1 ≤ sizeLine; decide), fun p np => ?_⟩
    exact k _ p (hA0.frm (same_new (.refl H) np)) (hA0.same (same_new (.refl H) np)) upd_same
  | true =>
    rw [h1, if_pos rfl] at k
    have hn : 1 ≤ ns.length ∧ ns.length ≤ 8 := by
      unfold isl at h1
      rw [Bool.and_eq_true] at h1
      exact ⟨of_decide_eq_true h1.1, of_decide_eq_true h1.2⟩
    refine ⟨_, rfl, b, _, rfl, .inl hS, ns.length, by rw [nI_length]; rfl, hn.2, fun H1 p ks s1 np hL hks => ?_⟩
    have hmem : ∀ j ∈ ks, j.2 ∈ Kqi6.closing ns.length := fun j hj => by rw [← hks]; exact List.mem_map.mpr ⟨j, hj, rfl⟩
    refine ⟨p, rfl, ⟨_, SqL.of hL.lst⟩, for_list (K := K) (a := p) (xs := ks.map fun k => V.ref k.1) (fun i σ H' => ∃ v : Option V, σ = [some (.ref a), some (.ref b), v] ∧ Same H1 H' ∧ ∀ j ∈ ks.take i, (Kqi6.table j.2 == ns) = false)
      ⟨none, rfl, .refl H1, fun j hj => by simp at hj⟩ (fun i σ H' _ ⟨_, _, e, _⟩ => SqL.of (e _ _ hL.lst)) ?_ ?_⟩
    · rintro i y σ H' hi ⟨v, rfl, sm, hb⟩
      obtain ⟨j, hj, rfl⟩ := refs_get hi
      have hjm := List.mem_of_getElem? hj
      obtain ⟨q1, q2, q3⟩ := closing_mem (hmem j hjm)
      have hj1 := sm _ _ (hL.el j hjm).1
      refine ⟨_, rfl, j.1, j.2, rfl, SqL.of hj1, ?_, q3, fun H2 q s2 nq hq => ?_⟩
      · have : (9 : Nat) < big := by decide
        omega
      have s12 := sm.trans s2
      refine ⟨_, rfl, _, _, .lst (SqL.of hq) (dpAll _), .lst ((s1.trans s12).seq hS) (dpAll _), shaped_dI _, shaped_dI _, _, rfl, ?_⟩
      rw [eqv_dI]
      cases he : (Kqi6.table j.2 == ns) with
      | false =>
        refine no_of rfl ⟨_, rfl, s12, fun l hl => ?_⟩
        rw [take_more hj] at hl
        rcases List.mem_append.mp hl with z | z
        · exact hb l z
        · rw [List.mem_singleton.mp z]; exact he
      | true =>
        have ef : Kqi6.found ns = some j.2 := by
          unfold Kqi6.found
          refine find_at (i := i) ?_ he fun u hu => ?_
          · rw [← hks, List.getElem?_map, hj]; rfl
          · rw [← hks, ← List.map_take] at hu
            obtain ⟨l, hl, rfl⟩ := List.mem_map.mp hu
            exact hb l hl
        rw [ef] at k
        refine yes_of rfl ⟨_, rfl, j.1, _, rfl, s2 _ _ hj1, ?_, fun H5 u s5 nu hu => ?_⟩
        · rw [nI_length, q1]
          exact Nat.lt_of_le_of_lt hn.2 (by decide)
        · have sU := s1.trans (s12.trans s5)
          refine k H5 u (hA0.frm sU) (hA0.same sU) ?_
          rw [hu, nI_length, nI_int]; rfl
    · rintro σ H' ⟨v, rfl, sm, hb⟩
      rw [refs_length, List.take_length] at hb
      have ef : Kqi6.found ns = none := by
        unfold Kqi6.found
        rw [List.find?_eq_none]
        intro u hu
        rw [← hks] at hu
        obtain ⟨l, hl, rfl⟩ := List.mem_map.mp hu
        rw [hb l hl]
        exact Bool.false_ne_true
      rw [ef] at k
      refine ⟨(by show 1 ≤ sizeLine; decide), fun u nu => ?_⟩
      have sU := s1.trans (same_new (o := HO.lst [V.int (-33)]) sm nu)
      exact k _ u (hA0.frm sU) (hA0.same sU) upd_same
/-! ### with_pairs(stacking, numbers) -/
def gWth (wd ns : List Nat) : List Nat × List Int := match ns with
  | [d, c] => (wd, [(((Kqi6.closing wd.length).filter fun v => Kqi6.apart v d 0 == c).length : Int)])
  | _ => (wd, [])
theorem scWth : FnScope ["stacking", "numbers", "counts", "word"] ["stacking", "numbers"] (defScope sWth) := ⟨rfl, rfl, rfl, by decide +kernel, rfl, by decide +kernel, by decide +kernel⟩
theorem count_is (g : List Nat → Nat) (c : Nat) : ∀ l : List (List Nat), (l.map fun v => ((g v : Nat) : Int)).count (c : Int) = (l.filter fun v => g v == c).length
  | [] => rfl
  | v :: l => by
    rw [List.map_cons, List.count_cons, count_is g c l, List.filter_cons]
    by_cases h : g v = c
    · rw [h]; simp
    · have e1 : (((g v : Nat) : Int) == (c : Int)) = false := beq_false_of_ne (by omega)
      have e2 : (g v == c) = false := beq_false_of_ne h
      rw [e1, e2]; simp
theorem ok_wth {f : Addr} {fd : FuncData} (F : Fun K "with_pairs" "with_pairs" sWth f fd) (T : Txt K mg C) (DC : Has P w K mg base "closing_words" 3 ["steps"] spCwd) (DP : Has P w K mg base "pairs_apart" 2 ["word", "apart"] (spPai K)) :
    FnOk P w K mg base CX0 4 f fd ["stacking", "numbers"] (spC K C (fun wd ns => Good wd ∧ ∃ d c, ns = [d, c]) gWth) := by
  obtain ⟨fc, fdc, mc, GC, kc, bc⟩ := DC.ex
  obtain ⟨fp, fdp, mp, GP, kp, bp⟩ := DP.ex
  refine F.ok scWth (fun vs H Q E h => spC_len h) (fun cdv A outer s H vs Q E hr h => ⟨_, pss_cons
      (ps_setLc (i := 2) (own := [("word", 3)]) (g := gName 3) (tt := tYes) (te := tOp (rIxL K) (tCall (spPai K) [] E0 (tCons (tVar 3) (tCons (tOp (rIxL K) (tVar 1) (tC (.int 0))) tNil))) (tC (.int 0))) rfl scWth.nd rfl rfl (sw_true rfl rfl rfl (by decide +kernel))
        (pi_list (pe_call GC hr (by rfl) mc kc bc .nil pass0 (pa_cons (pe_callB call_len_seq (by rfl) T.len PySem.boot_len (pa_cons (pe_fld (pv 0) rfl) pa_nil)) pa_nil))) (blkOk_by (N := ["stacking", "numbers", "counts", "word"]) (sc := defScope sWth) (by decide +kernel)) (fun _ _ _ _ _ => pg_name (i := 3) scWth.nd rfl (Or.inl rfl)) (fun _ _ _ _ _ => pts_nil)
        (fun _ _ _ _ _ => pe_ix ix_list (pe_call GP (hr.mono (by decide)) (by rfl) mp kp bp .nil pass0 (pa_cons (pv 3) (pa_cons (pe_ix ix_list (pv 1) pe_int (fun _ _ => rfl)) pa_nil))) pe_int (fun _ _ => rfl)))
    (pss_one (ps_ret (pe_lst (pa_cons (pe_bm PySem.F.plainAttrs_list PySem.F.slot_list_count PySem.F.type_list_count mt_lcount (pv 2) (pa_cons (pe_ix ix_list (pv 1) pe_int (fun _ _ => rfl)) pa_nil)) pa_nil)))), ?_⟩)
  obtain ⟨a, b, wd, ns, rfl, hA, hS, hwl, hnl, ⟨gd, d, c, rfl⟩, k⟩ := h
  have hA0 := hA
  obtain ⟨dx, l0, ha, hl0⟩ := hA
  have hw := (right_iff wd).mp gd.1
  refine ⟨_, rfl, a, C, dx, _, _, rfl, ha, T.cl, T.nW, lk_word, l0, _, rfl, .inl (SqL.of hl0), wd.length, by rw [nI_length]; rfl, hw.2.1, fun H1 p ks s1 np hL hks => ?_⟩
  have hmem : ∀ j ∈ ks, j.2 ∈ Kqi6.closing wd.length := fun j hj => by rw [← hks]; exact List.mem_map.mpr ⟨j, hj, rfl⟩
  have hkl : ks.length ≤ 256 := by
    have e1 : ks.length = (Kqi6.closing wd.length).length := by rw [← hks, List.length_map]
    have e2 : (Kqi6.closing wd.length).length ≤ (Kqi6.words wd.length).length := List.length_filter_le ..
    have e3 : 2 ^ wd.length ≤ 256 := Nat.pow_le_pow_right (n := 2) (by decide) hw.2.1
    rw [words_length] at e2
    omega
  refine ⟨p, rfl, ⟨_, SqL.of hL.lst⟩, fun D hD => lc_list (K := K) (a := p) (xs := ks.map fun k => V.ref k.1) (fun i H' => Same H1 H' ∧ H' D = some (.lst (((ks.take i).map fun j => ((Kqi6.apart j.2 d 0 : Nat) : Int)).map V.int))) ⟨same_put (.refl H1) hD, upd_same⟩ (fun i H' _ e => SqL.of (e.1 _ _ hL.lst)) ?_ ?_⟩
  · rintro i y H' hi ⟨sm, hp⟩
    obtain ⟨j, hj, rfl⟩ := refs_get hi
    have hjm := List.mem_of_getElem? hj
    have hil : i < ks.length := (List.getElem?_eq_some_iff.mp hj).1
    obtain ⟨q1, q2, q3⟩ := closing_mem (hmem j hjm)
    have hj1 := sm _ _ (hL.el j hjm).1
    refine ⟨rfl, _, rfl, _, rfl, b, _, _, V.int (d : Int), rfl, rfl, (s1.trans sm).seq hS, at_of (j := 0) rfl rfl, j.1, j.2, d, rfl, SqL.of hj1, ?_, fun H2 q s2 nq hq => ?_⟩
    · have : (9 : Nat) < big := by decide
      omega
    refine ⟨q, _, _, V.int ((cnt j.2 d 0 j.2.length : Nat) : Int), rfl, rfl, SqL.of hq, at_of (j := 0) rfl (nI_at (cnts_get (by decide))), _, s2 _ _ hp, ?_, same_put (sm.trans s2) hD, ?_⟩
    · rw [List.length_map, List.length_map, List.length_take]
      exact big_line (by unfold big; omega)
    · rw [upd_same, take_more hj, List.map_append, List.map_append, ← apart_eq q3]; rfl
  · rintro H' ⟨sm, hp⟩
    rw [refs_length, List.take_length] at hp
    have s2 := s1.trans sm
    refine ⟨_, rfl, .inl ⟨rfl, _, SqL.of hp⟩, _, rfl, b, _, _, V.int (c : Int), rfl, rfl, s2.seq hS, at_of (j := 1) rfl rfl, D, _, (c : Int), rfl, rfl, SqL.of hp, (by show 1 ≤ sizeLine; decide), fun u nu => ?_⟩
    have sU := same_new (o := HO.lst [V.int (((ks.map fun j => ((Kqi6.apart j.2 d 0 : Nat) : Int)).count (c : Int) : Nat) : Int)]) s2 nu
    refine k _ u (hA0.frm sU) (hA0.same sU) ?_
    have e : (ks.map fun j => ((Kqi6.apart j.2 d 0 : Nat) : Int)) = (ks.map (·.2)).map fun v => ((Kqi6.apart v d 0 : Nat) : Int) := by rw [List.map_map]; rfl
    rw [upd_same, e, count_is (fun v => Kqi6.apart v d 0), hks]; rfl
end
end Ray
end
section
set_option Elab.async false
set_option linter.all false
set_option maxRecDepth 100000
set_option maxHeartbeats 2000000
namespace Ray
open PySem PySem.Spec PyProof.Rows L2
abbrev sKin : Stmt := topS 37
abbrev sTbs : Stmt := topS 38
/-! ### a list of tuples of whole numbers -/
structure TTs (H : Hp) (a : Addr) (ks : List (Addr × List Nat)) : Prop where
  lst : H a = some (.lst (ks.map fun k => V.ref k.1))
  el : ∀ k ∈ ks, H k.1 = some (.tup (nI k.2)) ∧ k.1 ≠ a
theorem TTs.push {H H' : Hp} {a r : Addr} {ks : List (Addr × List Nat)} {w : List Nat} (h : TTs H a ks) (s : Same H H') (hr : H' r = some (.tup (nI w))) (hn : r ≠ a) :
    TTs (upd H' a (.lst ((ks.map fun k => V.ref k.1) ++ [V.ref r]))) a (ks ++ [(r, w)]) := by
  refine ⟨by rw [upd_same, List.map_append]; rfl, fun k hk => ?_⟩
  rcases List.mem_append.mp hk with z | z
  · exact ⟨by rw [upd_ne (h.el k z).2]; exact s _ _ (h.el k z).1, (h.el k z).2⟩
  · obtain rfl := List.mem_singleton.mp z
    exact ⟨by rw [upd_ne hn]; exact hr, hn⟩
def rTupOf (K : PySem.W.Frag) : List V → Hp → VK → Prop := fun xs H Q => ∃ p ys, xs = [.ref p] ∧ ((SqL K H p ys ∧ ∀ l, H l = none → Q (.ref l) (upd H l (.tup ys))) ∨ (SqT K H p ys ∧ Q (.ref p) H))
def iN (l : List Nat) : List Int := l.map fun (x : Nat) => (x : Int)
theorem iN_inj {v w : List Nat} (h : iN v = iN w) : v = w := by
  have e := congrArg (List.map Int.toNat) h
  unfold iN at e
  rw [List.map_map] at e
  rw [List.map_map] at e
  have f : (Int.toNat ∘ fun (x : Nat) => (x : Int)) = id := funext fun x => Int.toNat_natCast x
  rw [f, List.map_id, List.map_id] at e
  exact e
theorem iN_nodup {l : List (List Nat)} (h : l.Nodup) : (l.map iN).Nodup := by
  induction l with
  | nil => exact List.nodup_nil
  | cons x l ih =>
    rw [List.map_cons]
    refine List.nodup_cons.mpr ⟨fun hm => ?_, ih (List.nodup_cons.mp h).2⟩
    obtain ⟨y, hy, e⟩ := List.mem_map.mp hm
    exact (List.nodup_cons.mp h).1 (iN_inj e ▸ hy)
/-- how many different ones a list of tuples has -/
theorem diff_many {ks : List (Addr × List Nat)} {D : List (List Nat)} {L : List (List Int)} (hD : D.Nodup) (h1 : ∀ k ∈ ks, k.2 ∈ D) (h2 : ∀ d ∈ D, d ∈ ks.map (·.2)) (nd : L.Nodup) (a : ∀ x ∈ L, x ∈ (ks.map fun k => (k.1, iN k.2)).map (·.2)) (b : ∀ x ∈ (ks.map fun k => (k.1, iN k.2)).map (·.2), x ∈ L) : L.length = D.length := by
  have e : (ks.map fun k => (k.1, iN k.2)).map (·.2) = (ks.map (·.2)).map iN := by rw [List.map_map, List.map_map]; rfl
  rw [e] at a b
  rw [← List.length_map (as := D) (f := iN)]
  refine nodup_same nd (iN_nodup hD) (fun x hx => ?_) fun x hx => ?_
  · obtain ⟨y, hy, rfl⟩ := List.mem_map.mp (a x hx)
    obtain ⟨k, hk, rfl⟩ := List.mem_map.mp hy
    exact List.mem_map.mpr ⟨_, h1 k hk, rfl⟩
  · obtain ⟨d, hd, rfl⟩ := List.mem_map.mp hx
    exact b _ (List.mem_map.mpr ⟨d, h2 d hd, rfl⟩)
theorem few_of {ks : List (Addr × List Nat)} {D : List (List Nat)} (h1 : ∀ k ∈ ks, k.2 ∈ D) (h2 : D.length ≤ 60) : Few (ks.map fun k => (k.1, iN k.2)) (D.map iN) := by
  refine ⟨fun p hp => ?_, by rw [List.length_map]; exact h2⟩
  obtain ⟨k, hk, rfl⟩ := List.mem_map.mp hp
  exact List.mem_map.mpr ⟨_, h1 k hk, rfl⟩
section
variable {P : Program} {w : World} {K : PySem.W.Frag} {mg : Str → Option Value} {base : Heap} {C : Addr}
/-! ### kinds(stacking, numbers) -/
def gKin (wd ns : List Nat) : List Nat × List Int := match ns with
  | [n] => (wd, [if isl n = true then (((Kqi6.closing n).filter fun w => Kqi6.first w == w).length : Int) else -22])
  | _ => (wd, [])
theorem scKin : FnScope ["stacking", "numbers", "word"] ["stacking", "numbers"] (defScope sKin) := ⟨rfl, rfl, rfl, by decide +kernel, rfl, by decide +kernel, by decide +kernel⟩
theorem ok_kin {f : Addr} {fd : FuncData} (F : Fun K "kinds" "kinds" sKin f fd) (T : Txt K mg C) (mset : mg "set" = none) (mtup : mg "tuple" = none) (DI : Has P w K mg base "is_length" 1 ["number"] spIsl) (DC : Has P w K mg base "closing_words" 3 ["steps"] spCwd) (DF : Has P w K mg base "first_name" 4 ["word"] (spFnm K))
    {t1 : Tok} (mW : mg "WRONG_NUMBERS" = some (.int (-22) t1)) : FnOk P w K mg base CX0 5 f fd ["stacking", "numbers"] (spC K C (fun wd ns => Good wd ∧ ∃ n, ns = [n]) gKin) := by
  obtain ⟨fi, fdi, mi, GI, ki, bi⟩ := DI.ex
  obtain ⟨fc, fdc, mc, GC, kc, bc⟩ := DC.ex
  obtain ⟨ft, fdt, mt, GT, kt, bt⟩ := DF.ex
  refine F.ok scKin (fun vs H Q E h => spC_len h) (fun cdv A outer s H vs Q E hr h => ⟨_, pss_cons (ps_if (pt_not (pt_val (pe_call GI (hr.mono (by decide)) rfl mi ki bi .nil pass0 (pa_cons (pe_ix ix_list (pv 1) pe_int (fun _ _ => rfl)) pa_nil)))) (pss_one (ps_ret (pe_lst (pa_cons (pe_glob (v := .int (-22)) rfl mW ⟨_, rfl⟩) pa_nil)))) pss_nil)
    (pss_one (ps_ret (pe_lst (pa_cons (pe_lenSetT rfl hr.units (by rfl) T.len (by rfl) mset
      (pe_lc (own := [("word", 2)]) (g := gName 2) (tt := tYes) (te := tCB (rTupOf K) (tCons (tCall (spFnm K) [] E0 (tCons (tVar 2) tNil)) tNil)) rfl scKin.nd
        (pi_list (pe_call GC (hr.mono (by decide)) (by rfl) mc kc bc .nil pass0 (pa_cons (pe_ix ix_list (pv 1) pe_int (fun _ _ => rfl)) pa_nil))) (blkOk_by (N := ["stacking", "numbers", "word"]) (sc := defScope sKin) (by decide +kernel)) (fun _ _ _ _ _ => pg_name (i := 2) scKin.nd rfl (Or.inl rfl)) (fun _ _ _ _ _ => pts_nil)
        (fun _ _ _ _ _ => pe_callTy call_tuple_of (by rfl) mtup (by decide +kernel) (pa_cons (pe_call GT (hr.mono (by decide)) (by rfl) mt kt bt .nil pass0 (pa_cons (pv 2) pa_nil)) pa_nil)))) pa_nil)))), ?_⟩)
  obtain ⟨a, b, wd, ns, rfl, hA, hS, hwl, hnl, ⟨gd, n, rfl⟩, k⟩ := h
  have hA0 := hA
  unfold gKin at k
  dsimp only at k
  refine ⟨_, rfl, b, _, _, V.int (n : Int), rfl, rfl, hS, at_of (j := 0) rfl rfl, n, rfl, _, rfl, ?_⟩
  cases h1 : isl n with
  | false =>
    rw [h1] at k
    refine ⟨(by show 1 ≤ sizeLine; decide), fun p np => ?_⟩
    exact k _ p (hA0.frm (same_new (.refl H) np)) (hA0.same (same_new (.refl H) np)) upd_same
  | true =>
    rw [h1, if_pos rfl] at k
    have hn : 1 ≤ n ∧ n ≤ 8 := by
      unfold isl at h1
      rw [Bool.and_eq_true] at h1
      exact ⟨of_decide_eq_true h1.1, of_decide_eq_true h1.2⟩
    refine ⟨_, rfl, b, _, _, V.int (n : Int), rfl, rfl, hS, at_of (j := 0) rfl rfl, n, rfl, hn.2, fun H1 p ks s1 np hL hks => ?_⟩
    have hmem : ∀ j ∈ ks, j.2 ∈ Kqi6.closing n := fun j hj => by rw [← hks]; exact List.mem_map.mpr ⟨j, hj, rfl⟩
    have hkl : ks.length ≤ 256 := by
      have e1 : ks.length = (Kqi6.closing n).length := by rw [← hks, List.length_map]
      have e2 : (Kqi6.closing n).length ≤ (Kqi6.words n).length := List.length_filter_le ..
      have e3 : 2 ^ n ≤ 256 := Nat.pow_le_pow_right (n := 2) (by decide) hn.2
      rw [words_length] at e2
      omega
    refine ⟨p, rfl, ⟨_, SqL.of hL.lst⟩, fun D hD => lc_list (K := K) (a := p) (xs := ks.map fun k => V.ref k.1) (fun i H' => Same H1 H' ∧ ∃ js, TTs H' D js ∧ js.length = i ∧ js.map (·.2) = ((ks.take i).map (·.2)).map Kqi6.first) ⟨same_put (.refl H1) hD, [], ⟨upd_same, fun k hk => (by cases hk)⟩, rfl, rfl⟩ (fun i H' _ e => SqL.of (e.1 _ _ hL.lst)) ?_ ?_⟩
    · rintro i y H' hi ⟨sm, js, hJ, hjl, hjs⟩
      obtain ⟨j, hj, rfl⟩ := refs_get hi
      have hjm := List.mem_of_getElem? hj
      have hil : i < ks.length := (List.getElem?_eq_some_iff.mp hj).1
      obtain ⟨q1, q2, q3⟩ := closing_mem (hmem j hjm)
      have hj1 := sm _ _ (hL.el j hjm).1
      have gj : Good j.2 := closing_good (hmem j hjm) hn.1 hn.2
      have jb : j.2.length < big := by
        have : (9 : Nat) < big := by decide
        omega
      refine ⟨rfl, _, rfl, j.1, j.2, rfl, SqL.of hj1, gj, fun H2 q s2 hq => ?_⟩
      refine ⟨q, _, rfl, .inl ⟨SqL.of hq, fun r nr => ?_⟩⟩
      have s3 := same_new (o := HO.tup (nI (Kqi6.first j.2))) s2 nr
      have hD2 := s2 _ _ hJ.lst
      have hrD : r ≠ D := fun e => by rw [e, hD2] at nr; cases nr
      refine ⟨_, s3 _ _ hJ.lst, ?_, same_put (sm.trans s3) hD, js ++ [(r, Kqi6.first j.2)], hJ.push s3 upd_same hrD, ?_, ?_⟩
      · rw [refs_length, hjl]; exact big_line (by unfold big; omega)
      · rw [List.length_append, hjl]; rfl
      · rw [List.map_append, hjs, take_more hj, List.map_append, List.map_append]; rfl
    · rintro H' ⟨sm, js, hJ, hjl, hjs⟩
      rw [refs_length, List.take_length, hks] at hjs
      have hm : ∀ j ∈ js, j.2 ∈ (Kqi6.closing n).map Kqi6.first := fun j hj => by rw [← hjs]; exact List.mem_map.mpr ⟨j, hj, rfl⟩
      obtain ⟨oknd, oklen⟩ := kind_ok hn.2
      have hin : ∀ j ∈ js, j.2 ∈ kindL n := fun j hj => by
        obtain ⟨v, hv, e⟩ := List.mem_map.mp (hm j hj)
        rw [← e]; exact kind_mem hn.2 hv
      have hback : ∀ d ∈ kindL n, d ∈ js.map (·.2) := fun d hd => by rw [hjs]; exact kind_back hd
      refine ⟨D, js.map fun k => (k.1, iN k.2), (kindL n).map iN, rfl, ?_, fun q hq => ?_, few_of hin oklen, fun L nd a1 a2 => ⟨(by show 1 ≤ sizeLine; decide), fun u nu => ?_⟩⟩
      · rw [List.map_map]; exact SqL.of hJ.lst
      · obtain ⟨j, hj, rfl⟩ := List.mem_map.mp hq
        refine SqT.of ?_
        rw [(hJ.el j hj).1, nI_int]; rfl
      · have el := diff_many oknd hin hback nd a1 a2
        have sU := (s1.trans sm).trans (same_new (o := HO.lst [V.int ((L.length : Nat) : Int)]) (.refl H') nu)
        refine k _ u (hA0.frm sU) (hA0.same sU) ?_
        rw [upd_same, el]; rfl
/-! ### tables(stacking, numbers) -/
def gTbs (wd ns : List Nat) : List Nat × List Int := match ns with
  | [n] => (wd, [if isl n = true then ((((Kqi6.closing n).map Kqi6.table).foldl (fun l x => Kqi6.insertT x l) []).length : Int) else -22])
  | _ => (wd, [])
theorem scTbs : FnScope ["stacking", "numbers", "word"] ["stacking", "numbers"] (defScope sTbs) := ⟨rfl, rfl, rfl, by decide +kernel, rfl, by decide +kernel, by decide +kernel⟩
theorem ok_tbs {f : Addr} {fd : FuncData} (F : Fun K "tables" "tables" sTbs f fd) (T : Txt K mg C) (mset : mg "set" = none) (mtup : mg "tuple" = none) (DI : Has P w K mg base "is_length" 1 ["number"] spIsl) (DC : Has P w K mg base "closing_words" 3 ["steps"] spCwd) (DF : Has P w K mg base "table_of" 3 ["word"] (spTab K))
    {t1 : Tok} (mW : mg "WRONG_NUMBERS" = some (.int (-22) t1)) : FnOk P w K mg base CX0 4 f fd ["stacking", "numbers"] (spC K C (fun wd ns => Good wd ∧ ∃ n, ns = [n]) gTbs) := by
  obtain ⟨fi, fdi, mi, GI, ki, bi⟩ := DI.ex
  obtain ⟨fc, fdc, mc, GC, kc, bc⟩ := DC.ex
  obtain ⟨ft, fdt, mt, GT, kt, bt⟩ := DF.ex
  refine F.ok scTbs (fun vs H Q E h => spC_len h) (fun cdv A outer s H vs Q E hr h => ⟨_, pss_cons (ps_if (pt_not (pt_val (pe_call GI (hr.mono (by decide)) rfl mi ki bi .nil pass0 (pa_cons (pe_ix ix_list (pv 1) pe_int (fun _ _ => rfl)) pa_nil)))) (pss_one (ps_ret (pe_lst (pa_cons (pe_glob (v := .int (-22)) rfl mW ⟨_, rfl⟩) pa_nil)))) pss_nil)
    (pss_one (ps_ret (pe_lst (pa_cons (pe_lenSetT rfl hr.units (by rfl) T.len (by rfl) mset
      (pe_lc (own := [("word", 2)]) (g := gName 2) (tt := tYes) (te := tCB (rTupOf K) (tCons (tCall (spTab K) [] E0 (tCons (tVar 2) tNil)) tNil)) rfl scTbs.nd
        (pi_list (pe_call GC (hr.mono (by decide)) (by rfl) mc kc bc .nil pass0 (pa_cons (pe_ix ix_list (pv 1) pe_int (fun _ _ => rfl)) pa_nil))) (blkOk_by (N := ["stacking", "numbers", "word"]) (sc := defScope sTbs) (by decide +kernel)) (fun _ _ _ _ _ => pg_name (i := 2) scTbs.nd rfl (Or.inl rfl)) (fun _ _ _ _ _ => pts_nil)
        (fun _ _ _ _ _ => pe_callTy call_tuple_of (by rfl) mtup (by decide +kernel) (pa_cons (pe_call GT (hr.mono (by decide)) (by rfl) mt kt bt .nil pass0 (pa_cons (pv 2) pa_nil)) pa_nil)))) pa_nil)))), ?_⟩)
  obtain ⟨a, b, wd, ns, rfl, hA, hS, hwl, hnl, ⟨gd, n, rfl⟩, k⟩ := h
  have hA0 := hA
  unfold gTbs at k
  dsimp only at k
  refine ⟨_, rfl, b, _, _, V.int (n : Int), rfl, rfl, hS, at_of (j := 0) rfl rfl, n, rfl, _, rfl, ?_⟩
  cases h1 : isl n with
  | false =>
    rw [h1] at k
    refine ⟨(by show 1 ≤ sizeLine; decide), fun p np => ?_⟩
    exact k _ p (hA0.frm (same_new (.refl H) np)) (hA0.same (same_new (.refl H) np)) upd_same
  | true =>
    rw [h1, if_pos rfl] at k
    have hn : 1 ≤ n ∧ n ≤ 8 := by
      unfold isl at h1
      rw [Bool.and_eq_true] at h1
      exact ⟨of_decide_eq_true h1.1, of_decide_eq_true h1.2⟩
    refine ⟨_, rfl, b, _, _, V.int (n : Int), rfl, rfl, hS, at_of (j := 0) rfl rfl, n, rfl, hn.2, fun H1 p ks s1 np hL hks => ?_⟩
    have hmem : ∀ j ∈ ks, j.2 ∈ Kqi6.closing n := fun j hj => by rw [← hks]; exact List.mem_map.mpr ⟨j, hj, rfl⟩
    have hkl : ks.length ≤ 256 := by
      have e1 : ks.length = (Kqi6.closing n).length := by rw [← hks, List.length_map]
      have e2 : (Kqi6.closing n).length ≤ (Kqi6.words n).length := List.length_filter_le ..
      have e3 : 2 ^ n ≤ 256 := Nat.pow_le_pow_right (n := 2) (by decide) hn.2
      rw [words_length] at e2
      omega
    refine ⟨p, rfl, ⟨_, SqL.of hL.lst⟩, fun D hD => lc_list (K := K) (a := p) (xs := ks.map fun k => V.ref k.1) (fun i H' => Same H1 H' ∧ ∃ js, TTs H' D js ∧ js.length = i ∧ js.map (·.2) = ((ks.take i).map (·.2)).map Kqi6.table) ⟨same_put (.refl H1) hD, [], ⟨upd_same, fun k hk => (by cases hk)⟩, rfl, rfl⟩ (fun i H' _ e => SqL.of (e.1 _ _ hL.lst)) ?_ ?_⟩
    · rintro i y H' hi ⟨sm, js, hJ, hjl, hjs⟩
      obtain ⟨j, hj, rfl⟩ := refs_get hi
      have hjm := List.mem_of_getElem? hj
      have hil : i < ks.length := (List.getElem?_eq_some_iff.mp hj).1
      obtain ⟨q1, q2, q3⟩ := closing_mem (hmem j hjm)
      have hj1 := sm _ _ (hL.el j hjm).1
      have gj : Good j.2 := closing_good (hmem j hjm) hn.1 hn.2
      have jb : j.2.length < big := by
        have : (9 : Nat) < big := by decide
        omega
      refine ⟨rfl, _, rfl, j.1, j.2, rfl, SqL.of hj1, jb, q3, fun H2 q s2 nq hq => ?_⟩
      refine ⟨q, _, rfl, .inl ⟨SqL.of hq, fun r nr => ?_⟩⟩
      have s3 := same_new (o := HO.tup (nI (Kqi6.table j.2))) s2 nr
      have hD2 := s2 _ _ hJ.lst
      have hrD : r ≠ D := fun e => by rw [e, hD2] at nr; cases nr
      refine ⟨_, s3 _ _ hJ.lst, ?_, same_put (sm.trans s3) hD, js ++ [(r, Kqi6.table j.2)], hJ.push s3 upd_same hrD, ?_, ?_⟩
      · rw [refs_length, hjl]; exact big_line (by unfold big; omega)
      · rw [List.length_append, hjl]; rfl
      · rw [List.map_append, hjs, take_more hj, List.map_append, List.map_append]; rfl
    · rintro H' ⟨sm, js, hJ, hjl, hjs⟩
      rw [refs_length, List.take_length, hks] at hjs
      have hm : ∀ j ∈ js, j.2 ∈ (Kqi6.closing n).map Kqi6.table := fun j hj => by rw [← hjs]; exact List.mem_map.mpr ⟨j, hj, rfl⟩
      obtain ⟨oknd, oklen, okback⟩ := tableL_ok hn.2
      have hin : ∀ j ∈ js, j.2 ∈ tableL n := fun j hj => by
        obtain ⟨v, hv, e⟩ := List.mem_map.mp (hm j hj)
        rw [← e]; exact tableL_mem hn.2 hv
      have hback : ∀ d ∈ tableL n, d ∈ js.map (·.2) := fun d hd => by rw [hjs]; exact okback d hd
      refine ⟨D, js.map fun k => (k.1, iN k.2), (tableL n).map iN, rfl, ?_, fun q hq => ?_, few_of hin oklen, fun L nd a1 a2 => ⟨(by show 1 ≤ sizeLine; decide), fun u nu => ?_⟩⟩
      · rw [List.map_map]; exact SqL.of hJ.lst
      · obtain ⟨j, hj, rfl⟩ := List.mem_map.mp hq
        refine SqT.of ?_
        rw [(hJ.el j hj).1, nI_int]; rfl
      · have el := diff_many oknd hin hback nd a1 a2
        have sU := (s1.trans sm).trans (same_new (o := HO.lst [V.int ((L.length : Nat) : Int)]) (.refl H') nu)
        refine k _ u (hA0.frm sU) (hA0.same sU) ?_
        rw [upd_same, el]; rfl
end
end Ray
end
section
set_option Elab.async false
set_option linter.all false
set_option maxRecDepth 100000
set_option maxHeartbeats 2000000
namespace Ray
open PySem PySem.Spec PyProof.Rows L2
abbrev sEnd : Stmt := topS 45
abbrev sNum : Stmt := topS 46
def iI (l : List Int) : List V := l.map V.int
theorem iI_length (l : List Int) : (iI l).length = l.length := List.length_map _
theorem iI_at {l : List Int} {i : Nat} (h : i < l.length) : (iI l)[i]? = some (V.int (l.getD i 0)) := by
  unfold iI
  rw [List.getElem?_map, List.getD_eq_getElem?_getD, List.getElem?_eq_getElem h]; rfl
theorem inV_row (p : Int) : inV (V.int p) (iI rowCalls) = isRow p := by
  unfold inV isRow rowCalls iI
  simp only [List.map_cons, List.map_nil, List.any_cons, List.any_nil, eqV, List.contains_cons, List.contains_nil, Bool.or_false, Bool.beq_comm (a := p)]
/-- the two tables of the top -/
structure Tabs (K : PySem.W.Frag) (mg : Str → Option Value) (aR aP : Addr) (lP : List (Int × Value)) : Prop where
  gR : mg "ROW_CALLS" = some (.ref aR)
  gP : mg "PLAIN_NUMBERS" = some (.ref aP)
  row : ∀ H : Hp, SqT K H aR (iI rowCalls)
  tab : Tab K aP lP
  none_ : ∀ k, lP.lookup k = none → plain k = 0
  some_ : ∀ k u, lP.lookup k = some u → RelV (.int (plain k : Nat)) u
section
variable {P : Program} {w : World} {K : PySem.W.Frag} {mg : Str → Option Value} {base : Heap} {aR aP : Addr} {lP : List (Int × Value)}
/-! ### end_of_call(calls, begin) -/
def Reads (l : List Int) (b : Nat) : Prop := b < l.length ∧ (isRow (l.getD b 0) = true → b + 1 < l.length ∧ 0 ≤ l.getD (b + 1) 0)
def spEnd (K : PySem.W.Frag) : Sp := fun vs H Q _ => ∃ (a : Addr) (l : List Int) (b : Nat), vs = [.ref a, .int (b : Int)] ∧ SqL K H a (iI l) ∧ Reads l b ∧ Q (.int (nxt l b : Nat)) H
theorem scEnd : FnScope ["calls", "begin", "number"] ["calls", "begin"] (defScope sEnd) := ⟨rfl, rfl, rfl, by decide +kernel, rfl, by decide +kernel, by decide +kernel⟩
theorem ok_end {f : Addr} {fd : FuncData} (F : Fun K "end_of_call" "end_of_call" sEnd f fd) (T : Tabs K mg aR aP lP) : FnOk P w K mg base CX0 1 f fd ["calls", "begin"] (spEnd K) := by
  refine F.ok scEnd (fun vs H Q E h => ?_) (fun cdv A outer s H vs Q E hr h => ⟨_, pss_cons (ps_set (i := 2) scEnd.nd rfl (Or.inl rfl) (pe_ix ix_list (pv 0) (pv 1) (fun _ _ => rfl)))
    (pss_cons (ps_if (pt_cmpR op_in_seq (pv 2) (pe_glob (v := .ref aR) rfl T.gR rfl) (by rfl)) (pss_one (ps_ret (pe_op op_add (pe_op op_add (pv 1) pe_int) (pe_ix ix_list (pv 0) (pe_op op_add (pv 1) pe_int) (fun _ _ => rfl))))) pss_nil)
    (pss_one (ps_ret (pe_op op_add (pe_op op_add (pv 1) pe_int) (pe_getTab T.tab (pe_glob (v := .ref aP) rfl T.gP rfl) (pv 2) pe_int ⟨rfl, rfl, rfl, rfl⟩))))), ?_⟩)
  · obtain ⟨a, l, b, rfl, _⟩ := h
    rfl
  · obtain ⟨a, l, b, rfl, hS, ⟨hb, hr⟩, k⟩ := h
    refine ⟨_, rfl, _, rfl, a, _, _, V.int (l.getD b 0), rfl, rfl, hS, at_of rfl (iI_at hb), ?_⟩
    refine ⟨_, rfl, aR, _, rfl, .inr (T.row H), rfl, rfl, _, rfl, ?_⟩
    unfold nxt at k
    cases h1 : isRow (l.getD b 0) with
    | true =>
      refine yes_of ((inV_row _).trans h1) ?_
      rw [if_pos h1] at k
      obtain ⟨h2, h3⟩ := hr h1
      refine ⟨_, rfl, _, _, rfl, rfl, _, rfl, _, rfl, _, _, rfl, rfl, a, _, _, V.int (l.getD (b + 1) 0), rfl, rfl, hS, at_of (j := b + 1) (by omega) (iI_at h2), _, _, rfl, rfl, ?_⟩
      have e : (b : Int) + 2 + l.getD (b + 1) 0 = ((b + 2 + (l.getD (b + 1) 0).toNat : Nat) : Int) := by omega
      show Q (V.int ((b : Int) + 2 + l.getD (b + 1) 0)) H
      rw [e]; exact k
    | false =>
      refine no_of ((inV_row _).trans h1) ?_
      rw [if_neg (by rw [h1]; exact Bool.false_ne_true)] at k
      refine ⟨_, rfl, _, _, rfl, rfl, rfl, _, rfl, l.getD b 0, V.int (plain (l.getD b 0) : Nat), rfl, ?_, _, _, rfl, rfl, ?_⟩
      · cases h2 : lP.lookup (l.getD b 0) with
        | none => exact .inl ⟨rfl, by rw [T.none_ _ h2]; rfl⟩
        | some u => exact .inr ⟨u, rfl, T.some_ _ _ h2⟩
      · have e : (b : Int) + 1 + (plain (l.getD b 0) : Nat) = ((b + 1 + plain (l.getD b 0) : Nat) : Int) := by omega
        show Q (V.int ((b : Int) + 1 + (plain (l.getD b 0) : Nat))) H
        rw [e]; exact k
/-! ### numbers_of_call(calls, begin) -/
def spNum (K : PySem.W.Frag) : Sp := fun vs H Q _ => ∃ (a : Addr) (l : List Int) (b : Nat), vs = [.ref a, .int (b : Int)] ∧ SqL K H a (iI l) ∧ Reads l b ∧ nxt l b ≤ l.length ∧
  ∀ (H' : Hp) (p : Addr), Same H H' → H p = none → H' p = some (.lst (iI (args l b))) → Q (.ref p) H'
theorem scNum : FnScope ["calls", "begin", "ahead"] ["calls", "begin"] (defScope sNum) := ⟨rfl, rfl, rfl, by decide +kernel, rfl, by decide +kernel, by decide +kernel⟩
theorem cut_mid {l : List Int} {i j : Nat} (h : i ≤ j) (hj : j ≤ l.length) : cutV (iI l) (some (i : Int)) (some (j : Int)) = iI ((l.drop i).take (j - i)) := by
  unfold cutV iI
  rw [HT.sIx_nat, HT.sIx_nat, List.length_map, Nat.min_eq_left hj, Nat.min_eq_left (by omega), List.map_take, List.map_drop]
theorem ok_num {f : Addr} {fd : FuncData} (F : Fun K "numbers_of_call" "numbers_of_call" sNum f fd) (T : Tabs K mg aR aP lP) (D : Has P w K mg base "end_of_call" 1 ["calls", "begin"] (spEnd K)) : FnOk P w K mg base CX0 2 f fd ["calls", "begin"] (spNum K) := by
  obtain ⟨fr, fdr, mr, G, kr, br⟩ := D.ex
  refine F.ok scNum (fun vs H Q E h => ?_) (fun cdv A outer s H vs Q E hr h => ⟨_, pss_cons (ps_set (i := 2) scNum.nd rfl (Or.inl rfl) (pe_ifExp (pt_cmpR op_in_seq (pe_ix ix_list (pv 0) (pv 1) (fun _ _ => rfl)) (pe_glob (v := .ref aR) rfl T.gR rfl) (by rfl)) pe_int pe_int))
    (pss_one (ps_ret (pe_slice sl_list (pv 0) (po_some (pe_op op_add (pv 1) (pv 2))) (po_some (pe_call G hr rfl mr kr br .nil pass0 (pa_cons (pv 0) (pa_cons (pv 1) pa_nil))))))), ?_⟩)
  · obtain ⟨a, l, b, rfl, _⟩ := h
    rfl
  · obtain ⟨a, l, b, rfl, hS, hR, hn, k⟩ := h
    refine ⟨_, rfl, _, rfl, a, _, _, V.int (l.getD b 0), rfl, rfl, hS, at_of rfl (iI_at hR.1), aR, _, rfl, .inr (T.row H), rfl, rfl, _, rfl, ?_⟩
    unfold args at k
    cases h1 : isRow (l.getD b 0) with
    | true =>
      refine yes_of ((inV_row _).trans h1) ?_
      rw [if_pos h1] at k
      have e : nxt l b = b + 2 + (l.getD (b + 1) 0).toNat := by unfold nxt; rw [if_pos h1]
      refine ⟨_, rfl, _, rfl, _, rfl, _, _, rfl, rfl, (b : Int) + 2, rfl, _, rfl, _, rfl, a, l, b, rfl, hS, hR, (nxt l b : Nat), rfl, a, _, rfl, hS, fun p np => ?_⟩
      refine k _ p (same_new (.refl H) np) np ?_
      rw [upd_same, show (b : Int) + 2 = ((b + 2 : Nat) : Int) by omega, cut_mid (by omega) hn, e]
      congr 4; omega
    | false =>
      refine no_of ((inV_row _).trans h1) ?_
      have h1' : ¬ isRow (l.getD b 0) = true := by rw [h1]; exact Bool.false_ne_true
      rw [if_neg h1'] at k
      have e : nxt l b = b + 1 + plain (l.getD b 0) := by unfold nxt; rw [if_neg h1']
      refine ⟨_, rfl, _, rfl, _, rfl, _, _, rfl, rfl, (b : Int) + 1, rfl, _, rfl, _, rfl, a, l, b, rfl, hS, hR, (nxt l b : Nat), rfl, a, _, rfl, hS, fun p np => ?_⟩
      refine k _ p (same_new (.refl H) np) np ?_
      rw [upd_same, show (b : Int) + 1 = ((b + 1 : Nat) : Int) by omega, cut_mid (by omega) hn, e]
      congr 4; omega
end
end Ray
end
section
set_option Elab.async false
set_option linter.all false
set_option maxRecDepth 100000
set_option maxHeartbeats 2000000
namespace Ray
open PySem PySem.Spec PyProof.Rows L2
abbrev sAll : Stmt := topS 47
/-- answer(stacking, number, numbers), as the specification plays it -/
def spAnw (K : PySem.W.Frag) (C : Addr) : Sp := fun vs H Q _ => ∃ (a b : Addr) (p : Nat) (wd ns : List Nat), vs = [.ref a, .int (p : Int), .ref b] ∧ p ≤ 16 ∧ Fits (p : Int) ns ∧ StAt C H a wd ∧ Ok wd ∧ SqL K H b (nI ns) ∧ ns.length < big ∧
  ∀ (H' : Hp) (r : Addr), Frm a H H' → StAt C H' a (gAll (p : Int) wd ns).1 → H' r = some (.lst (iI (gAll (p : Int) wd ns).2)) → Q (.ref r) H'
theorem cI_nat {l : List Int} (h : ∀ x ∈ l, 0 ≤ x) : cI (l.map Int.toNat) = l := by
  unfold cI
  rw [List.map_map]
  exact (List.map_congr_left fun x hx => Int.toNat_of_nonneg (h x hx)).trans (List.map_id l)
theorem iI_nat {l : List Int} (h : ∀ x ∈ l, 0 ≤ x) : iI l = nI (l.map Int.toNat) := by
  rw [nI_int]
  show iI l = iI (cI (l.map Int.toNat))
  rw [cI_nat h]
theorem args_mem {l : List Int} {b : Nat} {x : Int} (h : x ∈ args l b) : x ∈ l := by
  unfold args at h
  split at h
  · exact List.mem_of_mem_drop (List.mem_of_mem_take h)
  · exact List.mem_of_mem_drop (List.mem_of_mem_take h)
section
variable {P : Program} {w : World} {K : PySem.W.Frag} {mg : Str → Option Value} {base : Heap} {C : Addr}
/-! ### answers(calls) -/
def spAns (K : PySem.W.Frag) : Sp := fun vs H Q _ => ∃ (a : Addr) (l : List Int), vs = [.ref a] ∧ SqL K H a (iI l) ∧ l.length ≤ 12400 ∧ (∀ x ∈ l, 0 ≤ x) ∧ PyKqi6.answers_asked l = true ∧
  ∀ (H' : Hp) (p : Addr), H' p = some (.lst (iI (PyKqi6.answers l))) → Q (.ref p) H'
theorem scAns : FnScope ["calls", "stacking", "told", "begin"] ["calls"] (defScope sAll) := ⟨rfl, rfl, rfl, by decide +kernel, rfl, by decide +kernel, by decide +kernel⟩
/-- where the loop stands -/
structure Loop (C : Addr) (H : Hp) (l : List Int) (a x t : Addr) (σ : L2.St) (H' : Hp) (b : Nat) (wd : List Nat) (out : List Int) : Prop where
  st : σ = [some (.ref a), some (.ref x), some (.ref t), some (.int (b : Int))]
  sm : Same H H'
  ob : ∃ dx u, H' x = some (.ins C dx [("word", .ref u)]) ∧ H' u = some (.lst (nI wd)) ∧ u ≠ t
  ok : Ok wd
  tl : H' t = some (.lst (iI out))
  rd : ∃ f cs, PyFlat.calls PyKqi6.shape f (l.drop b) = some cs ∧ out ++ restN (stOf wd) cs = PyKqi6.answers l
theorem ok_ans {f fI : Addr} {fd fdI : FuncData} {kA : Nat} (hk : 2 ≤ kA) (F : Fun K "answers" "answers" sAll f fd) (T : Txt K mg C) (M : Mk K C fI) (GI : FnOk P w K mg base CX0 1 fI fdI ["self"] (spIni C)) (bI : Binds K fdI ["self"] [])
    (DA : Has P w K mg base "answer" kA ["stacking", "number", "numbers"] (spAnw K C)) (DW : Has P w K mg base "with_length" 1 ["row"] (spWit K)) (DN : Has P w K mg base "numbers_of_call" 2 ["calls", "begin"] (spNum K)) (DE : Has P w K mg base "end_of_call" 1 ["calls", "begin"] (spEnd K)) :
    FnOk P w K mg base CX0 (kA + 1) f fd ["calls"] (spAns K) := by
  obtain ⟨fa, fda, ma, GA, ka, ba⟩ := DA.ex
  obtain ⟨fw, fdw, mw, GW, kw, bw⟩ := DW.ex
  obtain ⟨fn, fdn, mn, GN, kn, bn⟩ := DN.ex
  obtain ⟨fe, fde, me, GE, ke, be⟩ := DE.ex
  refine F.ok scAns (fun vs H Q E h => ?_) (fun cdv A outer s H vs Q E hr h => ⟨_, pss_cons (ps_set (i := 1) scAns.nd rfl (Or.inl rfl) (pe_make0 M GI (hr.mono hk) rfl T.gC bI .nil pass0))
    (pss_cons (ps_set (i := 2) scAns.nd rfl (Or.inl rfl) (pe_lst pa_nil))
    (pss_cons (ps_set (i := 3) scAns.nd rfl (Or.inl rfl) pe_int)
    (pss_cons (ps_while PassesOwn.never (pt_cmpR op_lt (pv 3) (pe_callB call_len_seq (by rfl) T.len PySem.boot_len (pa_cons (pv 0) pa_nil)) (nomark _))
      (pss_cons (ps_expr (pe_bm PySem.F.plainAttrs_list PySem.F.slot_list_extend PySem.F.type_list_extend mt_extend (pv 2) (pa_cons (pe_call GW (hr.mono (by omega)) rfl mw kw bw .nil pass0 (pa_cons
          (pe_call GA hr rfl ma ka ba .nil pass0 (pa_cons (pv 1) (pa_cons (pe_ix ix_list (pv 0) (pv 3) (fun _ _ => rfl)) (pa_cons (pe_call GN (hr.mono hk) rfl mn kn bn .nil pass0 (pa_cons (pv 0) (pa_cons (pv 3) pa_nil))) pa_nil)))) pa_nil)) pa_nil)))
      (pss_one (ps_set (i := 3) scAns.nd rfl (Or.inl rfl) (pe_call GE (hr.mono (by omega)) rfl me ke be .nil pass0 (pa_cons (pv 0) (pa_cons (pv 3) pa_nil)))))))
    (pss_one (ps_ret (pv 2)))))), ?_⟩)
  · obtain ⟨a, l, rfl, _⟩ := h
    rfl
  · obtain ⟨a, l, rfl, hS, hlen, hpos, hask, k⟩ := h
    obtain ⟨cs0, hc0, hans, hsz⟩ := asked_is hask
    -- stacking = Stacking()
    intro x dx nx nd ne
    refine ⟨x, dx, rfl, upd_same, fun H1 hO kp => ⟨rfl, ?_⟩⟩
    have s1 : Same H H1 := Same.made nx nd kp
    -- told = []
    refine ⟨(by show 0 ≤ sizeLine; decide), fun t nt => ?_⟩
    have s2 : Same H (upd H1 t (.lst [])) := same_new s1 nt
    have ntx : x ≠ t := by
      obtain ⟨_, _, e, _⟩ := hO
      exact ne_of_none e nt
    have nH : H t = none := s1.free nt
    refine while_by (fun σ H' => ∃ b wd out, Loop C H l a x t σ H' b wd out) (fun σ _ => l.length - (slotI 3 σ).toNat) ⟨0, [], [], ?_⟩ ?_ ?_
    · refine ⟨rfl, s2, ?_, .inl rfl, upd_same, l.length, cs0, hc0, by rw [hans]; rfl⟩
      obtain ⟨dx', u, e1, e2⟩ := hO
      exact ⟨dx', u, by rw [upd_ne ntx]; exact e1, by rw [upd_ne (ne_of_none e2 nt)]; exact e2, ne_of_none e2 nt⟩
    · rintro σ H2 ⟨b, wd, out, L⟩
      obtain ⟨rfl, sm, ⟨dx', u, e1, e2, e3⟩, hok, ht, f, cs, hcs, hout⟩ := L
      refine ⟨_, rfl, _, rfl, a, _, rfl, .inl (sm.seq hS), _, _, rfl, rfl, _, rfl, ?_⟩
      rw [iI_length]
      by_cases hb : b < l.length
      · refine yes_of (decide_eq_true (by omega)) ?_
        obtain ⟨f', c, cs', rfl, hc, hcs'⟩ := calls_more hcs hb
        obtain ⟨_, p0, p16, _, hlt, hle, hform, hrow, hal⟩ := call_read hc
        have hR : Reads l b := ⟨hb, hrow⟩
        refine ⟨_, rfl, .inl ⟨rfl, _, SqL.of ht⟩, _, rfl, _, rfl, _, rfl, a, _, _, V.int (l.getD b 0), rfl, rfl, sm.seq hS, at_of rfl (iI_at hb), _, rfl, _, rfl, a, l, b, rfl, sm.seq hS, hR, hle, fun H3 q s3 nq hq => ?_⟩
        obtain ⟨p, hp⟩ : ∃ p : Nat, l.getD b 0 = (p : Int) := ⟨(l.getD b 0).toNat, by omega⟩
        have hap : ∀ y ∈ args l b, 0 ≤ y := fun y hy => hpos y (args_mem hy)
        have hfit : Fits (p : Int) ((args l b).map Int.toNat) := by
          unfold Fits
          rw [List.length_map, hal, ← hp]
          cases h : isRow (l.getD b 0) with
          | true => exact .inl rfl
          | false => exact .inr (if_neg Bool.false_ne_true)
        have hO3 : StAt C H3 x wd := ⟨dx', u, s3 _ _ e1, s3 _ _ e2⟩
        have hbig : ((args l b).map Int.toNat).length < big := by
          rw [List.length_map]
          have : (args l b).length ≤ l.length := by
            unfold args
            split <;> (rw [List.length_take, List.length_drop]; omega)
          have : (12400 : Nat) < big := by decide
          omega
        refine ⟨x, q, p, wd, (args l b).map Int.toNat, by rw [hp]; rfl, by omega, hfit, hO3, hok, ?_, hbig, fun H4 r f4 hO4 hr4 => ?_⟩
        · rw [← iI_nat hap]; exact SqL.of hq
        obtain ⟨hstep, hok'⟩ := gAll_step (show p ≤ 16 by omega) hfit hok
        rw [cI_nat hap, ← hp] at hstep
        rw [hform, restN_cons, hstep] at hout
        rw [hp] at hout
        have hsize : out.length + (1 + (gAll (p : Int) wd ((args l b).map Int.toNat)).2.length) ≤ 10000000 := by
          rw [← hout] at hsz
          simp only [List.length_append, List.length_cons] at hsz
          omega
        refine ⟨r, _, rfl, hr4, ?_, fun H5 v s5 nv hv => ?_⟩
        · rw [iI_length]
          show _ < 16000000
          omega
        have ht4 : H4 t = some (.lst (iI out)) := f4.1 _ _ (s3 _ _ ht) ntx.symm
        have ht5 := s5 _ _ ht4
        refine ⟨t, v, _, _, rfl, rfl, ht5, hv, ?_, ?_⟩
        · rw [List.length_cons, iI_length, iI_length]
          have : (16000000 : Nat) < sizeLine := by decide
          omega
        have sm5 : Same H H5 := fun c o e => by
          have hcx : c ≠ x := ne_of_none e nx
          exact s5 _ _ (f4.1 _ _ (s3 _ _ (sm _ _ e)) hcx)
        refine ⟨_, rfl, _, rfl, a, l, b, rfl, (same_put sm5 nH).seq hS, hR, ⟨nxt l b, (gAll (p : Int) wd ((args l b).map Int.toNat)).1, out ++ (((gAll (p : Int) wd ((args l b).map Int.toNat)).2.length : Int) :: (gAll (p : Int) wd ((args l b).map Int.toNat)).2), ?_⟩, ?_⟩
        · obtain ⟨dx4, u4, g1, g2⟩ := hO4
          have hut : u4 ≠ t := by
            rcases f4.2 _ _ _ g1 with ⟨dx0, q1⟩ | q1
            · rw [s3 _ _ e1] at q1
              injection q1 with q1
              injection q1 with q1 q2 q3
              injection q3 with q3
              injection q3 with q3 q4
              injection q4 with q4
              rw [← q4]; exact e3
            · exact (ne_of_none (s3 _ _ ht) q1).symm
          refine ⟨rfl, same_put sm5 nH, ⟨dx4, u4, by rw [upd_ne ntx]; exact s5 _ _ g1, by rw [upd_ne hut]; exact s5 _ _ g2, hut⟩, hok', ?_, f', cs', hcs', ?_⟩
          · rw [upd_same, iI_length]
            unfold iI
            rw [List.map_append, List.map_cons]
          · rw [← hout, List.append_assoc]
        · show l.length - ((nxt l b : Nat) : Int).toNat < l.length - ((b : Nat) : Int).toNat
          omega
      · refine no_of (decide_eq_false (by omega)) ?_
        rw [List.drop_eq_nil_of_le (by omega)] at hcs
        rw [calls_end hcs, restN_nil, List.append_nil] at hout
        refine ⟨_, rfl, k H2 t ?_⟩
        rw [ht, hout]
    · rintro σ H1 Q1 Q2 hQ ⟨v, e1, v2, e2, p, ys, e3, e4, i, j, e5, e6, kq, e7, e8⟩
      exact ⟨v, e1, v2, e2, p, ys, e3, e4, i, j, e5, e6, kq, e7, hQ _ _ e8⟩
end
end Ray
end
section
set_option Elab.async false
set_option linter.all false
set_option maxRecDepth 100000
set_option maxHeartbeats 2000000
namespace Ray
open PySem PySem.Spec PyProof.Rows L2
/-! ### the defs' answers are the specification's -/
theorem gAll_call {p : Nat} (hp : p ≤ 16) {wd ns : List Nat} (hf : Fits (p : Int) ns) {c : Kqi6.Call} (hc : callP p ns = some c) :
    gAll (p : Int) wd ns = ((Kqi6.step (stOf wd) c).1.getD [], Kqi6Neutral.tell (Kqi6.step (stOf wd) c).2) := by
  obtain ⟨c', h1, h2⟩ := callOf_is hp hf
  rw [hc] at h1
  cases h1
  unfold gAll
  rw [stepN_call h2]
theorem callP_start {p : Nat} (h : p ≠ 0) {ns l : List Nat} : callP p ns ≠ some (.start l) := by
  intro e
  unfold callP at e
  split at e <;> first | (exact h rfl) | (cases e)
theorem gAll_none {p : Nat} (hp : p ≤ 16) (h0 : p ≠ 0) {ns : List Nat} (hf : Fits (p : Int) ns) : gAll (p : Int) [] ns = ([], [-11]) := by
  obtain ⟨c, h1, h2⟩ := callOf_is hp hf
  rw [gAll_call hp hf h1]
  have e : Kqi6.step (stOf []) c = (none, .num (-11)) := step_none fun l hl => callP_start h0 (hl ▸ h1)
  rw [e]; rfl
theorem right_eq (ns : List Nat) : Kqi6.right ns = (decide (1 ≤ ns.length) && decide (ns.length ≤ 8) && onl ns) := rfl
theorem refu_22 {ns : List Nat} (h : Kqi6.right ns = false) : refu ns = -22 := if_pos h
theorem refu_in {ns : List Nat} (h : Kqi6.right ns = true) : refu ns = if Kqi6.closes ns = true then 0 else -33 := by
  unfold refu
  rw [if_neg (by rw [h]; exact fun e => Bool.noConfusion e)]
theorem refb_22 {wd ns : List Nat} (h : Kqi6.right ns = false ∨ ns.length ≠ wd.length) : refb wd ns = -22 := by
  unfold refb
  by_cases hl : ns.length ≠ wd.length
  · rw [if_pos hl]
  · rw [if_neg hl]
    exact refu_22 (h.resolve_right hl)
theorem refb_in {wd ns : List Nat} (h : Kqi6.right ns = true) (hl : ns.length = wd.length) : refb wd ns = if Kqi6.closes ns = true then 0 else -33 := by
  unfold refb
  rw [if_neg (fun q => q hl)]
  exact refu_in h
theorem getD_stOf (wd : List Nat) : (stOf wd).getD [] = wd := by cases wd <;> rfl
theorem gAll_sta (wd ns : List Nat) : gAll 0 wd ns = gSta wd ns := by
  rw [show ((0 : Int)) = ((0 : Nat) : Int) from rfl, gAll_call (p := 0) (by decide) (.inl (by decide)) (c := .start ns) rfl, step_start]
  unfold gSta
  by_cases h1 : Kqi6.right ns = false
  · rw [if_pos h1, refu_22 h1, if_neg (by decide), getD_stOf]; rfl
  · have h1' : Kqi6.right ns = true := by simpa using h1
    rw [if_neg h1, refu_in h1']
    cases h3 : Kqi6.closes ns with
    | false => rw [if_pos rfl, getD_stOf]; rfl
    | true => rfl
theorem gAll_exc {wd : List Nat} (g : Good wd) (i j : Nat) : gAll 1 wd [i, j] = gExc wd [i, j] := by
  rw [show ((1 : Int)) = ((1 : Nat) : Int) from rfl, gAll_call (p := 1) (by decide) (.inr rfl) (c := .exchange i j) rfl, stOf_good g]
  show (((if wd.length ≤ i ∨ wd.length ≤ j then (some wd, Kqi6.Ans.num (-2)) else (some (swp wd i j), Kqi6.told (swp wd i j)) : Option (List Nat) × Kqi6.Ans).1).getD [], Kqi6Neutral.tell (if wd.length ≤ i ∨ wd.length ≤ j then (some wd, Kqi6.Ans.num (-2)) else (some (swp wd i j), Kqi6.told (swp wd i j)) : Option (List Nat) × Kqi6.Ans).2) = if wd.length ≤ i ∨ wd.length ≤ j then (wd, [-2]) else (swp wd i j, (wd.length : Int) :: (swp wd i j).map fun (x : Nat) => (x : Int))
  by_cases h : wd.length ≤ i ∨ wd.length ≤ j
  · rw [if_pos h, if_pos h]; rfl
  · rw [if_neg h, if_neg h, ← swp_length wd i j]; rfl
theorem gAll_lat {wd : List Nat} (g : Good wd) (k : Nat) : gAll 2 wd [k] = gLat wd [k] := by
  rw [show ((2 : Int)) = ((2 : Nat) : Int) from rfl, gAll_call (p := 2) (by decide) (.inr rfl) (c := .later k) rfl, stOf_good g]
  show (((if wd.length ≤ k then (some wd, Kqi6.Ans.num (-22)) else (some (Kqi6.begun wd k), Kqi6.told (Kqi6.begun wd k)) : Option (List Nat) × Kqi6.Ans).1).getD [], Kqi6Neutral.tell (if wd.length ≤ k then (some wd, Kqi6.Ans.num (-22)) else (some (Kqi6.begun wd k), Kqi6.told (Kqi6.begun wd k)) : Option (List Nat) × Kqi6.Ans).2) = if wd.length ≤ k then (wd, [-22]) else (Kqi6.begun wd k, (wd.length : Int) :: (Kqi6.begun wd k).map fun (x : Nat) => (x : Int))
  by_cases h : wd.length ≤ k
  · rw [if_pos h, if_pos h]; rfl
  · rw [if_neg h, if_neg h, ← begun_length (w := wd) (k := k) (by omega)]; rfl
theorem gAll_prs {wd : List Nat} (g : Good wd) (d : Nat) : gAll 3 wd [d] = gPrs wd [d] := by
  rw [show ((3 : Int)) = ((3 : Nat) : Int) from rfl, gAll_call (p := 3) (by decide) (.inr rfl) (c := .pairs d) rfl, stOf_good g]; rfl
theorem gAll_tbl {wd : List Nat} (g : Good wd) : gAll 4 wd [] = gTbl wd [] := by
  rw [show ((4 : Int)) = ((4 : Nat) : Int) from rfl, gAll_call (p := 4) (by decide) (.inr rfl) (c := .table) rfl, stOf_good g]
  unfold gTbl
  rw [← table_length wd]; rfl
theorem gAll_lyi {wd : List Nat} (g : Good wd) : gAll 5 wd [] = gLyi wd [] := by
  rw [show ((5 : Int)) = ((5 : Nat) : Int) from rfl, gAll_call (p := 5) (by decide) (.inr rfl) (c := .lying) rfl, stOf_good g]; rfl
theorem gAll_tot {wd : List Nat} (g : Good wd) : gAll 6 wd [] = gTot wd [] := by
  rw [show ((6 : Int)) = ((6 : Nat) : Int) from rfl, gAll_call (p := 6) (by decide) (.inr rfl) (c := .total) rfl, stOf_good g]; rfl
theorem gAll_nea {wd : List Nat} (g : Good wd) : gAll 7 wd [] = gNea wd [] := by
  rw [show ((7 : Int)) = ((7 : Nat) : Int) from rfl, gAll_call (p := 7) (by decide) (.inr rfl) (c := .near) rfl, stOf_good g]; rfl
theorem gAll_sam {wd : List Nat} (g : Good wd) (l : List Nat) : gAll 8 wd l = gSam wd l := by
  rw [show ((8 : Int)) = ((8 : Nat) : Int) from rfl, gAll_call (p := 8) (by decide) (.inl (by decide)) (c := .same l) rfl, stOf_good g]
  show (wd, Kqi6Neutral.tell (if Kqi6.right l = false ∨ l.length ≠ wd.length then .num (-22) else if Kqi6.closes l = false then .num (-33) else .num (if Kqi6.same l wd = true then 1 else 0))) = gSam wd l
  unfold gSam
  by_cases h1 : Kqi6.right l = false ∨ l.length ≠ wd.length
  · rw [if_pos h1, refb_22 h1, if_neg (by decide)]; rfl
  · have h2 : Kqi6.right l = true := by
      cases e : Kqi6.right l with
      | true => rfl
      | false => exact absurd (.inl e) h1
    have h3 : l.length = wd.length := by
      by_cases e : l.length = wd.length
      · exact e
      · exact absurd (.inr e) h1
    rw [if_neg h1, refb_in h2 h3]
    cases h4 : Kqi6.closes l with
    | false => rfl
    | true => rfl
theorem gAll_dif {wd : List Nat} (g : Good wd) (l : List Nat) : gAll 9 wd l = gDif wd l := by
  rw [show ((9 : Int)) = ((9 : Nat) : Int) from rfl, gAll_call (p := 9) (by decide) (.inl (by decide)) (c := .differ l) rfl, stOf_good g]
  show (wd, Kqi6Neutral.tell (if Kqi6.right l = false ∨ l.length ≠ wd.length then .num (-22) else if Kqi6.closes l = false then .num (-33) else match firstDif wd l with | none => .num (-6) | some d => .num (d + 1))) = gDif wd l
  unfold gDif
  by_cases h1 : Kqi6.right l = false ∨ l.length ≠ wd.length
  · rw [if_pos h1, refb_22 h1, if_neg (by decide)]; rfl
  · have h2 : Kqi6.right l = true := by
      cases e : Kqi6.right l with
      | true => rfl
      | false => exact absurd (.inl e) h1
    have h3 : l.length = wd.length := by
      by_cases e : l.length = wd.length
      · exact e
      · exact absurd (.inr e) h1
    rw [if_neg h1, refb_in h2 h3]
    cases h4 : Kqi6.closes l with
    | false => rfl
    | true =>
      cases firstDif wd l with
      | none => rfl
      | some d => rfl
theorem isl_iff (n : Nat) : isl n = true ↔ 1 ≤ n ∧ n ≤ 8 := by
  simp [isl]
theorem gAll_fnd {wd : List Nat} (g : Good wd) (l : List Nat) : gAll 10 wd l = gFnd wd l := by
  rw [show ((10 : Int)) = ((10 : Nat) : Int) from rfl, gAll_call (p := 10) (by decide) (.inl (by decide)) (c := .find l) rfl, stOf_good g]
  show (wd, Kqi6Neutral.tell (if l = [] ∨ 8 < l.length then .num (-22) else match Kqi6.found l with | none => .num (-33) | some w => Kqi6.told w)) = gFnd wd l
  unfold gFnd
  by_cases h1 : l = [] ∨ 8 < l.length
  · have h2 : ¬ isl l.length = true := by
      rw [isl_iff]
      rcases h1 with h | h
      · rw [h]; decide
      · omega
    rw [if_pos h1, if_neg h2]; rfl
  · have h2 : isl l.length = true := by
      rw [isl_iff]
      refine ⟨?_, ?_⟩
      · cases l with
        | nil => exact absurd (.inl rfl) h1
        | cons x r => exact Nat.succ_le_succ (Nat.zero_le _)
      · rcases Nat.lt_or_ge 8 l.length with h | h
        · exact absurd (.inr h) h1
        · exact h
    rw [if_neg h1, if_pos h2]
    cases Kqi6.found l with
    | none => rfl
    | some w => rfl
theorem gAll_kin {wd : List Nat} (g : Good wd) (n : Nat) : gAll 11 wd [n] = gKin wd [n] := by
  rw [show ((11 : Int)) = ((11 : Nat) : Int) from rfl, gAll_call (p := 11) (by decide) (.inr rfl) (c := .kinds n) rfl, stOf_good g]
  show (wd, Kqi6Neutral.tell (if n = 0 ∨ 8 < n then .num (-22) else .num ((Kqi6.closing n).filter fun w => Kqi6.first w == w).length)) = (wd, [if isl n = true then (((Kqi6.closing n).filter fun w => Kqi6.first w == w).length : Int) else -22])
  by_cases h1 : n = 0 ∨ 8 < n
  · rw [if_pos h1, if_neg (by rw [isl_iff]; omega)]; rfl
  · rw [if_neg h1, if_pos (by rw [isl_iff]; omega)]; rfl
theorem gAll_tbs {wd : List Nat} (g : Good wd) (n : Nat) : gAll 12 wd [n] = gTbs wd [n] := by
  rw [show ((12 : Int)) = ((12 : Nat) : Int) from rfl, gAll_call (p := 12) (by decide) (.inr rfl) (c := .tables n) rfl, stOf_good g]
  show (wd, Kqi6Neutral.tell (if n = 0 ∨ 8 < n then .num (-22) else .num (((Kqi6.closing n).map Kqi6.table).foldl (fun l x => Kqi6.insertT x l) []).length)) = (wd, [if isl n = true then ((((Kqi6.closing n).map Kqi6.table).foldl (fun l x => Kqi6.insertT x l) []).length : Int) else -22])
  by_cases h1 : n = 0 ∨ 8 < n
  · rw [if_pos h1, if_neg (by rw [isl_iff]; omega)]; rfl
  · rw [if_neg h1, if_pos (by rw [isl_iff]; omega)]; rfl
theorem gAll_alk {wd : List Nat} (g : Good wd) (l : List Nat) : gAll 13 wd l = gAlk wd l := by
  rw [show ((13 : Int)) = ((13 : Nat) : Int) from rfl, gAll_call (p := 13) (by decide) (.inl (by decide)) (c := .alike l) rfl, stOf_good g]
  show (wd, Kqi6Neutral.tell (if Kqi6.right l = false then .num (-22) else .num (if (Kqi6.ways wd).contains l = true then 1 else 0))) = gAlk wd l
  unfold gAlk
  cases h : Kqi6.right l with
  | false => rfl
  | true => rfl
theorem gAll_fst {wd : List Nat} (g : Good wd) : gAll 14 wd [] = gFst wd [] := by
  rw [show ((14 : Int)) = ((14 : Nat) : Int) from rfl, gAll_call (p := 14) (by decide) (.inr rfl) (c := .first) rfl, stOf_good g]; rfl
theorem gAll_wth {wd : List Nat} (g : Good wd) (d c : Nat) : gAll 15 wd [d, c] = gWth wd [d, c] := by
  rw [show ((15 : Int)) = ((15 : Nat) : Int) from rfl, gAll_call (p := 15) (by decide) (.inr rfl) (c := .with_ d c) rfl, stOf_good g]; rfl
theorem gAll_ste {wd : List Nat} (g : Good wd) : gAll 16 wd [] = gSte wd [] := by
  rw [show ((16 : Int)) = ((16 : Nat) : Int) from rfl, gAll_call (p := 16) (by decide) (.inr rfl) (c := .state) rfl, stOf_good g]; rfl
end Ray
end
section
set_option Elab.async false
set_option linter.all false
set_option maxRecDepth 100000
set_option maxHeartbeats 2000000
namespace Ray
open PySem PySem.Spec PyProof.Rows L2
abbrev sAnw : Stmt := topS 44
/-- the table of calls: each has a def that answers as the specification -/
structure CallTab (P : Program) (w : World) (K : PySem.W.Frag) (mg : Str → Option Value) (base : Heap) (C : Addr) (k last : Nat) (aC : Addr) (lC : List (Int × Value)) : Prop where
  gC : mg "CALLS" = some (.ref aC)
  tab : Tab K aC lC
  held : ∀ p : Nat, p ≤ last → ∃ (f : Addr) (pre : List Nat → List Nat → Prop) (g : List Nat → List Nat → List Nat × List Int), lC.lookup (p : Int) = some (.ref f) ∧ HeldAt P w K mg base k f (spC K C pre g) ∧
    ∀ wd ns, Fits (p : Int) ns → (p ≠ 0 → Good wd) → pre wd ns ∧ gAll (p : Int) wd ns = g wd ns
def spAnwL (K : PySem.W.Frag) (C : Addr) (last : Nat) : Sp := fun vs H Q _ => ∃ (a b : Addr) (p : Nat) (wd ns : List Nat), vs = [.ref a, .int (p : Int), .ref b] ∧ p ≤ last ∧ Fits (p : Int) ns ∧ StAt C H a wd ∧ Ok wd ∧ SqL K H b (nI ns) ∧ ns.length < big ∧
  ∀ (H' : Hp) (r : Addr), Frm a H H' → StAt C H' a (gAll (p : Int) wd ns).1 → H' r = some (.lst (iI (gAll (p : Int) wd ns).2)) → Q (.ref r) H'
theorem ok_big {wd : List Nat} (h : Ok wd) : wd.length < big := by
  have : (9 : Nat) < big := by decide
  rcases h with rfl | h
  · show 0 < big; omega
  · have := ((right_iff wd).mp h.1).2.1; omega
section
variable {P : Program} {w : World} {K : PySem.W.Frag} {mg : Str → Option Value} {base : Heap} {C : Addr}
theorem scAnw : FnScope ["stacking", "number", "numbers"] ["stacking", "number", "numbers"] (defScope sAnw) := ⟨rfl, rfl, rfl, by decide +kernel, rfl, by decide +kernel, by decide +kernel⟩
theorem ok_anw {f aC : Addr} {fd : FuncData} {kk last : Nat} {lC : List (Int × Value)} (hlast : last ≤ 16) (F : Fun K "answer" "answer" sAnw f fd) (T : Txt K mg C) (TC : CallTab P w K mg base C kk last aC lC) {t1 t2 : Tok} (mS : mg "START" = some (.int 0 t1)) (mN : mg "NO_WORD" = some (.int (-11) t2)) :
    FnOk P w K mg base CX0 (kk + 1) f fd ["stacking", "number", "numbers"] (spAnwL K C last) := by
  refine F.ok scAnw (fun vs H Q E h => ?_) (fun cdv A outer s H vs Q E hr h => ⟨_, pss_cons (ps_if (PW.pt (pw_and (pt_cmpR op_ne (pv 1) (pe_glob (v := .int 0) rfl mS ⟨_, rfl⟩) (nomark _)) (pw_and1 (pt_cmpR op_eq (pe_callB call_len_seq (by rfl) T.len PySem.boot_len (pa_cons (pe_fld (pv 0) rfl) pa_nil)) pe_int (nomark _)))))
      (pss_one (ps_ret (pe_lst (pa_cons (pe_glob (v := .int (-11)) rfl mN ⟨_, rfl⟩) pa_nil)))) pss_nil)
    (pss_one (ps_ret (pe_callIx hr (pe_ix (ix_tab TC.tab) (pe_glob (v := .ref aC) rfl TC.gC rfl) (pv 1) (fun _ _ => rfl)) (pa_cons (pv 0) (pa_cons (pv 2) pa_nil))))), ?_⟩)
  · obtain ⟨a, b, p, wd, ns, rfl, _⟩ := h
    rfl
  · obtain ⟨a, b, p, wd, ns, rfl, hp, hf, hA, hok, hS, hnl, k⟩ := h
    have hA0 := hA
    obtain ⟨dx, l0, ha, hl0⟩ := hA
    -- the call by the table
    have go : (p ≠ 0 → Good wd) → (tRet (tCallIx P w K mg base kk (tOp (fun x y H Q => ∃ (k : Int) (u0 : Value) (v0 : V), x = .ref aC ∧ y = .int k ∧ lC.lookup k = some u0 ∧ RelV v0 u0 ∧ Q v0 H) (tC (.ref aC)) (tVar 1)) (tCons (tVar 0) (tCons (tVar 2) tNil))))
        { nx := fun _ H' => Q .non H', rt := Q } [some (.ref a), some (.int (p : Int)), some (.ref b)] H := by
      intro hgd
      obtain ⟨fp, pre, g, h1, h2, h3⟩ := TC.held p hp
      obtain ⟨h4, h5⟩ := h3 wd ns hf hgd
      refine ⟨_, rfl, (p : Int), _, .ref fp, rfl, rfl, h1, rfl, fp, _, rfl, h2, _, rfl, _, rfl, ?_⟩
      refine ⟨a, b, wd, ns, rfl, hA0, hS, ok_big hok, hnl, h4, fun H' r hF hSt hr => ?_⟩
      rw [h5] at k
      exact k H' r hF hSt hr
    refine ⟨_, rfl, rfl, _, rfl, ?_⟩
    by_cases h0 : p = 0
    · refine no_of (by rw [int_eq (by omega)]; rfl) ?_
      exact go fun h => absurd h0 h
    · refine yes_of (by rw [int_ne (by omega)]; rfl) ?_
      refine ⟨_, rfl, a, C, dx, _, _, rfl, ha, T.cl, T.nW, lk_word, l0, _, rfl, .inl (SqL.of hl0), rfl, _, rfl, ?_⟩
      rw [nI_length]
      by_cases hw : wd = []
      · subst hw
        refine yes_of (int_eq rfl) ?_
        rw [gAll_none (by omega) h0 hf] at k
        refine ⟨(by show 1 ≤ sizeLine; decide), fun r nr => ?_⟩
        exact k _ r (hA0.frm (same_new (.refl H) nr)) (hA0.same (same_new (.refl H) nr)) upd_same
      · have hgd : Good wd := hok.resolve_left hw
        refine no_of (int_ne ?_) ?_
        · have := ((right_iff wd).mp hgd.1).1
          omega
        exact go fun _ => hgd
end
end Ray
end
section
set_option Elab.async false
set_option linter.all false
set_option maxRecDepth 100000
set_option maxHeartbeats 2000000
namespace Ray
open PySem PySem.Spec PyProof.Rows L2
/-! ### what the top has written -/
/-- a def of the top as it stands in the written part -/
structure DefAt (K : PySem.W.Frag) (x : Str) (st : Stmt) (f : Addr) : Prop where
  ns : PySem.W.nsIn K mainGlobals x = some (some (.ref f))
  ex : ∃ fd : FuncData, Fun K x x st f fd
theorem defAt_mk {K : PySem.W.Frag} {x : Str} {st : Stmt} {f : Addr} {oc : Value} {od an : Option Addr} {osl : Array (Option Value)} {kV doc pm cdv ct : Value} (a : PySem.W.nsIn K mainGlobals x = some (some (.ref f)))
    (l : K.lookup f = some ⟨oc, od, .func (PySem.W.fnOf x x (defArgs st) (defBody st) (defScope st) .none kV doc pm an cdv ct), osl⟩) (c : PySem.W.codeIn K cdv x = true) (k : PySem.W.keepIn K (.ref f) = true) : DefAt K x st f :=
  ⟨a, _, fun_mk (st := st) l c k⟩
theorem DefAt.has {P : Program} {w : World} {K : PySem.W.Frag} {mg : Str → Option Value} {base h : Heap} {x : Str} {st : Stmt} {f : Addr} {k : Nat} {ps : List Str} {sp : Sp} (D : DefAt K x st f) (X : K.In h) (G : h.Ns mainGlobals mg)
    (hb : ∀ (kV doc pm : Value) (an : Option Addr) (cdv ct : Value) (us : List Value), us.length = ps.length → bindArgs (PySem.W.fnOf x x (defArgs st) (defBody st) (defScope st) .none kV doc pm an cdv ct) ⟨us, []⟩ = pure (ps.zip us))
    (ok : ∀ (fd : FuncData), Fun K x x st f fd → FnOk P w K mg base CX0 k f fd ps sp) : Has P w K mg base x k ps sp := by
  obtain ⟨fd, F⟩ := D.ex
  exact ⟨f, fd, PySem.W.mg_of X G D.ns, ok fd F, F.kp, F.binds hb⟩
theorem FnOk.mono {P : Program} {w : World} {K : PySem.W.Frag} {mg : Str → Option Value} {base : Heap} {CX : CXT} {j k : Nat} {f : Addr} {fd : FuncData} {ps : List Str} {sp : Sp} (F : FnOk P w K mg base CX j f fd ps sp) (h : j ≤ k) : FnOk P w K mg base CX k f fd ps sp :=
  ⟨F.len, fun A outer s H us vs ws Q E hr => F.run A outer s H us vs ws Q E (hr.mono h)⟩
theorem DefAt.held {P : Program} {w : World} {K : PySem.W.Frag} {mg : Str → Option Value} {base : Heap} {x : Str} {st : Stmt} {f : Addr} {j k : Nat} {ps : List Str} {sp : Sp} (D : DefAt K x st f)
    (hb : ∀ (kV doc pm : Value) (an : Option Addr) (cdv ct : Value) (us : List Value), us.length = ps.length → bindArgs (PySem.W.fnOf x x (defArgs st) (defBody st) (defScope st) .none kV doc pm an cdv ct) ⟨us, []⟩ = pure (ps.zip us))
    (hj : j ≤ k) (ok : ∀ (fd : FuncData), Fun K x x st f fd → FnOk P w K mg base CX0 j f fd ps sp) : HeldAt P w K mg base k f sp := by
  obtain ⟨fd, F⟩ := D.ex
  exact ⟨fd, ps, F.kp, F.binds hb, (ok fd F).mono hj⟩
/-! ### the table of plain numbers -/
def plainL (w1 w2 w3 w4 w5 w6 : Tok) : List (Int × Value) := [(1, .int 2 w1), (2, .int 1 w2), (3, .int 1 w3), (11, .int 1 w4), (12, .int 1 w5), (15, .int 2 w6)]
theorem plain_cases (w1 w2 w3 w4 w5 w6 : Tok) (k : Int) : ((plainL w1 w2 w3 w4 w5 w6).lookup k = none ∧ plain k = 0) ∨ ∃ u, (plainL w1 w2 w3 w4 w5 w6).lookup k = some u ∧ RelV (.int (plain k : Nat)) u := by
  unfold plainL
  by_cases h1 : k = 1
  · subst h1; exact .inr ⟨_, rfl, _, rfl⟩
  have e1 : (k == (1 : Int)) = false := beq_false_of_ne h1
  by_cases h2 : k = 2
  · subst h2; exact .inr ⟨_, rfl, _, rfl⟩
  have e2 : (k == (2 : Int)) = false := beq_false_of_ne h2
  by_cases h3 : k = 3
  · subst h3; exact .inr ⟨_, rfl, _, rfl⟩
  have e3 : (k == (3 : Int)) = false := beq_false_of_ne h3
  by_cases h11 : k = 11
  · subst h11; exact .inr ⟨_, rfl, _, rfl⟩
  have e11 : (k == (11 : Int)) = false := beq_false_of_ne h11
  by_cases h12 : k = 12
  · subst h12; exact .inr ⟨_, rfl, _, rfl⟩
  have e12 : (k == (12 : Int)) = false := beq_false_of_ne h12
  by_cases h15 : k = 15
  · subst h15; exact .inr ⟨_, rfl, _, rfl⟩
  have e15 : (k == (15 : Int)) = false := beq_false_of_ne h15
  left
  refine ⟨?_, ?_⟩
  · simp only [List.lookup, e1, e2, e3, e11, e12, e15]
  · unfold plain
    rw [if_neg h1, if_neg h2, if_neg h3, if_neg h11, if_neg h12, if_neg h15]
theorem plain_none {w1 w2 w3 w4 w5 w6 : Tok} {k : Int} (h : (plainL w1 w2 w3 w4 w5 w6).lookup k = none) : plain k = 0 := by
  rcases plain_cases w1 w2 w3 w4 w5 w6 k with ⟨_, e⟩ | ⟨u, e, _⟩
  · exact e
  · rw [h] at e; cases e
theorem plain_some {w1 w2 w3 w4 w5 w6 : Tok} {k : Int} {u : Value} (h : (plainL w1 w2 w3 w4 w5 w6).lookup k = some u) : RelV (.int (plain k : Nat)) u := by
  rcases plain_cases w1 w2 w3 w4 w5 w6 k with ⟨e, _⟩ | ⟨u', e, r⟩
  · rw [h] at e; cases e
  · rw [h] at e; cases e; exact r
def callL (fSta fExc fLat fPrs fTbl fLyi fTot fNea fSam fDif fFnd fKin fTbs fAlk fFst fWth fSte : Addr) : List (Int × Value) := [(0, .ref fSta), (1, .ref fExc), (2, .ref fLat), (3, .ref fPrs), (4, .ref fTbl), (5, .ref fLyi), (6, .ref fTot), (7, .ref fNea), (8, .ref fSam), (9, .ref fDif), (10, .ref fFnd), (11, .ref fKin), (12, .ref fTbs), (13, .ref fAlk), (14, .ref fFst), (15, .ref fWth), (16, .ref fSte)]
theorem all_mk {P : Program} {w : World} {K : PySem.W.Frag} {h : Heap} {mg : Str → Option Value} {fa C fI aR aP aC : Addr} {fPos fClo fOnl fIsl fIsw fRef fRfb fCwd fBgn fHld fNms fFnm fPai fTab fWit fEnd fNum fAnw fSta fExc fLat fPrs fTbl fLyi fTot fNea fSam fDif fFnd fKin fTbs fAlk fFst fWth fSte : Addr} (X : K.In h) (G : h.Ns mainGlobals mg) (hfa : mg "answers" = some (.ref fa))
    {od1 an1 od3 an3 : Option Addr} {sl1 sl3 : Array (Option Value)} {oc1 kV1 dc1 pm1 cd1 ct1 oc3 kV3 dc3 pm3 cd3 ct3 : Value} {f3 : Addr}
    (dPos : DefAt K "positions" sPos fPos)
    (dClo : DefAt K "closes" sClo fClo)
    (dOnl : DefAt K "only_steps" sOnl fOnl)
    (dIsl : DefAt K "is_length" sIsl fIsl)
    (dIsw : DefAt K "is_word" sIsw fIsw)
    (dRef : DefAt K "refusal" sRef fRef)
    (dRfb : DefAt K "refusal_beside" sRfb fRfb)
    (dCwd : DefAt K "closing_words" sCwd fCwd)
    (dBgn : DefAt K "begun_later" sBgn fBgn)
    (dHld : DefAt K "held" sHld fHld)
    (dNms : DefAt K "names_of" sNms fNms)
    (dFnm : DefAt K "first_name" sFnm fFnm)
    (dPai : DefAt K "pairs_apart" sPai fPai)
    (dTab : DefAt K "table_of" sTab fTab)
    (dWit : DefAt K "with_length" sWit fWit)
    (dEnd : DefAt K "end_of_call" sEnd fEnd)
    (dNum : DefAt K "numbers_of_call" sNum fNum)
    (dAnw : DefAt K "answer" sAnw fAnw)
    (dSta : DefAt K "start" sSta fSta)
    (dExc : DefAt K "exchange" sExc fExc)
    (dLat : DefAt K "later" sLat fLat)
    (dPrs : DefAt K "pairs" sPrs fPrs)
    (dTbl : DefAt K "table" sTbl fTbl)
    (dLyi : DefAt K "lying" sLyi fLyi)
    (dTot : DefAt K "total" sTot fTot)
    (dNea : DefAt K "near" sNea fNea)
    (dSam : DefAt K "same" sSam fSam)
    (dDif : DefAt K "differ" sDif fDif)
    (dFnd : DefAt K "find" sFnd fFnd)
    (dKin : DefAt K "kinds" sKin fKin)
    (dTbs : DefAt K "tables" sTbs fTbs)
    (dAlk : DefAt K "alike" sAlk fAlk)
    (dFst : DefAt K "first" sFst fFst)
    (dWth : DefAt K "with_pairs" sWth fWth)
    (dSte : DefAt K "state" sSte fSte)
    (aCl : PySem.W.nsIn K mainGlobals "Stacking" = some (some (.ref C)))
    (a1 : PySem.W.findIn K (.ref C) "__init__" = some (some (.ref fI))) (i1 : PySem.W.isFn K (.ref fI) = true) (l1 : K.lookup fI = some ⟨oc1, od1, .func (PySem.W.fnOf "__init__" "Stacking.__init__" (defArgs sIni) (defBody sIni) (defScope sIni) .none kV1 dc1 pm1 an1 cd1 ct1), sl1⟩) (c1 : PySem.W.codeIn K cd1 "Stacking.__init__" = true) (k1 : PySem.W.keepIn K (.ref fI) = true)
    (a3 : PySem.W.nsIn K mainGlobals "answers" = some (some (.ref f3))) (l3 : K.lookup f3 = some ⟨oc3, od3, .func (PySem.W.fnOf "answers" "answers" (defArgs sAll) (defBody sAll) (defScope sAll) .none kV3 dc3 pm3 an3 cd3 ct3), sl3⟩) (c3 : PySem.W.codeIn K cd3 "answers" = true) (k3 : PySem.W.keepIn K (.ref f3) = true)
    (pg : PySem.W.plainGet K C Str.empty = true) (hd : PySem.W.hasDictIn K C = true) (po : PySem.W.plainOver K C = true) (sa : PySem.W.findIn K (.ref C) "__setattr__" = some (some (.builtin "object.__setattr__"))) (mk : PySem.W.makesIn K C = true) (kc : PySem.W.keepIn K (.ref C) = true)
    (nW : PySem.W.findIn K (.ref C) "word" = some none)
    (zlen : PySem.W.nsIn K mainGlobals "len" = some none)
    (zrange : PySem.W.nsIn K mainGlobals "range" = some none)
    (zlist : PySem.W.nsIn K mainGlobals "list" = some none)
    (zsum : PySem.W.nsIn K mainGlobals "sum" = some none)
    (zall : PySem.W.nsIn K mainGlobals "all" = some none)
    (zreversed : PySem.W.nsIn K mainGlobals "reversed" = some none)
    (zmin : PySem.W.nsIn K mainGlobals "min" = some none)
    (zenumerate : PySem.W.nsIn K mainGlobals "enumerate" = some none)
    (zset : PySem.W.nsIn K mainGlobals "set" = some none)
    (ztuple : PySem.W.nsIn K mainGlobals "tuple" = some none)
    {tMOST_STEPS tNO_STEP tSAME_TABLE tNO_WORD tWRONG_NUMBERS tNO_CLOSING_WORD tSTART : Tok}
    (yMOST_STEPS : PySem.W.nsIn K mainGlobals "MOST_STEPS" = some (some (.int 8 tMOST_STEPS)))
    (yNO_STEP : PySem.W.nsIn K mainGlobals "NO_STEP" = some (some (.int (-2) tNO_STEP)))
    (ySAME_TABLE : PySem.W.nsIn K mainGlobals "SAME_TABLE" = some (some (.int (-6) tSAME_TABLE)))
    (yNO_WORD : PySem.W.nsIn K mainGlobals "NO_WORD" = some (some (.int (-11) tNO_WORD)))
    (yWRONG_NUMBERS : PySem.W.nsIn K mainGlobals "WRONG_NUMBERS" = some (some (.int (-22) tWRONG_NUMBERS)))
    (yNO_CLOSING_WORD : PySem.W.nsIn K mainGlobals "NO_CLOSING_WORD" = some (some (.int (-33) tNO_CLOSING_WORD)))
    (ySTART : PySem.W.nsIn K mainGlobals "START" = some (some (.int 0 tSTART)))
    (aRow : PySem.W.nsIn K mainGlobals "ROW_CALLS" = some (some (.ref aR))) {ddR : Option Addr} {slR : Array (Option Value)} {nR : Nat} {u0 u1 u2 u3 u4 : Tok} (lR : K.lookup aR = some ⟨.type "tuple", ddR, .seq #[.int 0 u0, .int 8 u1, .int 9 u2, .int 10 u3, .int 13 u4] nR, slR⟩)
    (aPla : PySem.W.nsIn K mainGlobals "PLAIN_NUMBERS" = some (some (.ref aP))) {esP : Array DictEntry} {nP : Nat} {w1 w2 w3 w4 w5 w6 : Tok} (lP : K.lookup aP = some ⟨.type "dict", none, .dict esP nP, #[]⟩)
    (tP : tabIn esP.toList = some (plainL w1 w2 w3 w4 w5 w6)) (loP : (aP == sysModules) = false)
    (aCal : PySem.W.nsIn K mainGlobals "CALLS" = some (some (.ref aC))) {esC : Array DictEntry} {nC : Nat} (lC : K.lookup aC = some ⟨.type "dict", none, .dict esC nC, #[]⟩)
    (tC : tabIn esC.toList = some (callL fSta fExc fLat fPrs fTbl fLyi fTot fNea fSam fDif fFnd fKin fTbs fAlk fFst fWth fSte)) (loC : (aC == sysModules) = false) :
    ∃ fd : FuncData, (∀ (s : Shared) (us : List Value), us.length = (["calls"] : List Str).length → BindsTo s fd ⟨us, []⟩ ((["calls"] : List Str).zip us)) ∧ ∀ base : Heap, K.In base → base.Ns mainGlobals mg → FnOk P w K mg base CX0 7 fa fd ["calls"] (spAns K) := by
  have e := hfa.symm.trans (PySem.W.mg_of X G a3)
  cases e
  have T : Txt K mg C := ⟨⟨pg, hd, po, sa⟩, nW, PySem.W.mg_of X G aCl, PySem.W.mg_none_of X G zlen, PySem.W.mg_none_of X G zrange, PySem.W.mg_none_of X G zlist, PySem.W.mg_none_of X G zsum, PySem.W.mg_none_of X G zall⟩
  have F1 := fun_mk (st := sIni) l1 c1 k1
  have F3 := fun_mk (st := sAll) l3 c3 k3
  have b1 := F1.binds (ps := ["self"]) fun _ _ _ _ _ _ us hl => match us, hl with | [_], _ => rfl
  have TT : Tabs K mg aR aP (plainL w1 w2 w3 w4 w5 w6) := by
    refine ⟨PySem.W.mg_of X G aRow, PySem.W.mg_of X G aPla, fun H => .inr ⟨_, _, _, lR, rfl, rfl, (by show 5 ≤ sizeLine; decide), ?_⟩, ⟨⟨esP, nP, lP, tP⟩, loP⟩, ?_, ?_⟩
    · exact .cons ⟨_, rfl⟩ (.cons ⟨_, rfl⟩ (.cons ⟨_, rfl⟩ (.cons ⟨_, rfl⟩ (.cons ⟨_, rfl⟩ .nil))))
    · exact fun k h => plain_none h
    · exact fun k u h => plain_some h
  refine ⟨PySem.W.fnOf "answers" "answers" (defArgs sAll) (defBody sAll) (defScope sAll) .none kV3 dc3 pm3 an3 cd3 ct3, fun s us hu => match us, hu with | [_], _ => .of_eq rfl, fun base _ _ => ?_⟩
  have hPos : Has P w K mg base "positions" 1 ["word"] (spPos K) := dPos.has X G (fun _ _ _ _ _ _ us hl => match us, hl with | [_], _ => rfl) fun fd F => ok_pos F
  have hClo : Has P w K mg base "closes" 2 ["word"] (spClo K) := dClo.has X G (fun _ _ _ _ _ _ us hl => match us, hl with | [_], _ => rfl) fun fd F => ok_clo F hPos T.len
  have hOnl : Has P w K mg base "only_steps" 1 ["numbers"] (spOnl K) := dOnl.has X G (fun _ _ _ _ _ _ us hl => match us, hl with | [_], _ => rfl) fun fd F => ok_onl F T.all
  have hIsl : Has P w K mg base "is_length" 1 ["number"] (spIsl) := dIsl.has X G (fun _ _ _ _ _ _ us hl => match us, hl with | [_], _ => rfl) fun fd F => ok_isl F (PySem.W.mg_of X G yMOST_STEPS)
  have hIsw : Has P w K mg base "is_word" 2 ["numbers"] (spIsw K) := dIsw.has X G (fun _ _ _ _ _ _ us hl => match us, hl with | [_], _ => rfl) fun fd F => ok_isw F hOnl hIsl T.len
  have hRef : Has P w K mg base "refusal" 3 ["numbers"] (spRef K) := dRef.has X G (fun _ _ _ _ _ _ us hl => match us, hl with | [_], _ => rfl) fun fd F => ok_ref F hIsw hClo (PySem.W.mg_of X G yWRONG_NUMBERS) (PySem.W.mg_of X G yNO_CLOSING_WORD)
  have hRfb : Has P w K mg base "refusal_beside" 4 ["word", "numbers"] (spRfb K) := dRfb.has X G (fun _ _ _ _ _ _ us hl => match us, hl with | [_, _], _ => rfl) fun fd F => ok_rfb F hRef T.len (PySem.W.mg_of X G yWRONG_NUMBERS)
  have hCwd : Has P w K mg base "closing_words" 3 ["steps"] (spCwd) := dCwd.has X G (fun _ _ _ _ _ _ us hl => match us, hl with | [_], _ => rfl) fun fd F => ok_cwd F hClo T.len
  have hBgn : Has P w K mg base "begun_later" 1 ["word", "steps"] (spBgn K) := dBgn.has X G (fun _ _ _ _ _ _ us hl => match us, hl with | [_, _], _ => rfl) fun fd F => ok_bgn F
  have hHld : Has P w K mg base "held" 2 ["word", "way"] (spHld K) := dHld.has X G (fun _ _ _ _ _ _ us hl => match us, hl with | [_, _], _ => rfl) fun fd F => ok_hld F hBgn T.len T.list (PySem.W.mg_none_of X G zreversed)
  have hNms : Has P w K mg base "names_of" 3 ["word"] (spNms K) := dNms.has X G (fun _ _ _ _ _ _ us hl => match us, hl with | [_], _ => rfl) fun fd F => ok_nms F hHld T.len T.range
  have hFnm : Has P w K mg base "first_name" 4 ["word"] (spFnm K) := dFnm.has X G (fun _ _ _ _ _ _ us hl => match us, hl with | [_], _ => rfl) fun fd F => ok_fnm F hNms (PySem.W.mg_none_of X G zmin)
  have hPai : Has P w K mg base "pairs_apart" 2 ["word", "apart"] (spPai K) := dPai.has X G (fun _ _ _ _ _ _ us hl => match us, hl with | [_, _], _ => rfl) fun fd F => ok_pai F hPos T.len T.range
  have hTab : Has P w K mg base "table_of" 3 ["word"] (spTab K) := dTab.has X G (fun _ _ _ _ _ _ us hl => match us, hl with | [_], _ => rfl) fun fd F => ok_tab F hPai T.len T.range
  have hWit : Has P w K mg base "with_length" 1 ["row"] (spWit K) := dWit.has X G (fun _ _ _ _ _ _ us hl => match us, hl with | [_], _ => rfl) fun fd F => ok_wit F T.len
  have hEnd : Has P w K mg base "end_of_call" 1 ["calls", "begin"] (spEnd K) := dEnd.has X G (fun _ _ _ _ _ _ us hl => match us, hl with | [_, _], _ => rfl) fun fd F => ok_end F TT
  have hNum : Has P w K mg base "numbers_of_call" 2 ["calls", "begin"] (spNum K) := dNum.has X G (fun _ _ _ _ _ _ us hl => match us, hl with | [_, _], _ => rfl) fun fd F => ok_num F TT hEnd
  have TC : CallTab P w K mg base C 5 16 aC (callL fSta fExc fLat fPrs fTbl fLyi fTot fNea fSam fDif fFnd fKin fTbs fAlk fFst fWth fSte) := by
    refine ⟨PySem.W.mg_of X G aCal, ⟨⟨esC, nC, lC, tC⟩, loC⟩, fun p hp => ?_⟩
    rcases (show p = 0 ∨ p = 1 ∨ p = 2 ∨ p = 3 ∨ p = 4 ∨ p = 5 ∨ p = 6 ∨ p = 7 ∨ p = 8 ∨ p = 9 ∨ p = 10 ∨ p = 11 ∨ p = 12 ∨ p = 13 ∨ p = 14 ∨ p = 15 ∨ p = 16 by omega) with rfl | rfl | rfl | rfl | rfl | rfl | rfl | rfl | rfl | rfl | rfl | rfl | rfl | rfl | rfl | rfl | rfl
    · exact ⟨fSta, (fun _ _ => True), gSta, rfl, dSta.held (ps := ["stacking", "numbers"]) (fun _ _ _ _ _ _ us hl => match us, hl with | [_, _], _ => rfl) (j := 4) (by decide) (fun fd F => ok_sta F T hRef), fun wd ns hf hg => ⟨trivial, gAll_sta wd ns⟩⟩
    · exact ⟨fExc, (fun _ ns => ∃ i j, ns = [i, j]), gExc, rfl, dExc.held (ps := ["stacking", "numbers"]) (fun _ _ _ _ _ _ us hl => match us, hl with | [_, _], _ => rfl) (j := 2) (by decide) (fun fd F => ok_exc F T hWit (PySem.W.mg_of X G yNO_STEP)), fun wd ns hf hg => by obtain ⟨i, j, rfl⟩ := len2 (hf.resolve_left (by decide)); exact ⟨⟨i, j, rfl⟩, gAll_exc (hg (by decide)) i j⟩⟩
    · exact ⟨fLat, (fun _ ns => ∃ i, ns = [i]), gLat, rfl, dLat.held (ps := ["stacking", "numbers"]) (fun _ _ _ _ _ _ us hl => match us, hl with | [_, _], _ => rfl) (j := 2) (by decide) (fun fd F => ok_lat F T hWit hBgn (PySem.W.mg_of X G yWRONG_NUMBERS)), fun wd ns hf hg => by obtain ⟨i, rfl⟩ := len1 (hf.resolve_left (by decide)); exact ⟨⟨i, rfl⟩, gAll_lat (hg (by decide)) i⟩⟩
    · exact ⟨fPrs, (fun wd ns => Good wd ∧ ∃ i, ns = [i]), gPrs, rfl, dPrs.held (ps := ["stacking", "numbers"]) (fun _ _ _ _ _ _ us hl => match us, hl with | [_, _], _ => rfl) (j := 3) (by decide) (fun fd F => ok_prs F T hPai), fun wd ns hf hg => by obtain ⟨i, rfl⟩ := len1 (hf.resolve_left (by decide)); exact ⟨⟨hg (by decide), i, rfl⟩, gAll_prs (hg (by decide)) i⟩⟩
    · exact ⟨fTbl, (fun wd ns => Good wd), gTbl, rfl, dTbl.held (ps := ["stacking", "numbers"]) (fun _ _ _ _ _ _ us hl => match us, hl with | [_, _], _ => rfl) (j := 4) (by decide) (fun fd F => ok_tbl F T hWit hTab), fun wd ns hf hg => by obtain rfl := len0 (hf.resolve_left (by decide)); exact ⟨hg (by decide), gAll_tbl (hg (by decide))⟩⟩
    · exact ⟨fLyi, (fun wd ns => Good wd), gLyi, rfl, dLyi.held (ps := ["stacking", "numbers"]) (fun _ _ _ _ _ _ us hl => match us, hl with | [_, _], _ => rfl) (j := 2) (by decide) (fun fd F => ok_lyi F T hWit hPos), fun wd ns hf hg => by obtain rfl := len0 (hf.resolve_left (by decide)); exact ⟨hg (by decide), gAll_lyi (hg (by decide))⟩⟩
    · exact ⟨fTot, (fun wd ns => Good wd), gTot, rfl, dTot.held (ps := ["stacking", "numbers"]) (fun _ _ _ _ _ _ us hl => match us, hl with | [_, _], _ => rfl) (j := 4) (by decide) (fun fd F => ok_tot F T hTab), fun wd ns hf hg => by obtain rfl := len0 (hf.resolve_left (by decide)); exact ⟨hg (by decide), gAll_tot (hg (by decide))⟩⟩
    · exact ⟨fNea, (fun wd ns => Good wd), gNea, rfl, dNea.held (ps := ["stacking", "numbers"]) (fun _ _ _ _ _ _ us hl => match us, hl with | [_, _], _ => rfl) (j := 3) (by decide) (fun fd F => ok_nea F T hPai), fun wd ns hf hg => by obtain rfl := len0 (hf.resolve_left (by decide)); exact ⟨hg (by decide), gAll_nea (hg (by decide))⟩⟩
    · exact ⟨fSam, (fun wd ns => Good wd), gSam, rfl, dSam.held (ps := ["stacking", "numbers"]) (fun _ _ _ _ _ _ us hl => match us, hl with | [_, _], _ => rfl) (j := 5) (by decide) (fun fd F => ok_sam F T hRfb hTab), fun wd ns hf hg => ⟨hg (by decide), gAll_sam (hg (by decide)) ns⟩⟩
    · exact ⟨fDif, (fun wd ns => Good wd), gDif, rfl, dDif.held (ps := ["stacking", "numbers"]) (fun _ _ _ _ _ _ us hl => match us, hl with | [_, _], _ => rfl) (j := 5) (by decide) (fun fd F => ok_dif F T (PySem.W.mg_none_of X G zenumerate) hRfb hTab (PySem.W.mg_of X G ySAME_TABLE)), fun wd ns hf hg => ⟨hg (by decide), gAll_dif (hg (by decide)) ns⟩⟩
    · exact ⟨fFnd, (fun wd ns => Good wd), gFnd, rfl, dFnd.held (ps := ["stacking", "numbers"]) (fun _ _ _ _ _ _ us hl => match us, hl with | [_, _], _ => rfl) (j := 4) (by decide) (fun fd F => ok_fnd F T hIsl hCwd hTab hWit (PySem.W.mg_of X G yWRONG_NUMBERS) (PySem.W.mg_of X G yNO_CLOSING_WORD)), fun wd ns hf hg => ⟨hg (by decide), gAll_fnd (hg (by decide)) ns⟩⟩
    · exact ⟨fKin, (fun wd ns => Good wd ∧ ∃ n, ns = [n]), gKin, rfl, dKin.held (ps := ["stacking", "numbers"]) (fun _ _ _ _ _ _ us hl => match us, hl with | [_, _], _ => rfl) (j := 5) (by decide) (fun fd F => ok_kin F T (PySem.W.mg_none_of X G zset) (PySem.W.mg_none_of X G ztuple) hIsl hCwd hFnm (PySem.W.mg_of X G yWRONG_NUMBERS)), fun wd ns hf hg => by obtain ⟨i, rfl⟩ := len1 (hf.resolve_left (by decide)); exact ⟨⟨hg (by decide), i, rfl⟩, gAll_kin (hg (by decide)) i⟩⟩
    · exact ⟨fTbs, (fun wd ns => Good wd ∧ ∃ n, ns = [n]), gTbs, rfl, dTbs.held (ps := ["stacking", "numbers"]) (fun _ _ _ _ _ _ us hl => match us, hl with | [_, _], _ => rfl) (j := 4) (by decide) (fun fd F => ok_tbs F T (PySem.W.mg_none_of X G zset) (PySem.W.mg_none_of X G ztuple) hIsl hCwd hTab (PySem.W.mg_of X G yWRONG_NUMBERS)), fun wd ns hf hg => by obtain ⟨i, rfl⟩ := len1 (hf.resolve_left (by decide)); exact ⟨⟨hg (by decide), i, rfl⟩, gAll_tbs (hg (by decide)) i⟩⟩
    · exact ⟨fAlk, (fun wd ns => Good wd), gAlk, rfl, dAlk.held (ps := ["stacking", "numbers"]) (fun _ _ _ _ _ _ us hl => match us, hl with | [_, _], _ => rfl) (j := 4) (by decide) (fun fd F => ok_alk F T hIsw hNms (PySem.W.mg_of X G yWRONG_NUMBERS)), fun wd ns hf hg => ⟨hg (by decide), gAll_alk (hg (by decide)) ns⟩⟩
    · exact ⟨fFst, (fun wd ns => Good wd), gFst, rfl, dFst.held (ps := ["stacking", "numbers"]) (fun _ _ _ _ _ _ us hl => match us, hl with | [_, _], _ => rfl) (j := 5) (by decide) (fun fd F => ok_fst F T hWit hFnm), fun wd ns hf hg => by obtain rfl := len0 (hf.resolve_left (by decide)); exact ⟨hg (by decide), gAll_fst (hg (by decide))⟩⟩
    · exact ⟨fWth, (fun wd ns => Good wd ∧ ∃ d c, ns = [d, c]), gWth, rfl, dWth.held (ps := ["stacking", "numbers"]) (fun _ _ _ _ _ _ us hl => match us, hl with | [_, _], _ => rfl) (j := 4) (by decide) (fun fd F => ok_wth F T hCwd hPai), fun wd ns hf hg => by obtain ⟨i, j, rfl⟩ := len2 (hf.resolve_left (by decide)); exact ⟨⟨hg (by decide), i, j, rfl⟩, gAll_wth (hg (by decide)) i j⟩⟩
    · exact ⟨fSte, (fun wd ns => Good wd), gSte, rfl, dSte.held (ps := ["stacking", "numbers"]) (fun _ _ _ _ _ _ us hl => match us, hl with | [_, _], _ => rfl) (j := 2) (by decide) (fun fd F => ok_ste F T hWit), fun wd ns hf hg => by obtain rfl := len0 (hf.resolve_left (by decide)); exact ⟨hg (by decide), gAll_ste (hg (by decide))⟩⟩
  have hAnw : Has P w K mg base "answer" 6 ["stacking", "number", "numbers"] (spAnwL K C 16) := dAnw.has X G (fun _ _ _ _ _ _ us hl => match us, hl with | [_, _, _], _ => rfl) fun fd F => ok_anw (by decide) F T TC (PySem.W.mg_of X G ySTART) (PySem.W.mg_of X G yNO_WORD)
  exact ok_ans (by decide) F3 T ⟨mk, a1, i1, kc⟩ (ok_ini F1 T) b1 hAnw hWit hNum hEnd
end Ray
end
set_option Elab.async false
set_option maxRecDepth 100000
set_option maxHeartbeats 2000000
open PySem PySem.W PyProof.Rows
set_option maxRecDepth 100000 in
set_option maxHeartbeats 8000000 in
theorem PySem.Challenge.cw_raylayers_s01_answers_holds : PySem.Challenge.rw_raylayers_s01_answers.Holds := by
  w_on; k_headS; (case hw => exact ⟨[.list [.int 4]], by decide +kernel, by decide +kernel⟩)
  k_fillS
  refine L2.walk_specK (r := PySem.Challenge.rw_raylayers_s01_answers) (k := 7) (CX := L2.CX0) (ps := ["calls"]) (sp := Ray.spAns) (by decide +kernel) rfl rfl ⟨rfl, by decide, by decide⟩ (fun w h Y => PySem.W.kIn_of Y) ?F ?S (fun _ _ _ _ z => z)
  case F =>
    intro w mg fa h Y KX G hmg
    refine' Ray.all_mk KX G hmg ?dPos ?dClo ?dOnl ?dIsl ?dIsw ?dRef ?dRfb ?dCwd ?dBgn ?dHld ?dNms ?dFnm ?dPai ?dTab ?dWit ?dEnd ?dNum ?dAnw ?dSta ?dExc ?dLat ?dPrs ?dTbl ?dLyi ?dTot ?dNea ?dSam ?dDif ?dFnd ?dKin ?dTbs ?dAlk ?dFst ?dWth ?dSte ?aCl ?a1 ?i1 ?l1 ?c1 ?k1 ?a3 ?l3 ?c3 ?k3 ?pg ?hd ?po ?sa ?mk ?kc ?nW ?zlen ?zrange ?zlist ?zsum ?zall ?zreversed ?zmin ?zenumerate ?zset ?ztuple ?yMOST_STEPS ?yNO_STEP ?ySAME_TABLE ?yNO_WORD ?yWRONG_NUMBERS ?yNO_CLOSING_WORD ?ySTART ?aRow ?lR ?aPla ?lP ?tP ?loP ?aCal ?lC ?tC ?loC
    (case dPos => (refine' Ray.defAt_mk ?dPosa ?dPosl ?dPosc ?dPosk; (case dPosa => k_is); (case dPosl => k_is); (case dPosc => k_is); (case dPosk => k_is)))
    (case dClo => (refine' Ray.defAt_mk ?dCloa ?dClol ?dCloc ?dClok; (case dCloa => k_is); (case dClol => k_is); (case dCloc => k_is); (case dClok => k_is)))
    (case dOnl => (refine' Ray.defAt_mk ?dOnla ?dOnll ?dOnlc ?dOnlk; (case dOnla => k_is); (case dOnll => k_is); (case dOnlc => k_is); (case dOnlk => k_is)))
    (case dIsl => (refine' Ray.defAt_mk ?dIsla ?dIsll ?dIslc ?dIslk; (case dIsla => k_is); (case dIsll => k_is); (case dIslc => k_is); (case dIslk => k_is)))
    (case dIsw => (refine' Ray.defAt_mk ?dIswa ?dIswl ?dIswc ?dIswk; (case dIswa => k_is); (case dIswl => k_is); (case dIswc => k_is); (case dIswk => k_is)))
    (case dRef => (refine' Ray.defAt_mk ?dRefa ?dRefl ?dRefc ?dRefk; (case dRefa => k_is); (case dRefl => k_is); (case dRefc => k_is); (case dRefk => k_is)))
    (case dRfb => (refine' Ray.defAt_mk ?dRfba ?dRfbl ?dRfbc ?dRfbk; (case dRfba => k_is); (case dRfbl => k_is); (case dRfbc => k_is); (case dRfbk => k_is)))
    (case dCwd => (refine' Ray.defAt_mk ?dCwda ?dCwdl ?dCwdc ?dCwdk; (case dCwda => k_is); (case dCwdl => k_is); (case dCwdc => k_is); (case dCwdk => k_is)))
    (case dBgn => (refine' Ray.defAt_mk ?dBgna ?dBgnl ?dBgnc ?dBgnk; (case dBgna => k_is); (case dBgnl => k_is); (case dBgnc => k_is); (case dBgnk => k_is)))
    (case dHld => (refine' Ray.defAt_mk ?dHlda ?dHldl ?dHldc ?dHldk; (case dHlda => k_is); (case dHldl => k_is); (case dHldc => k_is); (case dHldk => k_is)))
    (case dNms => (refine' Ray.defAt_mk ?dNmsa ?dNmsl ?dNmsc ?dNmsk; (case dNmsa => k_is); (case dNmsl => k_is); (case dNmsc => k_is); (case dNmsk => k_is)))
    (case dFnm => (refine' Ray.defAt_mk ?dFnma ?dFnml ?dFnmc ?dFnmk; (case dFnma => k_is); (case dFnml => k_is); (case dFnmc => k_is); (case dFnmk => k_is)))
    (case dPai => (refine' Ray.defAt_mk ?dPaia ?dPail ?dPaic ?dPaik; (case dPaia => k_is); (case dPail => k_is); (case dPaic => k_is); (case dPaik => k_is)))
    (case dTab => (refine' Ray.defAt_mk ?dTaba ?dTabl ?dTabc ?dTabk; (case dTaba => k_is); (case dTabl => k_is); (case dTabc => k_is); (case dTabk => k_is)))
    (case dWit => (refine' Ray.defAt_mk ?dWita ?dWitl ?dWitc ?dWitk; (case dWita => k_is); (case dWitl => k_is); (case dWitc => k_is); (case dWitk => k_is)))
    (case dEnd => (refine' Ray.defAt_mk ?dEnda ?dEndl ?dEndc ?dEndk; (case dEnda => k_is); (case dEndl => k_is); (case dEndc => k_is); (case dEndk => k_is)))
    (case dNum => (refine' Ray.defAt_mk ?dNuma ?dNuml ?dNumc ?dNumk; (case dNuma => k_is); (case dNuml => k_is); (case dNumc => k_is); (case dNumk => k_is)))
    (case dAnw => (refine' Ray.defAt_mk ?dAnwa ?dAnwl ?dAnwc ?dAnwk; (case dAnwa => k_is); (case dAnwl => k_is); (case dAnwc => k_is); (case dAnwk => k_is)))
    (case dSta => (refine' Ray.defAt_mk ?dStaa ?dStal ?dStac ?dStak; (case dStaa => k_is); (case dStal => k_is); (case dStac => k_is); (case dStak => k_is)))
    (case dExc => (refine' Ray.defAt_mk ?dExca ?dExcl ?dExcc ?dExck; (case dExca => k_is); (case dExcl => k_is); (case dExcc => k_is); (case dExck => k_is)))
    (case dLat => (refine' Ray.defAt_mk ?dLata ?dLatl ?dLatc ?dLatk; (case dLata => k_is); (case dLatl => k_is); (case dLatc => k_is); (case dLatk => k_is)))
    (case dPrs => (refine' Ray.defAt_mk ?dPrsa ?dPrsl ?dPrsc ?dPrsk; (case dPrsa => k_is); (case dPrsl => k_is); (case dPrsc => k_is); (case dPrsk => k_is)))
    (case dTbl => (refine' Ray.defAt_mk ?dTbla ?dTbll ?dTblc ?dTblk; (case dTbla => k_is); (case dTbll => k_is); (case dTblc => k_is); (case dTblk => k_is)))
    (case dLyi => (refine' Ray.defAt_mk ?dLyia ?dLyil ?dLyic ?dLyik; (case dLyia => k_is); (case dLyil => k_is); (case dLyic => k_is); (case dLyik => k_is)))
    (case dTot => (refine' Ray.defAt_mk ?dTota ?dTotl ?dTotc ?dTotk; (case dTota => k_is); (case dTotl => k_is); (case dTotc => k_is); (case dTotk => k_is)))
    (case dNea => (refine' Ray.defAt_mk ?dNeaa ?dNeal ?dNeac ?dNeak; (case dNeaa => k_is); (case dNeal => k_is); (case dNeac => k_is); (case dNeak => k_is)))
    (case dSam => (refine' Ray.defAt_mk ?dSama ?dSaml ?dSamc ?dSamk; (case dSama => k_is); (case dSaml => k_is); (case dSamc => k_is); (case dSamk => k_is)))
    (case dDif => (refine' Ray.defAt_mk ?dDifa ?dDifl ?dDifc ?dDifk; (case dDifa => k_is); (case dDifl => k_is); (case dDifc => k_is); (case dDifk => k_is)))
    (case dFnd => (refine' Ray.defAt_mk ?dFnda ?dFndl ?dFndc ?dFndk; (case dFnda => k_is); (case dFndl => k_is); (case dFndc => k_is); (case dFndk => k_is)))
    (case dKin => (refine' Ray.defAt_mk ?dKina ?dKinl ?dKinc ?dKink; (case dKina => k_is); (case dKinl => k_is); (case dKinc => k_is); (case dKink => k_is)))
    (case dTbs => (refine' Ray.defAt_mk ?dTbsa ?dTbsl ?dTbsc ?dTbsk; (case dTbsa => k_is); (case dTbsl => k_is); (case dTbsc => k_is); (case dTbsk => k_is)))
    (case dAlk => (refine' Ray.defAt_mk ?dAlka ?dAlkl ?dAlkc ?dAlkk; (case dAlka => k_is); (case dAlkl => k_is); (case dAlkc => k_is); (case dAlkk => k_is)))
    (case dFst => (refine' Ray.defAt_mk ?dFsta ?dFstl ?dFstc ?dFstk; (case dFsta => k_is); (case dFstl => k_is); (case dFstc => k_is); (case dFstk => k_is)))
    (case dWth => (refine' Ray.defAt_mk ?dWtha ?dWthl ?dWthc ?dWthk; (case dWtha => k_is); (case dWthl => k_is); (case dWthc => k_is); (case dWthk => k_is)))
    (case dSte => (refine' Ray.defAt_mk ?dStea ?dStel ?dStec ?dStek; (case dStea => k_is); (case dStel => k_is); (case dStec => k_is); (case dStek => k_is)))
    (case aCl => k_is)
    (case a1 => k_is)
    (case i1 => k_is)
    (case l1 => k_is)
    (case c1 => k_is)
    (case k1 => k_is)
    (case a3 => k_is)
    (case l3 => k_is)
    (case c3 => k_is)
    (case k3 => k_is)
    (case pg => k_is)
    (case hd => k_is)
    (case po => k_is)
    (case sa => k_is)
    (case mk => k_is)
    (case kc => k_is)
    (case nW => k_is)
    (case zlen => k_is)
    (case zrange => k_is)
    (case zlist => k_is)
    (case zsum => k_is)
    (case zall => k_is)
    (case zreversed => k_is)
    (case zmin => k_is)
    (case zenumerate => k_is)
    (case zset => k_is)
    (case ztuple => k_is)
    (case yMOST_STEPS => k_is)
    (case yNO_STEP => k_is)
    (case ySAME_TABLE => k_is)
    (case yNO_WORD => k_is)
    (case yWRONG_NUMBERS => k_is)
    (case yNO_CLOSING_WORD => k_is)
    (case ySTART => k_is)
    (case aRow => k_is)
    (case lR => k_is)
    (case aPla => k_is)
    (case lP => k_is)
    (case tP => rfl)
    (case loP => rfl)
    (case aCal => k_is)
    (case lC => k_is)
    (case tC => rfl)
    (case loC => rfl)
  case S =>
    intro K H xs a hO hwi hask hx
    cases hx with
    | cons h1 h2 =>
      cases h2
      cases h1 with
      | lst hs ha =>
        have e := L2.ints_dw a.1 _ ha
        subst e
        have q : ((Codec.inLen 0 12400 a.1 && a.1.all (Codec.inInt 0 4294967295)) && true) = true := hwi
        rw [Bool.and_eq_true, Bool.and_eq_true] at q
        refine ⟨_, a.1, rfl, hs, (Codec.inNat_iff.mp q.1.1).2, fun x hx => ?_, hask, fun H' p hp => .lst (L2.SqL.of hp) (L2.dw_ints _)⟩
        exact (Codec.inInt_iff.mp (List.all_eq_true.mp q.1.2 x hx)).1
