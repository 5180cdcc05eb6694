import PyProof.Rows.All
import Wide.All
import OpenK.AllK
import Wide.FinOn
import HandS.ForExc
import HandS.Comp
import HandS.Iter
import HandS.Evl
import HandS.Lambda
import HandS.ForMost
import HandS.Flow
import HandS.Rev
import HandS.More
import HandS.Style
import HandS.IsInst
import HandS.Conv
import KE.KSortedM
import HandS.SetFor
import HandS.Strs
import HandS.NoneIn
import HandS.Zip
import HandS.Deep
import KE.GoesEnumKw
import KE.KDictZip
import HandS.ListItems
import HandS.ExcOwn
import HandS.ExcInit
import HandS.ExcIs
import HandS.ExcField
import HandS.WordsExc
import HandS.FStr
import KE.KDflt
import KE.KExcIs
import HandS.SetBool
import HandS.Dict
import HandS.EndTab
import KE.KDictPairs
import KE.KDictLaw
import PyProof.ReprRoads
import PyProof.DictKinds
import PySem.Challenge.RW_keyroll_k37_whole_more_keys_open_more
set_option Elab.async false
set_option linter.all false
set_option maxRecDepth 100000
set_option maxHeartbeats 4000000
/-! KR: a machine over data: what a piece of Python does, said over plain trees and numbered cells in place of addresses. -/
namespace KR
open PySem L2 Evl

/-! ### data -/
inductive D where
  | non | bl (b : Bool) | int (i : Int) | str (x : Str)
  | tup (ds : List D) | lst (ds : List D)
  | hd (k : Nat)
  | ins (C : Addr) (ns : List Str) (ds : List D)
  | raw (v : V)
  | scr (ns : List Int)
  deriving Inhabited

/-- a world: what stands still, and where the cells lie -/
structure Wd where
  Z : Hp
  al : List Addr
structure Wd.le (w w' : Wd) : Prop where
  ex : Ex w.Z w'.Z
  pf : w.al <+: w'.al
theorem Wd.le.refl (w : Wd) : w.le w := ⟨Ex.refl _, List.prefix_refl _⟩
theorem Wd.le.trans {a b c : Wd} (h : a.le b) (k : b.le c) : a.le c := ⟨h.ex.trans k.ex, h.pf.trans k.pf⟩
theorem Wd.le.at {w w' : Wd} (h : w.le w') {k : Nat} {a : Addr} (e : w.al[k]? = some a) : w'.al[k]? = some a := by
  obtain ⟨t, ht⟩ := h.pf
  rw [← ht, List.getElem?_append_left (List.getElem?_eq_some_iff.mp e).1]
  exact e

mutual
inductive Rep (K : PySem.W.Frag) (w : Wd) : V → D → Prop
  | non : Rep K w .non .non
  | bl (b : Bool) : Rep K w (.bl b) (.bl b)
  | int (i : Int) : Rep K w (.int i) (.int i)
  | str (x : Str) : Rep K w (.str x) (.str x)
  | tup {a : Addr} {xs : List V} {ds : List D} : SqT K w.Z a xs → RepA K w xs ds → Rep K w (.ref a) (.tup ds)
  | lst {a : Addr} {xs : List V} {ds : List D} : w.Z a = some (.lst xs) → RepA K w xs ds → Rep K w (.ref a) (.lst ds)
  | hd {k : Nat} {a : Addr} : w.al[k]? = some a → Rep K w (.ref a) (.hd k)
  | ins {a C dx : Addr} {ns : List Str} {vs : List V} {ds : List D} : w.Z a = some (.ins C dx (ns.zip vs)) → ns.length = vs.length → RepA K w vs ds → Rep K w (.ref a) (.ins C ns ds)
  | raw (v : V) : Rep K w v (.raw v)
  | scr {a : Addr} {ns : List Int} : SqL K w.Z a (ns.map V.int) → Rep K w (.ref a) (.scr ns)
inductive RepA (K : PySem.W.Frag) (w : Wd) : List V → List D → Prop
  | nil : RepA K w [] []
  | cons {v : V} {vs : List V} {d : D} {ds : List D} : Rep K w v d → RepA K w vs ds → RepA K w (v :: vs) (d :: ds)
end

section
variable {K : PySem.W.Frag} {w w' : Wd}
mutual
theorem Rep.mono (h : w.le w') : ∀ {v : V} {d : D}, Rep K w v d → Rep K w' v d
  | _, _, .non => .non
  | _, _, .bl b => .bl b
  | _, _, .int i => .int i
  | _, _, .str x => .str x
  | _, _, .tup s r => .tup (ex_t h.ex s) (RepA.mono h r)
  | _, _, .lst s r => .lst (h.ex _ _ s) (RepA.mono h r)
  | _, _, .hd e => .hd (h.at e)
  | _, _, .ins s l r => .ins (h.ex _ _ s) l (RepA.mono h r)
  | _, _, .raw v => .raw v
  | _, _, .scr s => .scr (ex_l h.ex s)
theorem RepA.mono (h : w.le w') : ∀ {vs : List V} {ds : List D}, RepA K w vs ds → RepA K w' vs ds
  | _, _, .nil => .nil
  | _, _, .cons a b => .cons (Rep.mono h a) (RepA.mono h b)
end
theorem RepA.length : ∀ {vs : List V} {ds : List D}, RepA K w vs ds → vs.length = ds.length
  | _, _, .nil => rfl
  | _, _, .cons _ b => by rw [List.length_cons, List.length_cons, RepA.length b]
theorem RepA.get : ∀ {vs : List V} {ds : List D} {i : Nat} {d : D}, RepA K w vs ds → ds[i]? = some d → ∃ v, vs[i]? = some v ∧ Rep K w v d
  | _, _, _, _, .nil, e => by simp at e
  | _, _, 0, _, .cons a _, e => by
    have e' := Option.some.inj e
    subst e'
    exact ⟨_, rfl, a⟩
  | _, _, i + 1, _, .cons _ b, e => by
    obtain ⟨v, h1, h2⟩ := RepA.get (i := i) b e
    exact ⟨v, h1, h2⟩
theorem RepA.getV : ∀ {vs : List V} {ds : List D} {i : Nat} {v : V}, RepA K w vs ds → vs[i]? = some v → ∃ d, ds[i]? = some d ∧ Rep K w v d
  | _, _, _, _, .nil, e => by simp at e
  | _, _, 0, _, .cons a _, e => by
    have e' := Option.some.inj e
    subst e'
    exact ⟨_, rfl, a⟩
  | _, _, i + 1, _, .cons _ b, e => by
    obtain ⟨v, h1, h2⟩ := RepA.getV (i := i) b e
    exact ⟨v, h1, h2⟩
theorem RepA.append : ∀ {vs us : List V} {ds es : List D}, RepA K w vs ds → RepA K w us es → RepA K w (vs ++ us) (ds ++ es)
  | _, _, _, _, .nil, b => b
  | _, _, _, _, .cons a r, b => .cons a (RepA.append r b)
theorem RepA.take : ∀ {vs : List V} {ds : List D} (n : Nat), RepA K w vs ds → RepA K w (vs.take n) (ds.take n)
  | _, _, 0, _ => .nil
  | _, _, _ + 1, .nil => .nil
  | _, _, n + 1, .cons a b => .cons a (RepA.take n b)
theorem RepA.drop : ∀ {vs : List V} {ds : List D} (n : Nat), RepA K w vs ds → RepA K w (vs.drop n) (ds.drop n)
  | _, _, 0, r => r
  | _, _, _ + 1, .nil => .nil
  | _, _, n + 1, .cons _ b => RepA.drop n b
theorem RepA.set {x : V} {d : D} (r : Rep K w x d) : ∀ {vs : List V} {ds : List D} (i : Nat), RepA K w vs ds → RepA K w (vs.set i x) (ds.set i d)
  | _, _, _, .nil => .nil
  | _, _, 0, .cons _ t => .cons r t
  | _, _, i + 1, .cons q t => .cons q (RepA.set r i t)
theorem RepA.one {v : V} {d : D} (r : Rep K w v d) : RepA K w [v] [d] := .cons r .nil
theorem RepA.reverse : ∀ {vs : List V} {ds : List D}, RepA K w vs ds → RepA K w vs.reverse ds.reverse
  | _, _, .nil => .nil
  | _, _, .cons a b => by
    rw [List.reverse_cons, List.reverse_cons]
    exact RepA.append (RepA.reverse b) (.one a)
theorem RepA.rep {v : V} {d : D} (r : Rep K w v d) (n : Nat) : RepA K w (List.replicate n v) (List.replicate n d) := by
  induction n with
  | zero => exact .nil
  | succ n ih => exact .cons r ih
theorem RepA.at {vs : List V} {ds : List D} {i : Int} {d : D} (r : RepA K w vs ds) (e : atI ds i = some d) : ∃ v, atI vs i = some v ∧ Rep K w v d := by
  unfold atI at e ⊢
  rw [r.length]
  cases q : ixN ds.length i with
  | none => rw [q] at e; cases e
  | some j =>
    rw [q] at e
    exact r.get e
end

/-! ### handles of data -/
mutual
def D.hb (n : Nat) : D → Bool
  | .tup ds => hbA n ds
  | .lst ds => hbA n ds
  | .hd k => decide (k < n)
  | .ins _ _ ds => hbA n ds
  | _ => true
def hbA (n : Nat) : List D → Bool
  | [] => true
  | d :: ds => d.hb n && hbA n ds
end
section
variable {K : PySem.W.Frag} {w : Wd}
theorem hbA_all (n : Nat) (ds : List D) : hbA n ds = true ↔ ∀ d ∈ ds, d.hb n = true := by
  induction ds with
  | nil => simp [hbA]
  | cons d ds ih => simp [hbA, ih]
mutual
theorem Rep.hb : ∀ {v : V} {d : D}, Rep K w v d → d.hb w.al.length = true
  | _, _, .non => rfl
  | _, _, .bl b => rfl
  | _, _, .int i => rfl
  | _, _, .str x => rfl
  | _, _, .tup s r => RepA.hb r
  | _, _, .lst s r => RepA.hb r
  | _, _, .hd e => by
    have := (List.getElem?_eq_some_iff.mp e).1
    simpa [D.hb] using this
  | _, _, .ins s l r => RepA.hb r
  | _, _, .raw v => rfl
  | _, _, .scr s => rfl
theorem RepA.hb : ∀ {vs : List V} {ds : List D}, RepA K w vs ds → hbA w.al.length ds = true
  | _, _, .nil => rfl
  | _, _, .cons a b => by
    show (D.hb w.al.length _ && hbA w.al.length _) = true
    rw [Rep.hb a, RepA.hb b]
    rfl
end
mutual
theorem D.hb_mono {n k : Nat} (h : n ≤ k) : ∀ d : D, d.hb n = true → d.hb k = true
  | .non, _ => rfl
  | .bl _, _ => rfl
  | .int _, _ => rfl
  | .str _, _ => rfl
  | .raw _, _ => rfl
  | .scr _, _ => rfl
  | .tup ds, e => hbA_mono h ds e
  | .lst ds, e => hbA_mono h ds e
  | .ins _ _ ds, e => hbA_mono h ds e
  | .hd j, e => decide_eq_true (Nat.lt_of_lt_of_le (of_decide_eq_true e) h)
theorem hbA_mono {n k : Nat} (h : n ≤ k) : ∀ ds : List D, hbA n ds = true → hbA k ds = true
  | [], _ => rfl
  | d :: ds, e => by
    simp only [hbA, Bool.and_eq_true] at e ⊢
    exact ⟨D.hb_mono h d e.1, hbA_mono h ds e.2⟩
end
/-- back to fewer cells -/
theorem get_take {α : Type} {l : List α} {n k : Nat} (h : k < n) : (l.take n)[k]? = l[k]? := by
  rw [List.getElem?_take]
  simp [h]
mutual
theorem Rep.cut {n : Nat} : ∀ {v : V} {d : D}, Rep K w v d → d.hb n = true → Rep K ⟨w.Z, w.al.take n⟩ v d
  | _, _, .non, _ => .non
  | _, _, .bl b, _ => .bl b
  | _, _, .int i, _ => .int i
  | _, _, .str x, _ => .str x
  | _, _, .tup s r, h => .tup s (RepA.cut r h)
  | _, _, .lst s r, h => .lst s (RepA.cut r h)
  | _, _, .hd e, h => .hd (by
      have h' : _ < n := of_decide_eq_true h
      rw [get_take h']
      exact e)
  | _, _, .ins s l r, h => .ins s l (RepA.cut r h)
  | _, _, .raw v, _ => .raw v
  | _, _, .scr s, _ => .scr s
theorem RepA.cut {n : Nat} : ∀ {vs : List V} {ds : List D}, RepA K w vs ds → hbA n ds = true → RepA K ⟨w.Z, w.al.take n⟩ vs ds
  | _, _, .nil, _ => .nil
  | _, _, .cons a b, h => by
    have h2 := h
    simp only [hbA, Bool.and_eq_true] at h2
    exact .cons (Rep.cut a h2.1) (RepA.cut b h2.2)
end
end

/-! ### cells -/
inductive Cell where
  | lst (ds : List D)
  | dice
  | ins (C : Addr) (ns : List Str) (ds : List D)
  | dead
  | tab (P : Addr) (q : Str)
  | obj (o : HO)
  | fn (f : Addr) (l : List (Addr × HO)) (caps : List (Addr × D))
  | adr (o : Addr → HO)
  deriving Inhabited
abbrev Store := List Cell
/-- the object o at a, as it is -/
def ObjO (a : Addr) (o : Obj) : HO := .ext fun h => h.get? a = some o
def Cell.hb (n : Nat) : Cell → Bool
  | .lst ds => hbA n ds
  | .fn _ _ caps => hbA n (caps.map (·.2))
  | .ins _ _ ds => hbA n ds
  | _ => true
/-- the dice of a law: the script, how far it is read, what is mixed, what is left of a great number -/
def DiceD (ds : List D) : Prop := ∃ (ns : List Int) (i m r : Int), ds = [.scr ns, .int i, .int m, .int r] ∧ ns.length ≤ 63 ∧ 0 ≤ i ∧ 0 ≤ m ∧ m < 2147483647 ∧ 0 ≤ r
theorem hbC_mono {n k : Nat} {c : Cell} (e : c.hb n = true) (h : n ≤ k) : c.hb k = true := by
  cases c with
  | lst ds => exact hbA_mono h ds e
  | ins C ns ds => exact hbA_mono h ds e
  | dice => rfl
  | dead => rfl
  | tab P q => rfl
  | obj o => rfl
  | fn f l caps =>
    have e : hbA n (caps.map (·.2)) = true := e
    exact hbA_mono h _ e
  | adr o => rfl
/-- the table at P: code objects of the name q alone, which stand still -/
structure TabR (Z : Hp) (q : Str) (ps : Array Value) : Prop where
  tri : TriplesOk ps.toList
  all : ∀ (pos : Pos) (cv : Value), codeAmong pos ps.toList = some cv → ∃ c, cv = .ref c ∧ Z c = some (LamX.CodeO c q)
def CellR (K : PySem.W.Frag) (w : Wd) (H : Hp) (a : Addr) : Cell → Prop
  | .lst ds => w.Z a = none ∧ ∃ xs, H a = some (.lst xs) ∧ RepA K w xs ds
  | .dice => w.Z a = none ∧ ∃ xs ds, H a = some (.lst xs) ∧ RepA K w xs ds ∧ DiceD ds
  | .ins C ns ds => w.Z a = none ∧ ∃ dx vs, H a = some (.ins C dx (ns.zip vs)) ∧ ns.length = vs.length ∧ RepA K w vs ds
  | .dead => ∃ o, H a = some o ∧ ∀ φ, o ≠ .ext φ
  | .tab P q => a = P ∧ w.Z a = none ∧ ∃ ps, H a = some (.tbl ps) ∧ TabR w.Z q ps
  | .obj o => w.Z a = none ∧ H a = some o
  | .adr o => w.Z a = none ∧ H a = some (o a)
  | .fn f l caps => a = f ∧ (∃ o : Obj, H a = some (ObjO f o) ∧ ∀ u, o.data ≠ .cell u) ∧ (∀ p ∈ l, w.Z p.1 = some p.2) ∧ ∀ p ∈ caps, ∃ (v : V) (u : Value) (o : Obj), w.Z p.1 = some (ObjO p.1 o) ∧ o.data = .cell (some u) ∧ L2.RelV v u ∧ Rep K w v p.2
theorem nd_one {α : Type} : ∀ {l : List α} {i j : Nat} {a : α}, l.Nodup → l[i]? = some a → l[j]? = some a → i = j
  | [], _, _, _, _, e, _ => by simp at e
  | x :: l, 0, 0, _, _, _, _ => rfl
  | x :: l, 0, j + 1, a, n, e, q => by
    have ea : x = a := Option.some.inj e
    subst ea
    exact absurd (List.mem_of_getElem? (l := l) q) (List.nodup_cons.mp n).1
  | x :: l, i + 1, 0, a, n, e, q => by
    have ea : x = a := Option.some.inj q
    subst ea
    exact absurd (List.mem_of_getElem? (l := l) e) (List.nodup_cons.mp n).1
  | x :: l, i + 1, j + 1, a, n, e, q => congrArg (· + 1) (nd_one (List.nodup_cons.mp n).2 e q)
structure StOk (K : PySem.W.Frag) (w : Wd) (m : Store) (H : Hp) : Prop where
  ex : Ex w.Z H
  len : w.al.length = m.length
  nd : w.al.Nodup
  cell : ∀ (k : Nat) (a : Addr) (c : Cell), w.al[k]? = some a → m[k]? = some c → CellR K w H a c
section
variable {K : PySem.W.Frag} {w w' : Wd} {m : Store} {H H' : Hp}
theorem CellR.there {a : Addr} {c : Cell} (h : CellR K w H a c) : ∃ o, H a = some o := by
  cases c with
  | lst ds => obtain ⟨_, xs, h, _⟩ := h; exact ⟨_, h⟩
  | dice => obtain ⟨_, xs, ds, h, _⟩ := h; exact ⟨_, h⟩
  | ins C ns ds => obtain ⟨_, dx, vs, h, _⟩ := h; exact ⟨_, h⟩
  | dead => obtain ⟨o, h, _⟩ := h; exact ⟨o, h⟩
  | tab P q => obtain ⟨_, _, ps, h, _⟩ := h; exact ⟨_, h⟩
  | obj o => exact ⟨_, h.2⟩
  | adr o => exact ⟨_, h.2⟩
  | fn f l caps => obtain ⟨_, ⟨o, h, _⟩, _⟩ := h; exact ⟨_, h⟩
theorem StOk.there (h : StOk K w m H) {k : Nat} {a : Addr} (e : w.al[k]? = some a) : ∃ o, H a = some o := by
  have hk := (List.getElem?_eq_some_iff.mp e).1
  rw [h.len] at hk
  exact (h.cell k a _ e (List.getElem?_eq_getElem hk)).there
theorem StOk.notin (h : StOk K w m H) {p : Addr} (e : H p = none) : p ∉ w.al := fun hm => by
  obtain ⟨k, hk, e2⟩ := List.getElem_of_mem hm
  obtain ⟨o, ho⟩ := h.there (k := k) (a := p) (by rw [List.getElem?_eq_getElem hk, e2])
  rw [e] at ho
  cases ho
theorem StOk.zfree (h : StOk K w m H) {p : Addr} (e : H p = none) : w.Z p = none := fresh_back h.ex e
/-- the cells stand as they stood: the world grows by what is no cell -/
theorem CellR.keep {a : Addr} {c : Cell} (h : CellR K w H a c) (l : w.le w') (z : w.Z a = none → w'.Z a = none) (e : H' a = H a) : CellR K w' H' a c := by
  cases c with
  | lst ds =>
    obtain ⟨h0, xs, h, r⟩ := h
    exact ⟨z h0, xs, e.trans h, r.mono l⟩
  | dice =>
    obtain ⟨h0, xs, ds, h, q, rest⟩ := h
    exact ⟨z h0, xs, ds, e.trans h, q.mono l, rest⟩
  | ins C ns ds =>
    obtain ⟨h0, dx, vs, h, ll, r⟩ := h
    exact ⟨z h0, dx, vs, e.trans h, ll, r.mono l⟩
  | dead =>
    obtain ⟨o, h, n⟩ := h
    exact ⟨o, e.trans h, n⟩
  | tab P q =>
    obtain ⟨h1, h2, ps, h3, h4⟩ := h
    exact ⟨h1, z h2, ps, e.trans h3, h4.tri, fun pos cv hc => let ⟨d, e1, e2⟩ := h4.all pos cv hc; ⟨d, e1, l.ex _ _ e2⟩⟩
  | obj o => exact ⟨z h.1, e.trans h.2⟩
  | adr o => exact ⟨z h.1, e.trans h.2⟩
  | fn f ll caps =>
    obtain ⟨h1, ⟨o, h2, h5⟩, h3, h4⟩ := h
    refine ⟨h1, ⟨o, e.trans h2, h5⟩, fun p hp => l.ex _ _ (h3 p hp), fun p hp => ?_⟩
    obtain ⟨v, u, o, e1, e2, e3, e4⟩ := h4 p hp
    exact ⟨v, u, o, l.ex _ _ e1, e2, e3, e4.mono l⟩
/-- a new object that stands still -/
theorem StOk.new (h : StOk K w m H) {p : Addr} {o : HO} (hp : H p = none) : w.le ⟨upd w.Z p o, w.al⟩ ∧ StOk K ⟨upd w.Z p o, w.al⟩ m (upd H p o) := by
  have l : w.le ⟨upd w.Z p o, w.al⟩ := ⟨Ex.new (h.zfree hp), List.prefix_refl _⟩
  refine ⟨l, ⟨fun a u e => ?_, h.len, h.nd, fun k a c e1 e2 => ?_⟩⟩
  · have e' : (upd w.Z p o) a = some u := e
    by_cases ha : a = p
    · subst ha
      rw [upd_same] at e' ⊢
      exact e'
    · rw [upd_ne ha] at e' ⊢
      exact h.ex a u e'
  · have ne : a ≠ p := fun q => h.notin hp (by rw [← q]; exact List.mem_of_getElem? e1)
    exact (h.cell k a c e1 e2).keep l (fun z => by
      show (upd w.Z p o) a = none
      rw [upd_ne ne]
      exact z) (upd_ne ne)
/-- a new cell -/
theorem StOk.newCell (h : StOk K w m H) {p : Addr} {o : HO} {c : Cell} (hp : H p = none) (hc : ∀ w', w.le w' → w'.Z = w.Z → CellR K w' (upd H p o) p c) : w.le ⟨w.Z, w.al ++ [p]⟩ ∧ StOk K ⟨w.Z, w.al ++ [p]⟩ (m ++ [c]) (upd H p o) := by
  have l : w.le ⟨w.Z, w.al ++ [p]⟩ := ⟨Ex.refl _, List.prefix_append _ _⟩
  have np := h.notin hp
  refine ⟨l, ⟨fun a u e => ?_, by simp [h.len], ?_, fun k a c' e1 e2 => ?_⟩⟩
  · have e0 : w.Z a = some u := e
    rw [upd_ne (ne_of_none (h.ex a u e0) hp)]
    exact h.ex a u e0
  · show (w.al ++ [p]).Nodup
    rw [List.nodup_append]
    refine ⟨h.nd, by simp, fun a ha b hb => ?_⟩
    rw [List.mem_singleton.mp hb]
    exact fun q => np (by rw [← q]; exact ha)
  · have e1' : (w.al ++ [p])[k]? = some a := e1
    by_cases hk : k < w.al.length
    · rw [List.getElem?_append_left hk] at e1'
      rw [List.getElem?_append_left (by rw [← h.len]; exact hk)] at e2
      have ne : a ≠ p := fun q => np (by rw [← q]; exact List.mem_of_getElem? e1')
      exact (h.cell k a c' e1' e2).keep l (fun z => z) (upd_ne ne)
    · have hk' : k = w.al.length := by
        have := (List.getElem?_eq_some_iff.mp e1').1
        rw [List.length_append] at this
        simp at this
        omega
      subst hk'
      rw [List.getElem?_append_right (Nat.le_refl _)] at e1'
      rw [List.getElem?_append_right (by rw [h.len]; exact Nat.le_refl _)] at e2
      simp at e1'
      simp [h.len] at e2
      rw [← e1', ← e2]
      exact hc _ l rfl
/-- a cell is changed -/
theorem StOk.change (h : StOk K w m H) {k : Nat} {a : Addr} {o : HO} {c : Cell} (e : w.al[k]? = some a) (z : w.Z a = none) (hc : CellR K w (upd H a o) a c) : StOk K w (m.set k c) (upd H a o) := by
  refine ⟨Ex.mut h.ex z, by rw [List.length_set]; exact h.len, h.nd, fun j b c' e1 e2 => ?_⟩
  by_cases hj : j = k
  · subst hj
    have hb : b = a := Option.some.inj (e1.symm.trans e)
    subst hb
    have hk := (List.getElem?_eq_some_iff.mp e).1
    rw [h.len] at hk
    rw [List.getElem?_set_self hk] at e2
    rw [← Option.some.inj e2]
    exact hc
  · rw [List.getElem?_set_ne (fun q => hj q.symm)] at e2
    have ne : b ≠ a := fun q => by
      subst q
      exact hj (nd_one h.nd e1 e)
    exact (h.cell j b c' e1 e2).keep (Wd.le.refl _) (fun z => z) (upd_ne ne)
/-- a list that will change no more stands still -/
theorem StOk.freeze (h : StOk K w m H) {k : Nat} {a : Addr} {ds : List D} (e : w.al[k]? = some a) (hm : m[k]? = some (.lst ds)) :
    ∃ w', w.le w' ∧ w'.al = w.al ∧ StOk K w' (m.set k .dead) H ∧ Rep K w' (.ref a) (.lst ds) := by
  obtain ⟨z, xs, hx, r⟩ := h.cell k a _ e hm
  have l : w.le ⟨upd w.Z a (.lst xs), w.al⟩ := ⟨Ex.new z, List.prefix_refl _⟩
  refine ⟨_, l, rfl, ⟨fun b u q => ?_, by rw [List.length_set]; exact h.len, h.nd, fun j b c' e1 e2 => ?_⟩, .lst (by show (upd w.Z a (.lst xs)) a = _; exact upd_same) (r.mono l)⟩
  · have q' : (upd w.Z a (.lst xs)) b = some u := q
    by_cases hb : b = a
    · subst hb
      rw [upd_same] at q'
      rw [← q']
      exact hx
    · rw [upd_ne hb] at q'
      exact h.ex b u q'
  · by_cases hj : j = k
    · subst hj
      have hb : b = a := Option.some.inj (e1.symm.trans e)
      subst hb
      have hk := (List.getElem?_eq_some_iff.mp e).1
      rw [h.len] at hk
      rw [List.getElem?_set_self hk] at e2
      rw [← Option.some.inj e2]
      exact ⟨_, hx, fun _ z => by cases z⟩
    · rw [List.getElem?_set_ne (fun q => hj q.symm)] at e2
      have ne : b ≠ a := fun q => by
        subst q
        exact hj (nd_one h.nd e1 e)
      exact (h.cell j b c' e1 e2).keep l (fun z => by
        show (upd w.Z a (.lst xs)) b = none
        rw [upd_ne ne]
        exact z) rfl
theorem CellR.hb {a : Addr} {c : Cell} (h : CellR K w H a c) : c.hb w.al.length = true := by
  cases c with
  | lst ds => obtain ⟨_, xs, _, r⟩ := h; exact r.hb
  | dice => rfl
  | ins C ns ds => obtain ⟨_, dx, vs, _, _, r⟩ := h; exact r.hb
  | dead => rfl
  | tab P q => rfl
  | obj o => rfl
  | adr o => rfl
  | fn f l caps =>
    obtain ⟨_, _, _, h⟩ := h
    refine (hbA_all _ _).mpr fun d hd => ?_
    obtain ⟨p, hp, rfl⟩ := List.mem_map.mp hd
    obtain ⟨v, _, _, _, _, _, r⟩ := h p hp
    exact r.hb
def Wf (m : Store) : Prop := ∀ c ∈ m, c.hb m.length = true
theorem StOk.wf (h : StOk K w m H) : Wf m := fun c hc => by
  obtain ⟨k, hk, e⟩ := List.getElem_of_mem hc
  have hk' : k < w.al.length := by rw [h.len]; exact hk
  have q := (h.cell k _ c (List.getElem?_eq_getElem hk') (by rw [List.getElem?_eq_getElem hk, e])).hb
  rw [h.len] at q
  exact q
/-- the last cells are let go -/
theorem StOk.cut {m1 m2 : Store} (h : StOk K w (m1 ++ m2) H) (wf : Wf m1) : StOk K ⟨w.Z, w.al.take m1.length⟩ m1 H := by
  have hl := h.len
  rw [List.length_append] at hl
  refine ⟨h.ex, by show (w.al.take m1.length).length = _; rw [List.length_take]; omega, List.Sublist.nodup (List.take_sublist _ _) h.nd, fun k a c e1 e2 => ?_⟩
  have hk := (List.getElem?_eq_some_iff.mp e2).1
  have e1' : (w.al.take m1.length)[k]? = some a := e1
  rw [get_take hk] at e1'
  have q := h.cell k a c e1' (by rw [List.getElem?_append_left hk]; exact e2)
  have hc := wf c (List.mem_of_getElem? e2)
  cases c with
  | lst ds =>
    obtain ⟨z, xs, hx, r⟩ := q
    exact ⟨z, xs, hx, r.cut hc⟩
  | dice =>
    obtain ⟨z, xs, ds, hx, r, hd⟩ := q
    refine ⟨z, xs, ds, hx, r.cut ?_, hd⟩
    obtain ⟨ns, i, mm, rr, e, _⟩ := hd
    rw [e]
    rfl
  | ins C ns ds =>
    obtain ⟨z, dx, vs, hx, ll, r⟩ := q
    exact ⟨z, dx, vs, hx, ll, r.cut hc⟩
  | dead => exact q
  | tab P q' => exact q
  | obj o => exact q
  | adr o => exact q
  | fn f l caps =>
    obtain ⟨h1, h2, h3, h4⟩ := q
    refine ⟨h1, h2, h3, fun p hp => ?_⟩
    obtain ⟨v, u, o, e1, e2, e3, e4⟩ := h4 p hp
    exact ⟨v, u, o, e1, e2, e3, e4.cut ((hbA_all _ _).mp hc _ (List.mem_map.mpr ⟨p, hp, rfl⟩))⟩
theorem Wd.le.cut {w w' : Wd} (l : w.le w') {n : Nat} (h : w.al.length ≤ n) : w.le ⟨w'.Z, w'.al.take n⟩ := by
  refine ⟨l.ex, ?_⟩
  obtain ⟨t, ht⟩ := l.pf
  show w.al <+: w'.al.take n
  rw [← ht, List.take_append, List.take_of_length_le h]
  exact List.prefix_append _ _
end

/-! ### slots -/
abbrev Env := List (Option D)
structure EnvR (K : PySem.W.Frag) (w : Wd) (σ : L2.St) (ρ : Env) : Prop where
  len : σ.length = ρ.length
  at_ : ∀ (i : Nat) (d : D), ρ[i]? = some (some d) → ∃ v, σ[i]? = some (some v) ∧ Rep K w v d
section
variable {K : PySem.W.Frag} {w w' : Wd} {σ : L2.St} {ρ : Env}
theorem EnvR.mono (l : w.le w') (h : EnvR K w σ ρ) : EnvR K w' σ ρ := ⟨h.len, fun i d e => by
  obtain ⟨v, h1, h2⟩ := h.at_ i d e
  exact ⟨v, h1, h2.mono l⟩⟩
theorem EnvR.set (h : EnvR K w σ ρ) (i : Nat) {v : V} {d : D} (r : Rep K w v d) : EnvR K w (σ.set i (some v)) (ρ.set i (some d)) := by
  refine ⟨by rw [List.length_set, List.length_set]; exact h.len, fun j e q => ?_⟩
  by_cases hj : j = i
  · subst hj
    have hl := (List.getElem?_eq_some_iff.mp q).1
    rw [List.length_set] at hl
    rw [List.getElem?_set_self hl] at q
    have q' := Option.some.inj (Option.some.inj q)
    subst q'
    exact ⟨v, List.getElem?_set_self (by rw [h.len]; exact hl), r⟩
  · rw [List.getElem?_set_ne (fun z => hj z.symm)] at q
    obtain ⟨u, h1, h2⟩ := h.at_ j e q
    exact ⟨u, by rw [List.getElem?_set_ne (fun z => hj z.symm)]; exact h1, h2⟩
theorem EnvR.drop (h : EnvR K w σ ρ) (i : Nat) (x : Option V) : EnvR K w (σ.set i x) (ρ.set i none) := by
  refine ⟨by rw [List.length_set, List.length_set]; exact h.len, fun j e q => ?_⟩
  by_cases hj : j = i
  · subst hj
    have hl := (List.getElem?_eq_some_iff.mp q).1
    rw [List.length_set] at hl
    rw [List.getElem?_set_self hl] at q
    cases q
  · rw [List.getElem?_set_ne (fun z => hj z.symm)] at q
    obtain ⟨u, h1, h2⟩ := h.at_ j e q
    exact ⟨u, by rw [List.getElem?_set_ne (fun z => hj z.symm)]; exact h1, h2⟩
def wipeD (ρ : Env) : List Nat → Env
  | [] => ρ
  | v :: vs => (wipeD ρ vs).set v none
theorem EnvR.wipe (h : EnvR K w σ ρ) : ∀ vs : List Nat, EnvR K w (L2.wipe σ vs) (wipeD ρ vs)
  | [] => h
  | v :: vs => (EnvR.wipe h vs).drop v none
end
end KR

/-! KR2: what a piece of a reading does, over the machine of KR. -/
namespace KR
open PySem L2 Evl

/-! ### exceptions, contexts -/
abbrev PX := Value → Option (Str × D) → Store → Prop
def ExcR (K : PySem.W.Frag) (w : Wd) (H : Hp) : Option Addr → Option (Str × D) → Prop
  | none, none => True
  | some d, some (f, x) => ∃ v, w.Z d = some (.xd [(f, v)]) ∧ Rep K w v x
  | _, _ => False
def EOk (K : PySem.W.Frag) (EE : XK) (PE : PX) (w : Wd) : Prop :=
  ∀ (cls : Value) (od : Option Addr) (oi : Option (Str × D)) (m' : Store) (w' : Wd) (H' : Hp), w.le w' → ExcR K w' H' od oi → StOk K w' m' H' → PE cls oi m' → EE cls od H'
theorem EOk.mono {K : PySem.W.Frag} {EE : XK} {PE : PX} {w w' : Wd} (h : EOk K EE PE w) (l : w.le w') : EOk K EE PE w' := fun cls od oi m2 w2 H2 l2 => h cls od oi m2 w2 H2 (l.trans l2)
structure Ct where
  K : PySem.W.Frag
  EE : XK
  PE : PX
/-- where nothing is raised -/
abbrev C0 (K : PySem.W.Frag) : Ct := ⟨K, E0, fun _ _ _ => False⟩
abbrev Ct.ok (c : Ct) (w : Wd) : Prop := EOk c.K c.EE c.PE w
theorem C0.ok (K : PySem.W.Frag) (w : Wd) : (C0 K).ok w := fun _ _ _ _ _ _ _ _ _ h => h.elim

abbrev PD := D → Store → Prop
/-- what is wanted of a value, below -/
def Kt (c : Ct) (w : Wd) (P : PD) (Q : VK) : Prop := ∀ (v : V) (d : D) (m' : Store) (w' : Wd) (H' : Hp), w.le w' → Rep c.K w' v d → StOk c.K w' m' H' → P d m' → Q v H'
def KtA (c : Ct) (w : Wd) (P : List D → Store → Prop) (Q : List V → Hp → Prop) : Prop := ∀ (v : List V) (d : List D) (m' : Store) (w' : Wd) (H' : Hp), w.le w' → RepA c.K w' v d → StOk c.K w' m' H' → P d m' → Q v H'
def KtT (c : Ct) (w : Wd) (P : Bool → Store → Prop) (Q : Bool → Hp → Prop) : Prop := ∀ (b : Bool) (m' : Store) (w' : Wd) (H' : Hp), w.le w' → StOk c.K w' m' H' → P b m' → Q b H'
theorem Kt.mono {c : Ct} {w w' : Wd} {P : PD} {Q : VK} (k : Kt c w P Q) (l : w.le w') : Kt c w' P Q := fun v d m2 w2 H2 l2 => k v d m2 w2 H2 (l.trans l2)
theorem KtA.mono {c : Ct} {w w' : Wd} {P : List D → Store → Prop} {Q : List V → Hp → Prop} (k : KtA c w P Q) (l : w.le w') : KtA c w' P Q := fun v d m2 w2 H2 l2 => k v d m2 w2 H2 (l.trans l2)
theorem KtT.mono {c : Ct} {w w' : Wd} {P : Bool → Store → Prop} {Q : Bool → Hp → Prop} (k : KtT c w P Q) (l : w.le w') : KtT c w' P Q := fun v m2 w2 H2 l2 => k v m2 w2 H2 (l.trans l2)
/-- an expression, arguments, a test; operations by value -/
def WE (c : Ct) (te : TE) (ρ : Env) (m : Store) (P : PD) : Prop := ∀ σ w H, EnvR c.K w σ ρ → StOk c.K w m H → c.ok w → ∀ Q : VK, Kt c w P Q → te σ H Q
def WA (c : Ct) (te : TA) (ρ : Env) (m : Store) (P : List D → Store → Prop) : Prop := ∀ σ w H, EnvR c.K w σ ρ → StOk c.K w m H → c.ok w → ∀ Q : List V → Hp → Prop, KtA c w P Q → te σ H Q
def WT (c : Ct) (te : TT) (ρ : Env) (m : Store) (P : Bool → Store → Prop) : Prop := ∀ σ w H, EnvR c.K w σ ρ → StOk c.K w m H → c.ok w → ∀ Q : Bool → Hp → Prop, KtT c w P Q → te σ H Q
def WO (c : Ct) (te : TO) (ρ : Env) (m : Store) (P : Option Int → Store → Prop) : Prop := ∀ σ w H, EnvR c.K w σ ρ → StOk c.K w m H → c.ok w → ∀ Q : Option Int → Hp → Prop, (∀ o m' w' H', w.le w' → StOk c.K w' m' H' → P o m' → Q o H') → te σ H Q
def WR (c : Ct) (r : R2) (x y : D) (m : Store) (P : PD) : Prop := ∀ vx vy w H, Rep c.K w vx x → Rep c.K w vy y → StOk c.K w m H → c.ok w → ∀ Q : VK, Kt c w P Q → r vx vy H Q
def WU (c : Ct) (r : V → Hp → VK → Prop) (x : D) (m : Store) (P : PD) : Prop := ∀ vx w H, Rep c.K w vx x → StOk c.K w m H → c.ok w → ∀ Q : VK, Kt c w P Q → r vx H Q
def WC (c : Ct) (r : List V → Hp → VK → Prop) (xs : List D) (m : Store) (P : PD) : Prop := ∀ vs w H, RepA c.K w vs xs → StOk c.K w m H → c.ok w → ∀ Q : VK, Kt c w P Q → r vs H Q
def WSl (c : Ct) (r : V → Option Int → Option Int → Hp → VK → Prop) (x : D) (lo hi : Option Int) (m : Store) (P : PD) : Prop := ∀ vx w H, Rep c.K w vx x → StOk c.K w m H → c.ok w → ∀ Q : VK, Kt c w P Q → r vx lo hi H Q
def WM (c : Ct) (r : V → List V → Hp → VK → Prop) (x : D) (xs : List D) (m : Store) (P : PD) : Prop := ∀ vx vs w H, Rep c.K w vx x → RepA c.K w vs xs → StOk c.K w m H → c.ok w → ∀ Q : VK, Kt c w P Q → r vx vs H Q

section
variable {c : Ct} {ρ : Env} {m : Store} {P P' : PD} {ta tb td te : TE} {t u : TT} {r : R2}
theorem WE.imp (h : WE c te ρ m P') (k : ∀ d m', P' d m' → P d m') : WE c te ρ m P := fun σ w H e s o Q q => h σ w H e s o Q fun v d m' w' H' l r s' p => q v d m' w' H' l r s' (k d m' p)
theorem WT.imp {P P' : Bool → Store → Prop} (h : WT c t ρ m P') (k : ∀ d m', P' d m' → P d m') : WT c t ρ m P := fun σ w H e s o Q q => h σ w H e s o Q fun v m' w' H' l s' p => q v m' w' H' l s' (k v m' p)
theorem we_var {i : Nat} {d : D} (h : ρ[i]? = some (some d)) (p : P d m) : WE c (tVar i) ρ m P := fun σ w H e s o Q q => by
  obtain ⟨v, h1, h2⟩ := e.at_ i d h
  exact ⟨v, h1, q v d m w H (.refl w) h2 s p⟩
theorem we_c {v : V} (d : D) (h : ∀ K w, Rep K w v d) (p : P d m) : WE c (tC v) ρ m P := fun σ w H e s o Q q => q v d m w H (.refl w) (h c.K w) s p
theorem we_int {i : Int} (p : P (.int i) m) : WE c (tC (.int i)) ρ m P := we_c _ (fun _ _ => .int i) p
theorem we_bl {b : Bool} (p : P (.bl b) m) : WE c (tC (.bl b)) ρ m P := we_c _ (fun _ _ => .bl b) p
theorem we_non (p : P .non m) : WE c (tC .non) ρ m P := we_c _ (fun _ _ => .non) p
theorem we_str {x : Str} (p : P (.str x) m) : WE c (tC (.str x)) ρ m P := we_c _ (fun _ _ => .str x) p
theorem we_raw {v : V} (p : P (.raw v) m) : WE c (tC v) ρ m P := we_c _ (fun _ _ => .raw v) p
theorem we_op (h : WE c ta ρ m fun x m1 => WE c tb ρ m1 fun y m2 => WR c r x y m2 P) : WE c (tOp r ta tb) ρ m P := fun σ w H e s o Q q =>
  h σ w H e s o _ fun v d m1 w1 H1 l1 r1 s1 p1 => p1 σ w1 H1 (e.mono l1) s1 (o.mono l1) _ fun v2 d2 m2 w2 H2 l2 r2 s2 p2 =>
    p2 v v2 w2 H2 (r1.mono l2) r2 s2 (o.mono (l1.trans l2)) Q (q.mono (l1.trans l2))
theorem we_un {r : V → Hp → VK → Prop} (h : WE c ta ρ m fun x m1 => WU c r x m1 P) : WE c (tUn r ta) ρ m P := fun σ w H e s o Q q =>
  h σ w H e s o _ fun v d m1 w1 H1 l1 r1 s1 p1 => p1 v w1 H1 r1 s1 (o.mono l1) Q (q.mono l1)
theorem we_cb {r : List V → Hp → VK → Prop} {ta : TA} (h : WA c ta ρ m fun xs m1 => WC c r xs m1 P) : WE c (tCB r ta) ρ m P := fun σ w H e s o Q q =>
  h σ w H e s o _ fun v d m1 w1 H1 l1 r1 s1 p1 => p1 v w1 H1 r1 s1 (o.mono l1) Q (q.mono l1)
theorem wa_nil {P : List D → Store → Prop} (p : P [] m) : WA c tNil ρ m P := fun σ w H e s o Q q => q [] [] m w H (.refl w) .nil s p
theorem wa_cons {tr : TA} {P : List D → Store → Prop} (h : WE c ta ρ m fun x m1 => WA c tr ρ m1 fun xs m2 => P (x :: xs) m2) : WA c (tCons ta tr) ρ m P := fun σ w H e s o Q q =>
  h σ w H e s o _ fun v d m1 w1 H1 l1 r1 s1 p1 => p1 σ w1 H1 (e.mono l1) s1 (o.mono l1) _ fun v2 d2 m2 w2 H2 l2 r2 s2 p2 =>
    q (v :: v2) (d :: d2) m2 w2 H2 (l1.trans l2) (.cons (r1.mono l2) r2) s2 p2
/-- a new tuple; a new list that stands still, or is a cell -/
theorem we_tup {ta : TA} (h : WA c ta ρ m fun xs m1 => xs.length ≤ 10000000 ∧ P (.tup xs) m1) : WE c (tTup ta) ρ m P := fun σ w H e s o Q q =>
  h σ w H e s o _ fun v d m1 w1 H1 l1 r1 s1 ⟨hz, p1⟩ => ⟨by rw [r1.length]; exact Nat.le_trans hz (by decide), fun a ha => by
    obtain ⟨l2, s2⟩ := s1.new (o := .tup v) ha
    exact q _ _ _ _ _ (l1.trans l2) (.tup (.inl (.inl (by show (upd w1.Z a (.tup v)) a = _; exact upd_same))) (r1.mono l2)) s2 p1⟩
theorem we_lst {ta : TA} (h : WA c ta ρ m fun xs m1 => xs.length ≤ 10000000 ∧ P (.lst xs) m1) : WE c (tLst ta) ρ m P := fun σ w H e s o Q q =>
  h σ w H e s o _ fun v d m1 w1 H1 l1 r1 s1 ⟨hz, p1⟩ => ⟨by rw [r1.length]; exact Nat.le_trans hz (by decide), fun a ha => by
    obtain ⟨l2, s2⟩ := s1.new (o := .lst v) ha
    exact q _ _ _ _ _ (l1.trans l2) (.lst (by show (upd w1.Z a (.lst v)) a = _; exact upd_same) (r1.mono l2)) s2 p1⟩
/-- what a new list is as a cell -/
theorem newL {K : PySem.W.Frag} {w : Wd} {m : Store} {H : Hp} {a : Addr} {xs : List V} {ds : List D} (s : StOk K w m H) (ha : H a = none) (r : RepA K w xs ds) :
    ∃ w', w.le w' ∧ StOk K w' (m ++ [.lst ds]) (upd H a (.lst xs)) ∧ Rep K w' (.ref a) (.hd m.length) := by
  obtain ⟨l2, s2⟩ := s.newCell (o := .lst xs) (c := .lst ds) ha fun w' l e => ⟨by rw [e]; exact s.zfree ha, xs, upd_same, r.mono l⟩
  refine ⟨_, l2, s2, .hd ?_⟩
  show (w.al ++ [a])[m.length]? = some a
  rw [← s.len]
  simp
theorem we_lstM {ta : TA} (h : WA c ta ρ m fun xs m1 => xs.length ≤ 10000000 ∧ P (.hd m1.length) (m1 ++ [.lst xs])) : WE c (tLst ta) ρ m P := fun σ w H e s o Q q =>
  h σ w H e s o _ fun v d m1 w1 H1 l1 r1 s1 ⟨hz, p1⟩ => ⟨by rw [r1.length]; exact Nat.le_trans hz (by decide), fun a ha => by
    obtain ⟨w2, l2, s2, r2⟩ := newL s1 ha r1
    exact q _ _ _ _ _ (l1.trans l2) r2 s2 p1⟩
theorem we_if (h : WT c t ρ m fun b m1 => (b = true → WE c ta ρ m1 P) ∧ (b = false → WE c tb ρ m1 P)) : WE c (tIf t ta tb) ρ m P := fun σ w H e s o Q q =>
  h σ w H e s o _ fun b m1 w1 H1 l1 s1 p1 => by
    cases b with
    | true => exact p1.1 rfl σ w1 H1 (e.mono l1) s1 (o.mono l1) Q (q.mono l1)
    | false => exact p1.2 rfl σ w1 H1 (e.mono l1) s1 (o.mono l1) Q (q.mono l1)
theorem we_andV (h : WE c ta ρ m fun x m1 => ∃ b, x = .bl b ∧ (b = true → WE c tb ρ m1 P) ∧ (b = false → P (.bl false) m1)) : WE c (tAndV ta tb) ρ m P := fun σ w H e s o Q q =>
  h σ w H e s o _ fun v d m1 w1 H1 l1 r1 s1 ⟨b, eb, p1, p2⟩ => by
    subst eb
    cases r1
    refine ⟨b, rfl, ?_⟩
    cases b with
    | true => exact p1 rfl σ w1 H1 (e.mono l1) s1 (o.mono l1) Q (q.mono l1)
    | false => exact q _ _ _ _ _ l1 (.bl false) s1 (p2 rfl)
theorem we_orV (h : WE c ta ρ m fun x m1 => ∃ b, x = .bl b ∧ (b = true → P (.bl true) m1) ∧ (b = false → WE c tb ρ m1 P)) : WE c (tOrV ta tb) ρ m P := fun σ w H e s o Q q =>
  h σ w H e s o _ fun v d m1 w1 H1 l1 r1 s1 ⟨b, eb, p1, p2⟩ => by
    subst eb
    cases r1
    refine ⟨b, rfl, ?_⟩
    cases b with
    | true => exact q _ _ _ _ _ l1 (.bl true) s1 (p1 rfl)
    | false => exact p2 rfl σ w1 H1 (e.mono l1) s1 (o.mono l1) Q (q.mono l1)
theorem we_notV (h : WE c ta ρ m fun x m1 => ∃ b, x = .bl b ∧ P (.bl (!b)) m1) : WE c (tNotV ta) ρ m P := fun σ w H e s o Q q =>
  h σ w H e s o _ fun v d m1 w1 H1 l1 r1 s1 ⟨b, eb, p1⟩ => by
    subst eb
    cases r1
    exact ⟨b, rfl, q _ _ _ _ _ l1 (.bl _) s1 p1⟩
def D.isNon : D → Bool
  | .non => true
  | .raw v => decide (v = .non)
  | _ => false
theorem Rep.isNon {K : PySem.W.Frag} {w : Wd} {v : V} {d : D} (r : Rep K w v d) : decide (v = V.non) = d.isNon := by cases r <;> rfl
theorem we_isN (h : WE c ta ρ m fun x m1 => P (.bl x.isNon) m1) : WE c (tIsN ta) ρ m P := fun σ w H e s o Q q =>
  h σ w H e s o _ fun v d m1 w1 H1 l1 r1 s1 p1 => by
    show Q (.bl (decide (v = .non))) H1
    rw [r1.isNon]
    exact q _ _ _ _ _ l1 (.bl _) s1 p1
theorem we_notN (h : WE c ta ρ m fun x m1 => P (.bl (!x.isNon)) m1) : WE c (tNotN ta) ρ m P := fun σ w H e s o Q q =>
  h σ w H e s o _ fun v d m1 w1 H1 l1 r1 s1 p1 => by
    show Q (.bl (!decide (v = .non))) H1
    rw [r1.isNon]
    exact q _ _ _ _ _ l1 (.bl _) s1 p1
theorem we_sl {r : V → Option Int → Option Int → Hp → VK → Prop} {tl th : TO} (h : WE c ta ρ m fun x m1 => WO c tl ρ m1 fun lo m2 => WO c th ρ m2 fun hi m3 => WSl c r x lo hi m3 P) : WE c (tSl r ta tl th) ρ m P := fun σ w H e s o Q q =>
  h σ w H e s o _ fun v d m1 w1 H1 l1 r1 s1 p1 => p1 σ w1 H1 (e.mono l1) s1 (o.mono l1) _ fun lo m2 w2 H2 l2 s2 p2 =>
    p2 σ w2 H2 (e.mono (l1.trans l2)) s2 (o.mono (l1.trans l2)) _ fun hi m3 w3 H3 l3 s3 p3 => p3 v w3 H3 (r1.mono (l2.trans l3)) s3 (o.mono (l1.trans (l2.trans l3))) Q (q.mono (l1.trans (l2.trans l3)))
theorem wo_none {P : Option Int → Store → Prop} (p : P none m) : WO c tNoPart ρ m P := fun σ w H e s o Q q => q none m w H (.refl w) s p
theorem wo_some {P : Option Int → Store → Prop} (h : WE c ta ρ m fun x m1 => ∃ i, x = .int i ∧ P (some i) m1) : WO c (tPart ta) ρ m P := fun σ w H e s o Q q =>
  h σ w H e s o _ fun v d m1 w1 H1 l1 r1 s1 ⟨i, ei, p1⟩ => by
    subst ei
    cases r1
    exact ⟨i, rfl, q _ _ _ _ l1 s1 p1⟩
theorem we_bm {T : String} {r : V → List V → Hp → VK → Prop} {tx : TA} (h : WE c ta ρ m fun x m1 => (∀ w H v, Rep c.K w v x → StOk c.K w m1 H → tyV c.K T v H) ∧ WA c tx ρ m1 fun xs m2 => WM c r x xs m2 P) : WE c (tBM c.K T r ta tx) ρ m P := fun σ w H e s o Q q =>
  h σ w H e s o _ fun v d m1 w1 H1 l1 r1 s1 ⟨ht, p1⟩ => ⟨ht w1 H1 v r1 s1, p1 σ w1 H1 (e.mono l1) s1 (o.mono l1) _ fun v2 d2 m2 w2 H2 l2 r2 s2 p2 =>
    p2 v v2 w2 H2 (r1.mono l2) r2 s2 (o.mono (l1.trans l2)) Q (q.mono (l1.trans l2))⟩
theorem we_bm0 {T : String} {r : V → List V → Hp → VK → Prop} (h : WE c ta ρ m fun x m1 => (∀ w H v, Rep c.K w v x → StOk c.K w m1 H → tyV c.K T v H) ∧ WM c r x [] m1 P) : WE c (tBM0 c.K T r ta) ρ m P := fun σ w H e s o Q q =>
  h σ w H e s o _ fun v d m1 w1 H1 l1 r1 s1 ⟨ht, p1⟩ => ⟨ht w1 H1 v r1 s1, p1 v [] w1 H1 r1 .nil s1 (o.mono l1) Q (q.mono l1)⟩
/-- a chain of two comparisons -/
theorem we_chain {r r' : R2} {tc : TE} (h : WE c ta ρ m fun x m1 => WE c tb ρ m1 fun y m2 => WR c r x y m2 fun z m3 => ∃ b, z = .bl b ∧ (b = true → WE c tc ρ m3 fun y2 m4 => WR c r' y y2 m4 P) ∧ (b = false → P (.bl false) m3)) : WE c (tChain r r' ta tb tc) ρ m P := fun σ w H e s o Q q =>
  h σ w H e s o _ fun v d m1 w1 H1 l1 r1 s1 p1 => p1 σ w1 H1 (e.mono l1) s1 (o.mono l1) _ fun v2 d2 m2 w2 H2 l2 r2 s2 p2 =>
    p2 v v2 w2 H2 (r1.mono l2) r2 s2 (o.mono (l1.trans l2)) _ fun v3 d3 m3 w3 H3 l3 r3 s3 ⟨b, eb, pt, pf⟩ => by
      subst eb
      cases r3
      have l13 := l1.trans (l2.trans l3)
      refine ⟨b, rfl, ?_⟩
      cases b with
      | true => exact pt rfl σ w3 H3 (e.mono l13) s3 (o.mono l13) _ fun v4 d4 m4 w4 H4 l4 r4 s4 p4 => p4 v2 v4 w4 H4 (r2.mono (l3.trans l4)) r4 s4 (o.mono (l13.trans l4)) Q (q.mono (l13.trans l4))
      | false => exact q _ _ _ _ _ l13 (.bl false) s3 (pf rfl)

/-! ### tests -/
theorem wt_test {P : Bool → Store → Prop} (h : WE c te ρ m fun x m1 => ∃ b, x = .bl b ∧ P b m1) : WT c (tTest te) ρ m P := fun σ w H e s o Q q =>
  h σ w H e s o _ fun v d m1 w1 H1 l1 r1 s1 ⟨b, eb, p1⟩ => by
    subst eb
    cases r1
    exact ⟨b, rfl, q _ _ _ _ l1 s1 p1⟩
theorem wt_B {P : Bool → Store → Prop} (h : WE c te ρ m fun x m1 => ∃ b, x = .bl b ∧ P b m1) : WT c (tB te) ρ m P := fun σ w H e s o Q q =>
  h σ w H e s o _ fun v d m1 w1 H1 l1 r1 s1 ⟨b, eb, p1⟩ => by
    subst eb
    cases r1
    exact ⟨b, rfl, q _ _ _ _ l1 s1 p1⟩
theorem wt_yes {P : Bool → Store → Prop} (p : P true m) : WT c tYes ρ m P := fun σ w H e s o Q q => q true m w H (.refl w) s p
theorem wt_not {P : Bool → Store → Prop} (h : WT c t ρ m fun b m1 => P (!b) m1) : WT c (tNot t) ρ m P := fun σ w H e s o Q q =>
  h σ w H e s o _ fun b m1 w1 H1 l1 s1 p1 => q _ _ _ _ l1 s1 p1
theorem wt_and {P : Bool → Store → Prop} (h : WT c t ρ m fun b m1 => (b = true → WT c u ρ m1 P) ∧ (b = false → P false m1)) : WT c (tAnd t u) ρ m P := fun σ w H e s o Q q =>
  h σ w H e s o _ fun b m1 w1 H1 l1 s1 p1 => by
    cases b with
    | true => exact p1.1 rfl σ w1 H1 (e.mono l1) s1 (o.mono l1) Q (q.mono l1)
    | false => exact q _ _ _ _ l1 s1 (p1.2 rfl)
theorem wt_or {P : Bool → Store → Prop} (h : WT c t ρ m fun b m1 => (b = true → P true m1) ∧ (b = false → WT c u ρ m1 P)) : WT c (tOr t u) ρ m P := fun σ w H e s o Q q =>
  h σ w H e s o _ fun b m1 w1 H1 l1 s1 p1 => by
    cases b with
    | true => exact q _ _ _ _ l1 s1 (p1.1 rfl)
    | false => exact p1.2 rfl σ w1 H1 (e.mono l1) s1 (o.mono l1) Q (q.mono l1)
/-- truth of a value -/
def tTru (K : PySem.W.Frag) (ta : TE) : TT := fun σ H Q => ta σ H fun x H' => ∃ k, TruV K x H' k ∧ Q k H'
def lstAt (m : Store) (k : Nat) : Option (List D) := match m[k]? with
  | some (.lst ds) => some ds
  | _ => none
theorem lstAt_eq {m : Store} {k : Nat} {ds : List D} (h : lstAt m k = some ds) : m[k]? = some (.lst ds) := by
  unfold lstAt at h
  split at h
  · rename_i es hes
    rw [← Option.some.inj h]
    exact hes
  · cases h
theorem lstAt_of {m : Store} {k : Nat} {ds : List D} (h : m[k]? = some (.lst ds)) : lstAt m k = some ds := by
  unfold lstAt
  rw [h]
def truD (m : Store) : D → Option Bool
  | .non => some false | .bl b => some b | .int i => some (i != 0)
  | .lst ds => some (!ds.isEmpty) | .tup ds => some (!ds.isEmpty)
  | .hd k => (lstAt m k).map fun ds => !ds.isEmpty
  | _ => none
theorem StOk.cellL {K : PySem.W.Frag} {w : Wd} {H : Hp} (s : StOk K w m H) {k : Nat} {a : Addr} {ds : List D} (r : Rep K w (.ref a) (.hd k)) (e : m[k]? = some (.lst ds)) : w.al[k]? = some a ∧ w.Z a = none ∧ ∃ xs, H a = some (.lst xs) ∧ RepA K w xs ds := by
  cases r with
  | hd h => exact ⟨h, s.cell k a _ h e⟩
theorem isE {α β : Type} {a : List α} {b : List β} (h : a.length = b.length) : a.isEmpty = b.isEmpty := by
  cases a <;> cases b <;> simp_all
theorem wt_tru {P : Bool → Store → Prop} (h : WE c ta ρ m fun x m1 => ∃ b, truD m1 x = some b ∧ P b m1) : WT c (tTru c.K ta) ρ m P := fun σ w H e s o Q q =>
  h σ w H e s o _ fun v d m1 w1 H1 l1 r1 s1 ⟨b, eb, p1⟩ => by
    refine ⟨b, ?_, q _ _ _ _ l1 s1 p1⟩
    cases r1 with
    | non => exact (Option.some.inj eb).symm
    | bl b => exact (Option.some.inj eb).symm
    | int i => exact (Option.some.inj eb).symm
    | str x => cases eb
    | tup a b => exact .inr (.inl ⟨_, ex_t s1.ex a, by rw [isE b.length]; exact (Option.some.inj eb).symm⟩)
    | lst a b => exact .inl ⟨_, .inl (.inl (s1.ex _ _ a)), by rw [isE b.length]; exact (Option.some.inj eb).symm⟩
    | hd a =>
      obtain ⟨ds, hds, e3⟩ := Option.map_eq_some_iff.mp (show (lstAt m1 _).map (fun ds => !ds.isEmpty) = some b from eb)
      obtain ⟨_, _, xs, hx, rr⟩ := s1.cellL (.hd a) (lstAt_eq hds)
      exact .inl ⟨xs, .inl (.inl hx), by rw [isE rr.length]; exact e3.symm⟩
    | ins a b cc => cases eb
    | raw v => cases eb
    | scr a => cases eb

/-! ### operations by value -/
theorem wr_I0 {g : Int → Int → V} {i j : Int} {d : D} (hd : ∀ K w, Rep K w (g i j) d) (p : P d m) : WR c (rI0 g) (.int i) (.int j) m P := fun vx vy w H rx ry s o Q q => by
  cases rx
  cases ry
  exact ⟨i, j, rfl, rfl, q _ _ _ _ _ (.refl w) (hd _ _) s p⟩
theorem wr_I {C : Int → Int → Prop} {g : Int → Int → V} {i j : Int} {d : D} (hd : ∀ K w, Rep K w (g i j) d) (hc : C i j) (p : P d m) : WR c (rI C g) (.int i) (.int j) m P := fun vx vy w H rx ry s o Q q => by
  cases rx
  cases ry
  exact ⟨i, j, rfl, rfl, hc, q _ _ _ _ _ (.refl w) (hd _ _) s p⟩
theorem wr_int {f : Int → Int → Int} {i j : Int} (p : P (.int (f i j)) m) : WR c (rI0 fun a b => .int (f a b)) (.int i) (.int j) m P := wr_I0 (fun _ _ => .int _) p
theorem wr_cmp {f : Int → Int → Bool} {i j : Int} (p : P (.bl (f i j)) m) : WR c (rI0 fun a b => .bl (f a b)) (.int i) (.int j) m P := wr_I0 (fun _ _ => .bl _) p
theorem wr_intC {C : Int → Int → Prop} {f : Int → Int → Int} {i j : Int} (p : C i j ∧ P (.int (f i j)) m) : WR c (rI C fun a b => .int (f a b)) (.int i) (.int j) m P := wr_I (fun _ _ => .int _) p.1 p.2
theorem wu_int {g : Int → V} {i : Int} {d : D} (hd : ∀ K w, Rep K w (g i) d) (p : P d m) : WU c (rU g) (.int i) m P := fun vx w H rx s o Q q => by
  cases rx
  exact ⟨i, rfl, q _ _ _ _ _ (.refl w) (hd _ _) s p⟩
/-- flat data, as they are compared -/
def D.flat : D → Option V
  | .non => some .non | .bl b => some (.bl b) | .int i => some (.int i) | .str x => some (.str x)
  | _ => none
theorem Rep.flat {K : PySem.W.Frag} {w : Wd} {v v' : V} {d : D} (r : Rep K w v d) (h : d.flat = some v') : v = v' := by
  cases r <;> simp [D.flat] at h <;> exact h
theorem D.flat_flatV {v : V} {d : D} (h : d.flat = some v) : flatV v = true := by
  cases d <;> simp [D.flat] at h <;> subst h <;> rfl
theorem wr_eq {x y : D} {a b : V} (hx : x.flat = some a) (hy : y.flat = some b) (hs : scal a b = true) (p : P (.bl (decide (a = b))) m) : WR c rEq x y m P := fun vx vy w H rx ry s o Q q => by
  have ea := rx.flat hx
  have eb := ry.flat hy
  subst ea
  subst eb
  exact ⟨hs, q _ _ _ _ _ (.refl w) (.bl _) s p⟩
theorem wr_ne {x y : D} {a b : V} (hx : x.flat = some a) (hy : y.flat = some b) (hs : scal a b = true) (p : P (.bl (!decide (a = b))) m) : WR c rNe x y m P := fun vx vy w H rx ry s o Q q => by
  have ea := rx.flat hx
  have eb := ry.flat hy
  subst ea
  subst eb
  exact ⟨hs, q _ _ _ _ _ (.refl w) (.bl _) s p⟩
/-- what a list or a tuple holds -/
def itemsD (m : Store) : D → Option (List D)
  | .lst ds => some ds | .tup ds => some ds
  | .scr ns => some (ns.map D.int)
  | .hd k => lstAt m k
  | _ => none
theorem RepA.ints {K : PySem.W.Frag} {w : Wd} : ∀ ns : List Int, RepA K w (ns.map V.int) (ns.map D.int)
  | [] => .nil
  | n :: ns => .cons (.int n) (RepA.ints ns)
theorem StOk.items {K : PySem.W.Frag} {w : Wd} {H : Hp} (s : StOk K w m H) {v : V} {d : D} {ds : List D} (r : Rep K w v d) (e : itemsD m d = some ds) : ∃ a xs, v = .ref a ∧ (SqL K H a xs ∨ SqT K H a xs) ∧ RepA K w xs ds := by
  cases r with
  | tup a b =>
    rw [← Option.some.inj e]
    exact ⟨_, _, rfl, .inr (ex_t s.ex a), b⟩
  | lst a b =>
    rw [← Option.some.inj e]
    exact ⟨_, _, rfl, .inl (.inl (.inl (s.ex _ _ a))), b⟩
  | hd a =>
    obtain ⟨_, _, xs, hx, rr⟩ := s.cellL (.hd a) (lstAt_eq (show lstAt m _ = some ds from e))
    exact ⟨_, xs, rfl, .inl (.inl (.inl hx)), rr⟩
  | non => cases e
  | bl b => cases e
  | int i => cases e
  | str x => cases e
  | ins a b cc => cases e
  | scr a =>
    rw [← Option.some.inj e]
    exact ⟨_, _, rfl, .inl (ex_l s.ex a), RepA.ints _⟩
  | raw v => cases e
/-- .. of a list -/
def listD (m : Store) : D → Option (List D)
  | .lst ds => some ds
  | .hd k => lstAt m k
  | _ => none
theorem StOk.list {K : PySem.W.Frag} {w : Wd} {H : Hp} (s : StOk K w m H) {v : V} {d : D} {ds : List D} (r : Rep K w v d) (e : listD m d = some ds) : ∃ a xs, v = .ref a ∧ H a = some (.lst xs) ∧ RepA K w xs ds := by
  cases r with
  | lst a b =>
    rw [← Option.some.inj e]
    exact ⟨_, _, rfl, s.ex _ _ a, b⟩
  | hd a =>
    obtain ⟨_, _, xs, hx, rr⟩ := s.cellL (.hd a) (lstAt_eq (show lstAt m _ = some ds from e))
    exact ⟨_, xs, rfl, hx, rr⟩
  | tup a b => cases e
  | non => cases e
  | bl b => cases e
  | int i => cases e
  | str x => cases e
  | ins a b cc => cases e
  | scr a => cases e
  | raw v => cases e
theorem wr_ixL {x : D} {i : Int} {ds : List D} {d : D} (hx : listD m x = some ds) (h : atI ds i = some d) (p : P d m) : WR c (rIxL c.K) x (.int i) m P := fun vx vy w H rx ry s o Q q => by
  obtain ⟨a, xs, rfl, hH, rr⟩ := s.list rx hx
  cases ry
  obtain ⟨v, hv, rv⟩ := rr.at h
  exact ⟨a, xs, i, v, rfl, rfl, .inl (.inl hH), hv, q _ _ _ _ _ (.refl w) rv s p⟩
theorem wr_ixT {i : Int} {ds : List D} {d : D} (h : atI ds i = some d) (p : P d m) : WR c (rIxT c.K) (.tup ds) (.int i) m P := fun vx vy w H rx ry s o Q q => by
  cases rx with
  | tup a b =>
    cases ry
    obtain ⟨v, hv, rv⟩ := b.at h
    exact ⟨_, _, i, v, rfl, rfl, ex_t s.ex a, hv, q _ _ _ _ _ (.refl w) rv s p⟩
theorem wr_ix {x : D} {i : Int} {ds : List D} {d : D} (hx : itemsD m x = some ds) (h : atI ds i = some d) (p : P d m) : WR c (rIx c.K) x (.int i) m P := fun vx vy w H rx ry s o Q q => by
  obtain ⟨a, xs, rfl, hq, rr⟩ := s.items rx hx
  cases ry
  obtain ⟨v, hv, rv⟩ := rr.at h
  have k := q _ _ _ _ _ (.refl w) rv s p
  rcases hq with hq | hq
  · exact .inl ⟨a, xs, i, v, rfl, rfl, hq, hv, k⟩
  · exact .inr (.inl ⟨a, xs, i, v, rfl, rfl, hq, hv, k⟩)
def cutZ (xs : List D) (lo hi : Option Int) : List D := (xs.drop (HT.sIx xs.length 0 lo)).take (HT.sIx xs.length xs.length hi - HT.sIx xs.length 0 lo)
theorem RepA.cutL {K : PySem.W.Frag} {w : Wd} {xs : List V} {ds : List D} (r : RepA K w xs ds) (lo hi : Option Int) : RepA K w (L2.cutV xs lo hi) (cutZ ds lo hi) := by
  unfold L2.cutV cutZ
  rw [r.length]
  exact (r.drop _).take _
theorem wsl_list {x : D} {lo hi : Option Int} {ds : List D} (hx : listD m x = some ds) (p : P (.lst (cutZ ds lo hi)) m) : WSl c (rSlL c.K) x lo hi m P := fun vx w H rx s o Q q => by
  obtain ⟨a, xs, rfl, hH, rr⟩ := s.list rx hx
  refine ⟨a, xs, rfl, .inl (.inl hH), fun b hb => ?_⟩
  obtain ⟨l2, s2⟩ := s.new (o := .lst (L2.cutV xs lo hi)) hb
  exact q _ _ _ _ _ l2 (.lst (by show (upd w.Z b _) b = _; exact upd_same) ((rr.cutL lo hi).mono l2)) s2 p
theorem wsl_listM {x : D} {lo hi : Option Int} {ds : List D} (hx : listD m x = some ds) (p : P (.hd m.length) (m ++ [.lst (cutZ ds lo hi)])) : WSl c (rSlL c.K) x lo hi m P := fun vx w H rx s o Q q => by
  obtain ⟨a, xs, rfl, hH, rr⟩ := s.list rx hx
  refine ⟨a, xs, rfl, .inl (.inl hH), fun b hb => ?_⟩
  obtain ⟨w2, l2, s2, r2⟩ := newL s hb (rr.cutL lo hi)
  exact q _ _ _ _ _ l2 r2 s2 p
theorem wr_cat {x y : D} {xs ys : List D} (hx : listD m x = some xs) (hy : listD m y = some ys) (hl : xs.length + ys.length ≤ 10000000) (p : P (.lst (xs ++ ys)) m) : WR c rCat x y m P := fun vx vy w H rx ry s o Q q => by
  obtain ⟨a, us, rfl, h1, r1⟩ := s.list rx hx
  obtain ⟨b, vs, rfl, h2, r2⟩ := s.list ry hy
  refine ⟨a, b, us, vs, rfl, rfl, h1, h2, by rw [r1.length, r2.length]; exact Nat.le_trans hl (by decide), fun e he => ?_⟩
  obtain ⟨l2, s2⟩ := s.new (o := .lst (us ++ vs)) he
  exact q _ _ _ _ _ l2 (.lst (by show (upd w.Z e _) e = _; exact upd_same) ((r1.append r2).mono l2)) s2 p
theorem wr_rep {x : D} {k : Int} {xs : List D} (hx : listD m x = some xs) (hk : -1000 ≤ k ∧ k ≤ 1000) (hl : xs.length ≤ 1000) (p : P (.lst (List.replicate k.toNat xs).flatten) m) : WR c rRep x (.int k) m P := fun vx vy w H rx ry s o Q q => by
  obtain ⟨a, us, rfl, h1, r1⟩ := s.list rx hx
  cases ry
  refine ⟨a, k, us, rfl, rfl, h1, by omega, by omega, ?_, ?_⟩
  · rw [r1.length]
    refine Nat.le_trans (Nat.mul_le_mul hl (by omega : k.toNat ≤ 1000)) (by decide)
  · have rr : ∀ n, RepA c.K w (List.replicate n us).flatten (List.replicate n xs).flatten := fun n => by
      induction n with
      | zero => exact .nil
      | succ n ih =>
        rw [List.replicate_succ, List.replicate_succ, List.flatten_cons, List.flatten_cons]
        exact r1.append ih
    intro b hb
    obtain ⟨l2, s2⟩ := s.new (o := .lst (List.replicate k.toNat us).flatten) hb
    exact q _ _ _ _ _ l2 (.lst (by show (upd w.Z b _) b = _; exact upd_same) ((rr k.toNat).mono l2)) s2 p
def inD (x : V) (ys : List V) : Bool := inV x ys
theorem RepA.flat {K : PySem.W.Frag} {w : Wd} : ∀ {vs us : List V} {ds : List D}, RepA K w vs ds → ds.map D.flat = us.map some → vs = us
  | _, [], _, .nil, _ => rfl
  | _, _ :: _, _, .nil, e => by simp at e
  | _, [], _, .cons a b, e => by simp at e
  | _, u :: us, _, .cons a b, e => by
    rw [List.map_cons, List.map_cons] at e
    injection e with e1 e2
    rw [a.flat e1, RepA.flat b e2]
theorem all_flat : ∀ {us : List V} {ds : List D}, ds.map D.flat = us.map some → us.all flatV = true
  | [], [], _ => rfl
  | [], _ :: _, e => by simp at e
  | _ :: _, [], e => by simp at e
  | u :: us, d :: ds, e => by
    rw [List.map_cons, List.map_cons] at e
    injection e with e1 e2
    rw [List.all_cons, D.flat_flatV e1, all_flat e2]
    rfl
theorem wr_in {neg : Bool} {x y : D} {a : V} {ys : List D} {us : List V} (hx : x.flat = some a) (hy : itemsD m y = some ys) (hu : ys.map D.flat = us.map some) (p : P (.bl (if neg then !inV a us else inV a us)) m) : WR c (rIn c.K neg) x y m P := fun vx vy w H rx ry s o Q q => by
  obtain ⟨b, xs, rfl, hq, rr⟩ := s.items ry hy
  have ea := rx.flat hx
  subst ea
  have eu := rr.flat hu
  subst eu
  exact ⟨b, xs, rfl, hq, D.flat_flatV hx, all_flat hu, q _ _ _ _ _ (.refl w) (.bl _) s p⟩
/-! ### built-ins by value -/
theorem wc_len {x : D} {ds : List D} (hx : itemsD m x = some ds) (p : P (.int (ds.length : Int)) m) : WC c (fun xs H Q => ∃ p ys, xs = [V.ref p] ∧ (SqL c.K H p ys ∨ SqT c.K H p ys) ∧ Q (V.int ys.length) H) [x] m P := fun vs w H rs s o Q q => by
  cases rs with
  | cons r1 r2 =>
    cases r2
    obtain ⟨a, xs, rfl, hq, rr⟩ := s.items r1 hx
    refine ⟨a, xs, rfl, hq, q _ _ _ _ _ (.refl w) (by rw [rr.length]; exact .int _) s p⟩
theorem wc_list {x : D} {ds : List D} (hx : itemsD m x = some ds) (p : P (.lst ds) m) : WC c (fun xs H Q => ∃ p ys, xs = [V.ref p] ∧ (SqL c.K H p ys ∨ SqT c.K H p ys) ∧ ∀ (l : Addr), H l = none → Q (V.ref l) (upd H l (HO.lst ys))) [x] m P := fun vs w H rs s o Q q => by
  cases rs with
  | cons r1 r2 =>
    cases r2
    obtain ⟨a, xs, rfl, hq, rr⟩ := s.items r1 hx
    refine ⟨a, xs, rfl, hq, fun b hb => ?_⟩
    obtain ⟨l2, s2⟩ := s.new (o := .lst xs) hb
    exact q _ _ _ _ _ l2 (.lst (by show (upd w.Z b _) b = _; exact upd_same) (rr.mono l2)) s2 p
theorem wc_listM {x : D} {ds : List D} (hx : itemsD m x = some ds) (p : P (.hd m.length) (m ++ [.lst ds])) : WC c (fun xs H Q => ∃ p ys, xs = [V.ref p] ∧ (SqL c.K H p ys ∨ SqT c.K H p ys) ∧ ∀ (l : Addr), H l = none → Q (V.ref l) (upd H l (HO.lst ys))) [x] m P := fun vs w H rs s o Q q => by
  cases rs with
  | cons r1 r2 =>
    cases r2
    obtain ⟨a, xs, rfl, hq, rr⟩ := s.items r1 hx
    refine ⟨a, xs, rfl, hq, fun b hb => ?_⟩
    obtain ⟨w2, l2, s2, r3⟩ := newL s hb rr
    exact q _ _ _ _ _ l2 r3 s2 p
theorem wc_tuple {x : D} {ds : List D} (hx : itemsD m x = some ds) (p : P (.tup ds) m) : WC c (fun xs H Q => ∃ p ys, xs = [V.ref p] ∧ ((SqL c.K H p ys ∧ ∀ (l : Addr), H l = none → Q (V.ref l) (upd H l (HO.tup ys))) ∨ SqT c.K H p ys ∧ Q (V.ref p) H)) [x] m P := fun vs w H rs s o Q q => by
  cases rs with
  | cons r1 r2 =>
    cases r2
    have hl : ∀ {a xs}, SqL c.K H a xs → RepA c.K w xs ds → ∀ (l : Addr), H l = none → Q (V.ref l) (upd H l (HO.tup xs)) := fun {a xs} _ rr b hb => by
      obtain ⟨l2, s2⟩ := s.new (o := .tup xs) hb
      exact q _ _ _ _ _ l2 (.tup (.inl (.inl (by show (upd w.Z b _) b = _; exact upd_same))) (rr.mono l2)) s2 p
    cases x with
    | tup es =>
      have e := Option.some.inj hx
      subst e
      cases r1 with
      | tup a b => exact ⟨_, _, rfl, .inr ⟨ex_t s.ex a, q _ _ _ _ _ (.refl w) (.tup a b) s p⟩⟩
    | lst es =>
      obtain ⟨a, xs, rfl, hH, rr⟩ := s.list r1 (ds := ds) hx
      exact ⟨a, xs, rfl, .inl ⟨.inl (.inl hH), hl (.inl (.inl hH)) rr⟩⟩
    | hd k =>
      obtain ⟨a, xs, rfl, hH, rr⟩ := s.list r1 (ds := ds) hx
      exact ⟨a, xs, rfl, .inl ⟨.inl (.inl hH), hl (.inl (.inl hH)) rr⟩⟩
    | non => cases hx
    | bl b => cases hx
    | int i => cases hx
    | str x => cases hx
    | ins a b cc => cases hx
    | scr ns =>
      have e := Option.some.inj hx
      subst e
      cases r1 with
      | scr a => exact ⟨_, _, rfl, .inl ⟨ex_l s.ex a, hl (ex_l s.ex a) (RepA.ints _)⟩⟩
    | raw v => cases hx
theorem wc_max2 {i j : Int} (p : P (.int (if j > i then j else i)) m) : WC c (fun xs H Q => ∃ i j, xs = [V.int i, V.int j] ∧ Q (V.int (if j > i then j else i)) H) [.int i, .int j] m P := fun vs w H rs s o Q q => by
  cases rs with
  | cons r1 r2 =>
    cases r2 with
    | cons r3 r4 =>
      cases r4
      cases r1
      cases r3
      exact ⟨i, j, rfl, q _ _ _ _ _ (.refl w) (.int _) s p⟩
theorem wc_min2 {i j : Int} (p : P (.int (if j < i then j else i)) m) : WC c (fun xs H Q => ∃ i j, xs = [V.int i, V.int j] ∧ Q (V.int (if j < i then j else i)) H) [.int i, .int j] m P := fun vs w H rs s o Q q => by
  cases rs with
  | cons r1 r2 =>
    cases r2 with
    | cons r3 r4 =>
      cases r4
      cases r1
      cases r3
      exact ⟨i, j, rfl, q _ _ _ _ _ (.refl w) (.int _) s p⟩
theorem wc_intB {b : Bool} (p : P (.int (if b = true then 1 else 0)) m) : WC c (fun xs H Q => (∃ i, xs = [V.int i] ∧ Q (V.int i) H) ∨ ∃ k, xs = [V.bl k] ∧ Q (V.int (if k = true then 1 else 0)) H) [.bl b] m P := fun vs w H rs s o Q q => by
  cases rs with
  | cons r1 r2 =>
    cases r2
    cases r1
    exact .inr ⟨b, rfl, q _ _ _ _ _ (.refl w) (.int _) s p⟩
theorem wc_intI {i : Int} (p : P (.int i) m) : WC c (fun xs H Q => (∃ i, xs = [V.int i] ∧ Q (V.int i) H) ∨ ∃ k, xs = [V.bl k] ∧ Q (V.int (if k = true then 1 else 0)) H) [.int i] m P := fun vs w H rs s o Q q => by
  cases rs with
  | cons r1 r2 =>
    cases r2
    cases r1
    exact .inl ⟨i, rfl, q _ _ _ _ _ (.refl w) (.int _) s p⟩
end
end KR

/-! KR3: statements, loops, comprehensions, calls, defs over the machine of KR. -/
namespace KR
open PySem L2 Evl

structure Ed where
  nx : Env → Store → Prop
  rt : PD
  bk : Env → Store → Prop := fun _ _ => False
  ct : Env → Store → Prop := fun _ _ => False
def KtS (c : Ct) (w : Wd) (P : Env → Store → Prop) (Q : L2.St → Hp → Prop) : Prop := ∀ (σ' : L2.St) (ρ' : Env) (m' : Store) (w' : Wd) (H' : Hp), w.le w' → EnvR c.K w' σ' ρ' → StOk c.K w' m' H' → P ρ' m' → Q σ' H'
theorem KtS.mono {c : Ct} {w w' : Wd} {P : Env → Store → Prop} {Q : L2.St → Hp → Prop} (k : KtS c w P Q) (l : w.le w') : KtS c w' P Q := fun a b d w2 H2 l2 => k a b d w2 H2 (l.trans l2)
structure EdOk (c : Ct) (w : Wd) (D : Ends) (B : Ed) : Prop where
  nx : KtS c w B.nx D.nx
  rt : Kt c w B.rt D.rt
  bk : KtS c w B.bk D.bk
  ct : KtS c w B.ct D.ct
theorem EdOk.mono {c : Ct} {w w' : Wd} {D : Ends} {B : Ed} (k : EdOk c w D B) (l : w.le w') : EdOk c w' D B := ⟨k.nx.mono l, k.rt.mono l, k.bk.mono l, k.ct.mono l⟩
def WS (c : Ct) (ts : TS) (ρ : Env) (m : Store) (B : Ed) : Prop := ∀ σ w H, EnvR c.K w σ ρ → StOk c.K w m H → c.ok w → ∀ D : Ends, EdOk c w D B → ts D σ H
def WG (c : Ct) (g : TG) (x : D) (ρ : Env) (m : Store) (P : Env → Store → Prop) : Prop := ∀ v σ w H, Rep c.K w v x → EnvR c.K w σ ρ → StOk c.K w m H → c.ok w → ∀ Q : L2.St → Hp → Prop, KtS c w P Q → g v σ H Q
def WGs (c : Ct) (g : TGs) (xs : List D) (ρ : Env) (m : Store) (P : Env → Store → Prop) : Prop := ∀ vs σ w H, RepA c.K w vs xs → EnvR c.K w σ ρ → StOk c.K w m H → c.ok w → ∀ Q : L2.St → Hp → Prop, KtS c w P Q → g vs σ H Q
structure IterOk (c : Ct) (J : It) (w : Wd) (n : Nat) (y : Nat → D) : Prop where
  go : ∀ i w' m' H', i < n → w.le w' → StOk c.K w' m' H' → J.go i H' ∧ ∀ x H2, J.yld i H' x H2 → ∃ w2, w'.le w2 ∧ StOk c.K w2 m' H2 ∧ Rep c.K w2 x (y i)
  stop : ∀ w' m' H', w.le w' → StOk c.K w' m' H' → J.stop n H'
theorem IterOk.mono {c : Ct} {J : It} {w w' : Wd} {n : Nat} {y : Nat → D} (k : IterOk c J w n y) (l : w.le w') : IterOk c J w' n y := ⟨fun i w2 m2 H2 hi l2 => k.go i w2 m2 H2 hi (l.trans l2), fun w2 m2 H2 l2 => k.stop w2 m2 H2 (l.trans l2)⟩
def WI (c : Ct) (wi : TI) (ρ : Env) (m : Store) (P : Nat → (Nat → D) → Store → Prop) : Prop := ∀ σ w H, EnvR c.K w σ ρ → StOk c.K w m H → c.ok w → ∀ R : It → Hp → Prop,
  (∀ J n y m' w' H', w.le w' → StOk c.K w' m' H' → IterOk c J w' n y → P n y m' → R J H') → wi σ H R

section
variable {c : Ct} {ρ : Env} {m : Store} {P : PD} {B : Ed} {ta tb te : TE} {tc : TT} {t u : TS} {g : TG}
/-! ### statements -/
theorem ws_next (p : B.nx ρ m) : WS c tNext ρ m B := fun σ w H e s o D k => k.nx σ ρ m w H (.refl w) e s p
theorem ws_seq (h : WS c t ρ m { B with nx := fun ρ1 m1 => WS c u ρ1 m1 B }) : WS c (tSeq t u) ρ m B := fun σ w H e s o D k =>
  h σ w H e s o { D with nx := u D } ⟨fun σ1 ρ1 m1 w1 H1 l1 e1 s1 p1 => p1 σ1 w1 H1 e1 s1 (o.mono l1) D (k.mono l1), k.rt, k.bk, k.ct⟩
theorem ws_asg (h : WE c te ρ m fun d m1 => WG c g d ρ m1 B.nx) : WS c (tAsg te g) ρ m B := fun σ w H e s o D k =>
  h σ w H e s o _ fun v d m1 w1 H1 l1 r1 s1 p1 => p1 v σ w1 H1 r1 (e.mono l1) s1 (o.mono l1) D.nx (k.nx.mono l1)
theorem wg_name {i : Nat} {x : D} {P : Env → Store → Prop} (p : P (ρ.set i (some x)) m) : WG c (gName i) x ρ m P := fun v σ w H r e s o Q q => q _ _ _ _ _ (.refl w) (e.set i r) s p
theorem wgs_nil {P : Env → Store → Prop} (p : P ρ m) : WGs c gNil [] ρ m P := fun vs σ w H r e s o Q q => by
  cases r
  exact ⟨rfl, q _ _ _ _ _ (.refl w) e s p⟩
theorem wgs_cons {gs : TGs} {x : D} {xs : List D} {P : Env → Store → Prop} (h : WG c g x ρ m fun ρ1 m1 => WGs c gs xs ρ1 m1 P) : WGs c (gCons g gs) (x :: xs) ρ m P := fun vs σ w H r e s o Q q => by
  cases r with
  | cons r1 r2 =>
    exact ⟨_, _, rfl, h _ σ w H r1 e s o _ fun σ1 ρ1 m1 w1 H1 l1 e1 s1 p1 => p1 _ σ1 w1 H1 (r2.mono l1) e1 s1 (o.mono l1) Q (q.mono l1)⟩
theorem wg_tup {n : Nat} {gs : TGs} {xs : List D} {P : Env → Store → Prop} (hn : xs.length = n) (h : WGs c gs xs ρ m P) : WG c (gTup c.K n gs) (.tup xs) ρ m P := fun v σ w H r e s o Q q => by
  cases r with
  | tup a b => exact ⟨_, _, rfl, ex_t s.ex a, by rw [b.length]; exact hn, h _ σ w H b e s o Q q⟩
theorem wg_sub {to ti : TE} {st : TSet} {x : D} {P : Env → Store → Prop}
    (h : WE c to ρ m fun ob m1 => WE c ti ρ m1 fun ix m2 => ∀ vo vi v w H, Rep c.K w vo ob → Rep c.K w vi ix → Rep c.K w v x → StOk c.K w m2 H → ∀ Q : Hp → Prop, (∀ m' H', StOk c.K w m' H' → P ρ m' → Q H') → st vo vi v H Q) : WG c (gSub to ti st) x ρ m P := fun v σ w H r e s o Q q =>
  h σ w H e s o _ fun vo ob m1 w1 H1 l1 r1 s1 p1 => p1 σ w1 H1 (e.mono l1) s1 (o.mono l1) _ fun vi ix m2 w2 H2 l2 r2 s2 p2 =>
    p2 vo vi v w2 H2 (r1.mono l2) r2 (r.mono (l1.trans l2)) s2 _ fun m3 H3 s3 p3 => q _ _ _ w2 _ (l1.trans l2) (e.mono (l1.trans l2)) s3 p3
/-- l[i] = x, l a cell -/
theorem wg_setL {to ti : TE} {x : D} {P : Env → Store → Prop} (h : WE c to ρ m fun ob m1 => WE c ti ρ m1 fun ix m2 => ∃ k ds i j, ob = .hd k ∧ ix = .int i ∧ m2[k]? = some (.lst ds) ∧ ixN ds.length i = some j ∧ P ρ (m2.set k (.lst (ds.set j x)))) :
    WG c (gSub to ti rSetL) x ρ m P := wg_sub (h.imp fun ob m1 h1 => h1.imp fun ix m2 ⟨k, ds, i, j, eo, ei, hm, hj, p⟩ vo vi v w H ro ri rv s Q q => by
  subst eo
  subst ei
  cases ri
  cases ro with
  | hd ha =>
    obtain ⟨z, xs, hx, rr⟩ := s.cell k _ _ ha hm
    have s2 : StOk c.K w (m2.set k (.lst (ds.set j x))) (upd H _ (.lst (xs.set j v))) := s.change ha z (show CellR c.K w _ _ (.lst (ds.set j x)) from ⟨z, _, upd_same, rr.set rv j⟩)
    exact ⟨_, xs, i, j, rfl, rfl, hx, by rw [rr.length]; exact hj, q _ _ s2 p⟩)
theorem ws_ret (h : WE c te ρ m B.rt) : WS c (tRet te) ρ m B := fun σ w H e s o D k => h σ w H e s o D.rt k.rt
theorem ws_retN (p : B.rt .non m) : WS c tRetN ρ m B := fun σ w H e s o D k => k.rt .non .non m w H (.refl w) .non s p
theorem ws_drop (h : WE c te ρ m fun _ m1 => B.nx ρ m1) : WS c (tDrop te) ρ m B := fun σ w H e s o D k =>
  h σ w H e s o _ fun v d m1 w1 H1 l1 r1 s1 p1 => k.nx _ _ _ _ _ l1 (e.mono l1) s1 p1
theorem ws_if (h : WT c tc ρ m fun b m1 => (b = true → WS c t ρ m1 B) ∧ (b = false → WS c u ρ m1 B)) : WS c (tIfS tc t u) ρ m B := fun σ w H e s o D k =>
  h σ w H e s o _ fun b m1 w1 H1 l1 s1 p1 => by
    cases b with
    | true => exact p1.1 rfl σ w1 H1 (e.mono l1) s1 (o.mono l1) D (k.mono l1)
    | false => exact p1.2 rfl σ w1 H1 (e.mono l1) s1 (o.mono l1) D (k.mono l1)
theorem ws_brk (p : B.bk ρ m) : WS c tBreak ρ m B := fun σ w H e s o D k => k.bk σ ρ m w H (.refl w) e s p
theorem ws_cont (p : B.ct ρ m) : WS c tCont ρ m B := fun σ w H e s o D k => k.ct σ ρ m w H (.refl w) e s p
theorem ws_par {i j : Nat} {tx : TA} (h : WA c tx ρ m fun ds m1 => ∃ x y, ds = [x, y] ∧ B.nx ((ρ.set i (some x)).set j (some y)) m1) : WS c (tPar i j tx) ρ m B := fun σ w H e s o D k =>
  h σ w H e s o _ fun v d m1 w1 H1 l1 r1 s1 ⟨x, y, ed, p1⟩ => by
    subst ed
    cases r1 with
    | cons r1 r2 => cases r2 with
      | cons r2 r3 =>
        cases r3
        exact ⟨_, _, rfl, k.nx _ _ _ _ _ l1 (((e.mono l1).set i r1).set j r2) s1 p1⟩
/-- what an env tells may be forgotten -/
def Sub (ρ' ρ : Env) : Prop := ρ'.length = ρ.length ∧ ∀ (i : Nat) (d : D), ρ'[i]? = some (some d) → ρ[i]? = some (some d)
theorem EnvR.sub {K : PySem.W.Frag} {w : Wd} {σ : L2.St} {ρ ρ' : Env} (h : EnvR K w σ ρ) (k : Sub ρ' ρ) : EnvR K w σ ρ' := ⟨h.len.trans k.1.symm, fun i d e => h.at_ i d (k.2 i d e)⟩
theorem ws_sub {ρ' : Env} (k : Sub ρ' ρ) (h : WS c t ρ' m B) : WS c t ρ m B := fun σ w H e s o D q => h σ w H (e.sub k) s o D q
/-- a list in slot i that will change no more -/
theorem ws_freeze {i k : Nat} {ds : List D} (hi : ρ[i]? = some (some (.hd k))) (hm : m[k]? = some (.lst ds)) (h : WS c t (ρ.set i (some (.lst ds))) (m.set k .dead) B) : WS c t ρ m B := fun σ w H e s o D q => by
  obtain ⟨v, hv, rv⟩ := e.at_ i _ hi
  cases rv with
  | hd ha =>
    rename_i ad
    obtain ⟨w', l, _, s', r'⟩ := s.freeze ha hm
    have e2 := (e.mono l).set i r'
    have es : σ.set i (some (.ref ad)) = σ := by
      have hl := (List.getElem?_eq_some_iff.mp hv).1
      apply List.ext_getElem?
      intro j
      by_cases hj : j = i
      · subst hj
        rw [List.getElem?_set_self hl, hv]
      · rw [List.getElem?_set_ne (fun z => hj z.symm)]
    rw [es] at e2
    exact h σ w' H e2 s' (o.mono l) D (q.mono l)
theorem we_wf (h : Wf m → WE c te ρ m P) : WE c te ρ m P := fun σ w H e s o Q q => h s.wf σ w H e s o Q q
theorem ws_wf (h : Wf m → WS c t ρ m B) : WS c t ρ m B := fun σ w H e s o Q q => h s.wf σ w H e s o Q q
/-- a value that is a list that will change no more -/
def Frz (P : PD) : PD := fun d m' => P d m' ∨ ∃ k ds, d = .hd k ∧ m'[k]? = some (.lst ds) ∧ P (.lst ds) (m'.set k .dead)
theorem Kt.frz {w : Wd} {Q : VK} (q : Kt c w P Q) : Kt c w (Frz P) Q := fun v d m' w' H' l r s p => by
  rcases p with p | ⟨k, ds, rfl, hm, p⟩
  · exact q v d m' w' H' l r s p
  · cases r with
    | hd ha =>
      obtain ⟨w2, l2, _, s2, r2⟩ := s.freeze ha hm
      exact q _ _ _ _ _ (l.trans l2) r2 s2 p
theorem we_frz (h : WE c te ρ m (Frz P)) : WE c te ρ m P := fun σ w H e s o Q q => h σ w H e s o Q q.frz
/-- the last cells are let go -/
def Trm (n : Nat) (P : PD) : PD := fun d m' => ∃ m1 m2, m' = m1 ++ m2 ∧ n ≤ m1.length ∧ Wf m1 ∧ d.hb m1.length = true ∧ P d m1
theorem Kt.trm {w : Wd} {Q : VK} {n : Nat} (q : Kt c w P Q) (hn : w.al.length ≤ n) : Kt c w (Trm n P) Q := fun v d m' w' H' l r s ⟨m1, m2, em, h1, wf, hd, p⟩ => by
  subst em
  exact q v d m1 _ H' (l.cut (Nat.le_trans hn h1)) (r.cut hd) (s.cut wf) p
theorem we_trm (h : WE c te ρ m (Trm m.length P)) : WE c te ρ m P := fun σ w H e s o Q q => h σ w H e s o Q (q.trm (by rw [s.len]; exact Nat.le_refl _))
def TrmS (n : Nat) (P : Env → Store → Prop) : Env → Store → Prop := fun ρ' m' => ∃ m1 m2, m' = m1 ++ m2 ∧ n ≤ m1.length ∧ Wf m1 ∧ (∀ (i : Nat) (d : D), ρ'[i]? = some (some d) → d.hb m1.length = true) ∧ P ρ' m1
theorem EnvR.cut {K : PySem.W.Frag} {w : Wd} {σ : L2.St} {n : Nat} (e : EnvR K w σ ρ) (h : ∀ (i : Nat) (d : D), ρ[i]? = some (some d) → d.hb n = true) : EnvR K ⟨w.Z, w.al.take n⟩ σ ρ := ⟨e.len, fun i d q => by
  obtain ⟨v, h1, h2⟩ := e.at_ i d q
  exact ⟨v, h1, h2.cut (h i d q)⟩⟩
theorem KtS.trm {w : Wd} {P : Env → Store → Prop} {Q : L2.St → Hp → Prop} {n : Nat} (q : KtS c w P Q) (hn : w.al.length ≤ n) : KtS c w (TrmS n P) Q := fun σ' ρ' m' w' H' l e s ⟨m1, m2, em, h1, wf, hd, p⟩ => by
  subst em
  exact q σ' ρ' m1 _ H' (l.cut (Nat.le_trans hn h1)) (e.cut hd) (s.cut wf) p
theorem ws_trmNx (h : WS c t ρ m { B with nx := TrmS m.length B.nx }) : WS c t ρ m B := fun σ w H e s o D k => h σ w H e s o D ⟨k.nx.trm (by rw [s.len]; exact Nat.le_refl _), k.rt, k.bk, k.ct⟩

/-- the dice are looked into, and put down -/
theorem ws_open {k : Nat} (hm : m[k]? = some .dice) (h : ∀ ds, DiceD ds → WS c t ρ (m.set k (.lst ds)) B) : WS c t ρ m B := fun σ w H e s o D q => by
  have hk := (List.getElem?_eq_some_iff.mp hm).1
  rw [← s.len] at hk
  obtain ⟨z, xs, ds, hx, r, hd⟩ := s.cell k _ _ (List.getElem?_eq_getElem hk) hm
  refine h ds hd σ w H e ⟨s.ex, by rw [List.length_set]; exact s.len, s.nd, fun j a c' e1 e2 => ?_⟩ o D q
  by_cases hj : j = k
  · subst hj
    rw [s.len] at hk
    rw [List.getElem?_set_self hk] at e2
    rw [← Option.some.inj e2]
    have ea : w.al[j] = a := Option.some.inj ((List.getElem?_eq_getElem (by rw [s.len]; exact hk)).symm.trans e1)
    rw [← ea]
    exact ⟨z, xs, hx, r⟩
  · rw [List.getElem?_set_ne (fun q => hj q.symm)] at e2
    exact s.cell j a c' e1 e2
def Shut (k : Nat) (P : PD) : PD := fun d m' => ∃ ds, m'[k]? = some (.lst ds) ∧ DiceD ds ∧ P d (m'.set k .dice)
theorem StOk.shut {K : PySem.W.Frag} {w : Wd} {m : Store} {H : Hp} (s : StOk K w m H) {k : Nat} {ds : List D} (hm : m[k]? = some (.lst ds)) (hd : DiceD ds) : StOk K w (m.set k .dice) H := by
  refine ⟨s.ex, by rw [List.length_set]; exact s.len, s.nd, fun j a c' e1 e2 => ?_⟩
  by_cases hj : j = k
  · subst hj
    rw [List.getElem?_set_self (List.getElem?_eq_some_iff.mp hm).1] at e2
    rw [← Option.some.inj e2]
    obtain ⟨z, xs, hx, r⟩ := s.cell j a _ e1 hm
    exact ⟨z, xs, ds, hx, r, hd⟩
  · rw [List.getElem?_set_ne (fun q => hj q.symm)] at e2
    exact s.cell j a c' e1 e2
theorem ws_shut {k : Nat} (h : WS c t ρ m { B with rt := Shut k B.rt }) : WS c t ρ m B := fun σ w H e s o D q => h σ w H e s o D ⟨q.nx, fun v d m' w' H' l r s' ⟨ds, hm, hd, p⟩ => q.rt v d _ w' H' l r (s'.shut hm hd) p, q.bk, q.ct⟩
/-! ### what is walked -/
theorem wi_scr {P : Nat → (Nat → D) → Store → Prop} (h : WE c te ρ m fun x m1 => ∃ ns : List Int, x = .scr ns ∧ P ns.length (fun i => .int (ns.getD i 0)) m1) : WI c (iList c.K te) ρ m P := fun σ w H e s o R k =>
  h σ w H e s o _ fun v d m1 w1 H1 l1 r1 s1 ⟨ns, ed, p1⟩ => by
    subst ed
    cases r1 with
    | scr a =>
      refine ⟨_, rfl, ⟨_, ex_l s1.ex a⟩, k _ _ _ _ _ _ l1 s1 ⟨fun i w' m' H' hi l s => ?_, fun w' m' H' l s => ⟨_, ex_l s.ex (ex_l l.ex a), by rw [List.length_map]; exact Nat.le_refl _⟩⟩ p1⟩
      have sq : SqL c.K H' _ _ := ex_l s.ex (ex_l l.ex a)
      have hv : (ns.map V.int)[i]? = some (V.int (ns.getD i 0)) := by
        rw [List.getElem?_map, List.getD_eq_getElem?_getD, List.getElem?_eq_getElem hi]
        rfl
      refine ⟨⟨_, _, sq, hv⟩, fun x H2 ⟨e2, hx⟩ => ?_⟩
      subst e2
      have := hx _ sq
      rw [hv] at this
      rw [← Option.some.inj this]
      exact ⟨w', .refl _, s, .int _⟩
theorem wi_list {P : Nat → (Nat → D) → Store → Prop} (h : WE c te ρ m fun x m1 => ∃ ds, x = .lst ds ∧ P ds.length (fun i => ds.getD i .non) m1) : WI c (iList c.K te) ρ m P := fun σ w H e s o R k =>
  h σ w H e s o _ fun v d m1 w1 H1 l1 r1 s1 ⟨ds, ed, p1⟩ => by
    subst ed
    cases r1 with
    | lst a b =>
      refine ⟨_, rfl, ⟨_, .inl (.inl (s1.ex _ _ a))⟩, k _ _ _ _ _ _ l1 s1 ⟨fun i w' m' H' hi l s => ?_, fun w' m' H' l s => ⟨_, .inl (.inl (s.ex _ _ (l.ex _ _ a))), by rw [b.length]; exact Nat.le_refl _⟩⟩ p1⟩
      have sq : SqL c.K H' _ _ := .inl (.inl (s.ex _ _ (l.ex _ _ a)))
      obtain ⟨v, hv, rv⟩ := b.get (i := i) (d := ds.getD i .non) (by rw [List.getD_eq_getElem?_getD, List.getElem?_eq_getElem hi]; rfl)
      refine ⟨⟨_, v, sq, hv⟩, fun x H2 ⟨e2, hx⟩ => ?_⟩
      subst e2
      have := hx _ sq
      rw [hv] at this
      rw [← Option.some.inj this]
      exact ⟨w', .refl _, s, rv.mono l⟩
theorem wi_tup {P : Nat → (Nat → D) → Store → Prop} (h : WE c te ρ m fun x m1 => ∃ ds, x = .tup ds ∧ P ds.length (fun i => ds.getD i .non) m1) : WI c (iTup c.K te) ρ m P := fun σ w H e s o R k =>
  h σ w H e s o _ fun v d m1 w1 H1 l1 r1 s1 ⟨ds, ed, p1⟩ => by
    subst ed
    cases r1 with
    | tup a b =>
      refine ⟨_, rfl, ⟨_, ex_t s1.ex a⟩, k _ _ _ _ _ _ l1 s1 ⟨fun i w' m' H' hi l s => ?_, fun w' m' H' l s => ⟨_, ex_t s.ex (ex_t l.ex a), by rw [b.length]; exact Nat.le_refl _⟩⟩ p1⟩
      have sq : SqT c.K H' _ _ := ex_t s.ex (ex_t l.ex a)
      obtain ⟨v, hv, rv⟩ := b.get (i := i) (d := ds.getD i .non) (by rw [List.getD_eq_getElem?_getD, List.getElem?_eq_getElem hi]; rfl)
      refine ⟨⟨_, v, sq, hv⟩, fun x H2 ⟨e2, hx⟩ => ?_⟩
      subst e2
      have := hx _ sq
      rw [hv] at this
      rw [← Option.some.inj this]
      exact ⟨w', .refl _, s, rv.mono l⟩
theorem iter_range {w : Wd} {lo : Int} {n : Nat} : IterOk c (Itr lo n) w n (fun i => .int (lo + i)) := ⟨fun i w' m' H' hi l s => ⟨hi, fun x H2 ⟨e2, hx⟩ => by
  subst e2
  subst hx
  exact ⟨w', .refl _, s, .int _⟩⟩, fun w' m' H' l s => Nat.le_refl _⟩
theorem wi_rng1 {tx : TA} {P : Nat → (Nat → D) → Store → Prop} (h : WA c tx ρ m fun xs m1 => ∃ n : Int, xs = [.int n] ∧ (-1000000 ≤ n ∧ n ≤ 1000000) ∧ P n.toNat (fun i => .int i) m1) : WI c (iRng1 tx) ρ m P := fun σ w H e s o R k =>
  h σ w H e s o _ fun v d m1 w1 H1 l1 r1 s1 ⟨n, ed, hn, p1⟩ => by
    subst ed
    cases r1 with
    | cons r1 r2 =>
      cases r2
      cases r1
      refine ⟨n, rfl, by omega, by omega, k _ _ _ _ _ _ l1 s1 iter_range ?_⟩
      have ez : (fun i : Nat => D.int (0 + (i : Int))) = fun i : Nat => D.int (i : Int) := by
        funext i
        rw [Int.zero_add]
      rw [ez]
      exact p1
theorem wi_rng2 {tx : TA} {P : Nat → (Nat → D) → Store → Prop} (h : WA c tx ρ m fun xs m1 => ∃ lo n : Int, xs = [.int lo, .int n] ∧ (-1000000 ≤ lo ∧ lo ≤ 1000000 ∧ -1000000 ≤ n ∧ n ≤ 1000000) ∧ P (n - lo).toNat (fun i => .int (lo + i)) m1) : WI c (iRng2 tx) ρ m P := fun σ w H e s o R k =>
  h σ w H e s o _ fun v d m1 w1 H1 l1 r1 s1 ⟨lo, n, ed, hn, p1⟩ => by
    subst ed
    cases r1 with
    | cons r1 r2 => cases r2 with
      | cons r2 r3 =>
        cases r3
        cases r1
        cases r2
        exact ⟨lo, n, rfl, ⟨by omega, by omega, by omega, by omega⟩, k _ _ _ _ _ _ l1 s1 iter_range p1⟩
theorem wi_enum {tx : TA} {P : Nat → (Nat → D) → Store → Prop} (h : WA c tx ρ m fun xs m1 => ∃ ds, xs = [.lst ds] ∧ P ds.length (fun i => .tup [.int i, ds.getD i .non]) m1) : WI c (iEnum c.K tx) ρ m P := fun σ w H e s o R k =>
  h σ w H e s o _ fun v d m1 w1 H1 l1 r1 s1 ⟨ds, ed, p1⟩ => by
    subst ed
    cases r1 with
    | cons r1 r2 =>
      cases r2
      cases r1 with
      | lst a b =>
        refine ⟨_, _, rfl, .inl (.inl (s1.ex _ _ a)), k _ _ _ _ _ _ l1 s1 ⟨fun i w' m' H' hi l s => ?_, fun w' m' H' l s => ⟨_, .inl (.inl (s.ex _ _ (l.ex _ _ a))), by rw [b.length]; exact Nat.le_refl _⟩⟩ p1⟩
        have sq : SqL c.K H' _ _ := .inl (.inl (s.ex _ _ (l.ex _ _ a)))
        obtain ⟨v, hv, rv⟩ := b.get (i := i) (d := ds.getD i .non) (by rw [List.getD_eq_getElem?_getD, List.getElem?_eq_getElem hi]; rfl)
        refine ⟨⟨_, v, sq, hv⟩, fun x H2 ⟨T, x0, ex, hT, eH, hx⟩ => ?_⟩
        subst eH
        subst ex
        have := hx _ sq
        rw [hv] at this
        obtain ⟨l2, s2⟩ := s.new (o := .tup [.int (i : Nat), x0]) hT
        refine ⟨_, l2, s2, .tup (.inl (.inl (by show (upd w'.Z T _) T = _; exact upd_same))) (.cons (.int _) (.cons ?_ .nil))⟩
        have eV := Option.some.inj this
        subst eV
        exact rv.mono (l.trans l2)
theorem wi_rev {P : Nat → (Nat → D) → Store → Prop} (h : WE c te ρ m fun x m1 => ∃ ds, x = .lst ds ∧ P ds.length (fun i => ds.getD (ds.length - 1 - i) .non) m1) : WI c (RT.iRevA c.K te) ρ m P := fun σ w H e s o R k =>
  h σ w H e s o _ fun v d m1 w1 H1 l1 r1 s1 ⟨ds, ed, p1⟩ => by
    subst ed
    cases r1 with
    | lst a b =>
      refine ⟨_, _, rfl, .inl ⟨.inl (.inl (s1.ex _ _ a)), k _ ds.length _ _ _ _ l1 s1 ⟨fun i w' m' H' hi l s => ?_, fun w' m' H' l s => by rw [← b.length]; exact Nat.le_refl _⟩ p1⟩⟩
      have sq : SqL c.K H' _ _ := .inl (.inl (s.ex _ _ (l.ex _ _ a)))
      obtain ⟨v, hv, rv⟩ := b.get (i := ds.length - 1 - i) (d := ds.getD (ds.length - 1 - i) .non) (by rw [List.getD_eq_getElem?_getD, List.getElem?_eq_getElem (by omega)]; rfl)
      rw [← b.length] at hv
      refine ⟨⟨by rw [b.length]; exact hi, _, v, sq, hv⟩, fun x H2 ⟨e2, hx⟩ => ?_⟩
      subst e2
      have := hx _ sq
      rw [hv] at this
      rw [← Option.some.inj this]
      exact ⟨w', .refl _, s, rv.mono l⟩

/-! ### for -/
theorem ws_for {wi : TI} (h : WI c wi ρ m fun n y m1 => ∃ Iv : Nat → Env → Store → Prop, Iv 0 ρ m1 ∧
    (∀ i ρ' m', i < n → Iv i ρ' m' → WG c g (y i) ρ' m' fun ρ2 m2 => WS c t ρ2 m2 { nx := Iv (i + 1), ct := Iv (i + 1), bk := B.nx, rt := B.rt }) ∧ ∀ ρ' m', Iv n ρ' m' → B.nx ρ' m') : WS c (tFor wi g t) ρ m B := fun σ w H e s o D k =>
  h σ w H e s o _ fun J n y m1 w1 H1 l1 s1 it ⟨Iv, i0, step, fin⟩ => by
    refine ⟨fun i mm σ' H' => mm = n - i ∧ i ≤ n ∧ ∃ ρ' m' w', w1.le w' ∧ EnvR c.K w' σ' ρ' ∧ StOk c.K w' m' H' ∧ Iv i ρ' m', ⟨n, rfl, Nat.zero_le _, ρ, m1, w1, .refl _, e.mono l1, s1, i0⟩, ?_⟩
    rintro i mm σ' H' ⟨rfl, hi, ρ', m', w', l', e', s', p'⟩
    by_cases hn : i = n
    · subst hn
      exact .inl ⟨it.stop w' m' H' l' s', k.nx _ _ _ _ _ (l1.trans l') e' s' (fin _ _ p')⟩
    · obtain ⟨hg, hy⟩ := it.go i w' m' H' (by omega) l' s'
      refine .inr ⟨hg, fun σ2 H2 => i + 1 ≤ n ∧ ∃ ρ2 m2 w2, w1.le w2 ∧ EnvR c.K w2 σ2 ρ2 ∧ StOk c.K w2 m2 H2 ∧ Iv (i + 1) ρ2 m2, fun σ2 H2 q2 => ⟨n - (i + 1), by omega, rfl, q2.1, q2.2⟩, fun x H2 hx => ?_⟩
      obtain ⟨w2, l2, s2, r2⟩ := hy x H2 hx
      refine step i ρ' m' (by omega) p' x σ' w2 H2 r2 (e'.mono l2) s2 (o.mono (l1.trans (l'.trans l2))) _ fun σ3 ρ3 m3 w3 H3 l3 e3 s3 p3 => ?_
      have l13 := l'.trans (l2.trans l3)
      exact p3 σ3 w3 H3 e3 s3 (o.mono (l1.trans l13)) _ ⟨fun σ4 ρ4 m4 w4 H4 l4 e4 s4 p4 => ⟨by omega, ρ4, m4, w4, l13.trans l4, e4, s4, p4⟩, k.rt.mono (l1.trans l13), k.nx.mono (l1.trans l13), fun σ4 ρ4 m4 w4 H4 l4 e4 s4 p4 => ⟨by omega, ρ4, m4, w4, l13.trans l4, e4, s4, p4⟩⟩

/-! ### comprehensions -/
theorem wipe_set {σ : L2.St} {j : Nat} {x : Option V} : ∀ {vs : List Nat}, j ∈ vs → L2.wipe (σ.set j x) vs = L2.wipe σ vs
  | [], h => by simp at h
  | v :: vs, h => by
    show (L2.wipe (σ.set j x) vs).set v none = (L2.wipe σ vs).set v none
    by_cases hj : j ∈ vs
    · rw [wipe_set hj]
    · have ev : j = v := by
        rcases List.mem_cons.mp h with h | h
        · exact h
        · exact absurd h hj
      subst ev
      have out : ∀ (τ : L2.St) (us : List Nat), j ∉ us → L2.wipe (τ.set j x) us = (L2.wipe τ us).set j x := by
        intro τ us
        induction us with
        | nil => intro _; rfl
        | cons u us ih =>
          intro hu
          have h1 : j ≠ u := fun z => hu (by rw [z]; exact List.mem_cons_self)
          have h2 : j ∉ us := fun z => hu (List.mem_cons_of_mem _ z)
          show (L2.wipe (τ.set j x) us).set u none = ((L2.wipe τ us).set u none).set j x
          rw [ih h2, List.set_comm _ _ h1]
      rw [out σ vs hj, List.set_set]
theorem wipe_wipe {σ : L2.St} : ∀ {us vs : List Nat}, (∀ u ∈ us, u ∈ vs) → L2.wipe (L2.wipe σ us) vs = L2.wipe σ vs
  | [], vs, _ => rfl
  | u :: us, vs, h => by
    show L2.wipe ((L2.wipe σ us).set u none) vs = _
    rw [wipe_set (h u List.mem_cons_self)]
    exact wipe_wipe fun z hz => h z (List.mem_cons_of_mem _ hz)
/-- a target that stores in the comprehension's own slots alone -/
def WGown (c : Ct) (g : TG) (vs : List Nat) (x : D) (ρ : Env) (m : Store) (P : Env → Store → Prop) : Prop :=
  ∀ v σ w H, Rep c.K w v x → EnvR c.K w σ ρ → StOk c.K w m H → c.ok w → ∀ Q : L2.St → Hp → Prop, (∀ (σ' : L2.St) (ρ' : Env) (m' : Store) (w' : Wd) (H' : Hp), w.le w' → EnvR c.K w' σ' ρ' → StOk c.K w' m' H' → L2.wipe σ' vs = L2.wipe σ vs → P ρ' m' → Q σ' H') → g v σ H Q
theorem wgo_name {i : Nat} {vs : List Nat} {x : D} {P : Env → Store → Prop} (hi : i ∈ vs) (p : P (ρ.set i (some x)) m) : WGown c (gName i) vs x ρ m P := fun v σ w H r e s o Q q => q _ _ _ _ _ (.refl w) (e.set i r) s (wipe_set hi) p
def gNs : List Nat → TGs
  | [] => gNil
  | j :: js => gCons (gName j) (gNs js)
def setAll (ρ : Env) : List Nat → List D → Env
  | j :: js, d :: ds => setAll (ρ.set j (some d)) js ds
  | _, _ => ρ
theorem wgo_tup {n : Nat} {js vs : List Nat} {xs : List D} {P : Env → Store → Prop} (hn : xs.length = n) (hj : js.length = n) (hv : ∀ j ∈ js, j ∈ vs) (p : P (setAll ρ js xs) m) : WGown c (gTup c.K n (gNs js)) vs (.tup xs) ρ m P := fun v σ w H r e s o Q q => by
  cases r with
  | tup a b =>
    refine ⟨_, _, rfl, ex_t s.ex a, by rw [b.length]; exact hn, ?_⟩
    have main : ∀ (js : List Nat) (us : List V) (xs : List D) (τ : L2.St) (ρ : Env), js.length = xs.length → (∀ j ∈ js, j ∈ vs) → RepA c.K w us xs → EnvR c.K w τ ρ → L2.wipe τ vs = L2.wipe σ vs → P (setAll ρ js xs) m → gNs js us τ H Q := by
      intro js
      induction js with
      | nil =>
        intro us xs τ ρ hl _ r e2 hw p
        cases r with
        | nil => exact ⟨rfl, q _ _ _ _ _ (.refl w) e2 s hw p⟩
        | cons _ _ => simp at hl
      | cons j js ih =>
        intro us xs τ ρ hl hv r e2 hw p
        cases r with
        | nil => simp at hl
        | cons r1 r2 =>
          exact ⟨_, _, rfl, ih _ _ _ _ (by simpa using hl) (fun z hz => hv z (List.mem_cons_of_mem _ hz)) r2 (e2.set j r1) ((wipe_set (hv j List.mem_cons_self)).trans hw) p⟩
    exact main js _ xs σ ρ (hj.trans hn.symm) hv b e rfl p
/-- [te for g in wi if tt], a new cell -/
theorem we_lc {wi : TI} {tt : TT} {vs : List Nat}
    (h : WI c wi ρ m fun n y m1 => ∃ Iv : Nat → List D → Store → Prop, Iv 0 [] (m1 ++ [.lst []]) ∧
      (∀ i acc m', i < n → m'[m1.length]? = some (.lst acc) → Iv i acc m' → WGown c g vs (y i) (wipeD ρ vs) m' fun ρ2 m2 => m2[m1.length]? = some (.lst acc) ∧
        WT c tt ρ2 m2 fun b m3 => m3[m1.length]? = some (.lst acc) ∧ (b = true → WE c te ρ2 m3 fun d m4 => m4[m1.length]? = some (.lst acc) ∧ acc.length < 10000000 ∧ Iv (i + 1) (acc ++ [d]) (m4.set m1.length (.lst (acc ++ [d])))) ∧ (b = false → Iv (i + 1) acc m3)) ∧
      ∀ acc m', m'[m1.length]? = some (.lst acc) → Iv n acc m' → P (.hd m1.length) m') : WE c (tLc wi g tt te vs) ρ m P := fun σ w H e s o Q q =>
  h σ w H e s o _ fun J n y m1 w1 H1 l1 s1 it ⟨Iv, i0, step, fin⟩ a ha => by
    obtain ⟨w0, l0, s0, r0⟩ := newL s1 ha (.nil : RepA c.K w1 [] [])
    have a0 : w0.al[m1.length]? = some a := by
      cases r0 with
      | hd h => exact h
    refine ⟨fun i mm H' => mm = n - i ∧ i ≤ n ∧ ∃ acc m' w', w0.le w' ∧ StOk c.K w' m' H' ∧ m'[m1.length]? = some (.lst acc) ∧ Iv i acc m', ⟨n, rfl, Nat.zero_le _, [], _, w0, .refl _, s0, by rw [List.getElem?_append_right (Nat.le_refl _)]; simp, i0⟩, ?_⟩
    rintro i mm H' ⟨rfl, hi, acc, m', w', l', s', hm', p'⟩
    by_cases hn : i = n
    · subst hn
      exact .inl ⟨it.stop w' m' H' (l0.trans l') s', q _ _ _ _ _ (l1.trans (l0.trans l')) (.hd (l'.at a0)) s' (fin _ _ hm' p')⟩
    · obtain ⟨hg, hy⟩ := it.go i w' m' H' (by omega) (l0.trans l') s'
      refine .inr ⟨hg, fun H2 => i + 1 ≤ n ∧ ∃ acc m2 w2, w0.le w2 ∧ StOk c.K w2 m2 H2 ∧ m2[m1.length]? = some (.lst acc) ∧ Iv (i + 1) acc m2, fun H2 q2 => ⟨n - (i + 1), by omega, rfl, q2.1, q2.2⟩, fun x H2 hx => ?_⟩
      obtain ⟨w2, l2, s2, r2⟩ := hy x H2 hx
      have ll2 := l1.trans (l0.trans (l'.trans l2))
      refine step i acc m' (by omega) hm' p' x (L2.wipe σ vs) w2 H2 r2 ((e.mono ll2).wipe vs) s2 (o.mono ll2) _ fun σ3 ρ3 m3 w3 H3 l3 e3 s3 hw ⟨hm3, p3⟩ => ?_
      have ll3 := ll2.trans l3
      refine ⟨hw.trans (wipe_wipe fun u hu => hu), p3 σ3 w3 H3 e3 s3 (o.mono ll3) _ fun b m4 w4 H4 l4 s4 ⟨hm4, py, pn⟩ => ?_⟩
      have ll4 := ll3.trans l4
      cases b with
      | true =>
        show te σ3 H4 _
        refine py rfl σ3 w4 H4 (e3.mono l4) s4 (o.mono ll4) _ fun v d m5 w5 H5 l5 r5 s5 ⟨hm5, hz, p5⟩ => ?_
        have a5 : w5.al[m1.length]? = some a := (l'.trans (l2.trans (l3.trans (l4.trans l5)))).at a0
        obtain ⟨z5, xs, hx5, rr5⟩ := s5.cell _ _ _ a5 hm5
        refine ⟨xs, hx5, by rw [rr5.length]; exact Nat.lt_of_lt_of_le hz (by decide), by omega, acc ++ [d], _, w5, l'.trans (l2.trans (l3.trans (l4.trans l5))), s5.change (c := .lst (acc ++ [d])) a5 z5 ⟨z5, _, upd_same, rr5.append (.one r5)⟩, List.getElem?_set_self (List.getElem?_eq_some_iff.mp hm5).1, p5⟩
      | false =>
        exact ⟨by omega, acc, m4, w4, l'.trans (l2.trans (l3.trans l4)), s4, hm4, pn rfl⟩
end
end KR

/-! KR4: calls, methods, fields, instances, methods of lists, and defs. -/
namespace KR
open PySem PySem.Spec PyProof.Rows L2 Evl

structure FSp where
  ar : Nat
  G : Type
  pre : G → List D → Store → Prop
  post : G → Store → D → Store → Prop
  exc : G → Store → Value → Option (Str × D) → Store → Prop := fun _ _ _ _ _ => False
/-- a promise over data -/
def spD (K : PySem.W.Frag) (F : FSp) : Sp := fun vs H Q E => ∃ (w : Wd) (m : Store) (ds : List D) (g : F.G), RepA K w vs ds ∧ StOk K w m H ∧ ds.length = F.ar ∧ F.pre g ds m ∧
  (∀ (v : V) (d : D) (m' : Store) (w' : Wd) (H' : Hp), w.le w' → Rep K w' v d → StOk K w' m' H' → F.post g m d m' → Q v H') ∧
  (∀ (cls : Value) (od : Option Addr) (oi : Option (Str × D)) (m' : Store) (w' : Wd) (H' : Hp), w.le w' → ExcR K w' H' od oi → StOk K w' m' H' → F.exc g m cls oi m' → E cls od H')
def Calls (c : Ct) (F : FSp) (ds : List D) (m : Store) (P : PD) : Prop := ds.length = F.ar ∧ ∃ g, F.pre g ds m ∧ (∀ d m2, F.post g m d m2 → P d m2) ∧ (∀ cls oi m2, F.exc g m cls oi m2 → c.PE cls oi m2)
section
variable {c : Ct} {ρ : Env} {m : Store} {P : PD} {B : Ed} {ta tb te : TE} {tc : TT} {t u : TS} {g : TG} {F : FSp}
theorem Calls.sp {w : Wd} {vs : List V} {ds : List D} {H : Hp} {Q : VK} (h : Calls c F ds m P) (r : RepA c.K w vs ds) (s : StOk c.K w m H) (o : c.ok w) (q : Kt c w P Q) : spD c.K F vs H Q c.EE :=
  ⟨w, m, ds, h.2.choose, r, s, h.1, h.2.choose_spec.1, fun v d m' w' H' l r' s' p => q v d m' w' H' l r' s' (h.2.choose_spec.2.1 d m' p), fun cls od oi m' w' H' l x s' p => o cls od oi m' w' H' l x s' (h.2.choose_spec.2.2 cls oi m' p)⟩
theorem we_call {tx : TA} (h : WA c tx ρ m fun ds m1 => Calls c F ds m1 P) : WE c (tCall (spD c.K F) [] c.EE tx) ρ m P := fun σ w H e s o Q q =>
  h σ w H e s o _ fun v d m1 w1 H1 l1 r1 s1 p1 => by
    show spD c.K F (v ++ []) H1 Q c.EE
    rw [List.append_nil]
    exact p1.sp r1 s1 (o.mono l1) (q.mono l1)
theorem lookup_zip_none {f : Str} : ∀ {ns : List Str} {vs : List V}, f ∉ ns → List.lookup f (ns.zip vs) = none
  | [], _, _ => rfl
  | _ :: _, [], _ => rfl
  | n :: ns, v :: vs, h => by
    have h1 : (f == n) = false := beq_eq_false_iff_ne.mpr fun z => h (by rw [z]; exact List.mem_cons_self)
    show (match f == n with | true => some v | false => List.lookup f (ns.zip vs)) = none
    rw [h1]
    exact lookup_zip_none fun z => h (List.mem_cons_of_mem _ z)
theorem lookup_zip {K : PySem.W.Frag} {w : Wd} {f : Str} : ∀ {ns : List Str} {vs : List V} {ds : List D} {d : D}, RepA K w vs ds → List.lookup f (ns.zip ds) = some d → ∃ v, List.lookup f (ns.zip vs) = some v ∧ Rep K w v d
  | [], _, _, _, _, e => by cases e
  | _ :: _, [], [], _, .nil, e => by cases e
  | n :: ns, v :: vs, x :: ds, d, .cons a b, e => by
    have e' : (match f == n with | true => some x | false => List.lookup f (ns.zip ds)) = some d := e
    show ∃ u, (match f == n with | true => some v | false => List.lookup f (ns.zip vs)) = some u ∧ _
    cases h : f == n with
    | true =>
      rw [h] at e'
      rw [← Option.some.inj e']
      exact ⟨v, rfl, a⟩
    | false =>
      rw [h] at e'
      exact lookup_zip b e'
/-- an instance, made or in the making -/
def insD (m : Store) : D → Option (Addr × List Str × List D)
  | .ins C ns ds => some (C, ns, ds)
  | .hd k => match m[k]? with
    | some (.ins C ns ds) => some (C, ns, ds)
    | _ => none
  | _ => none
theorem insAt {k : Nat} {x : Addr × List Str × List D} (h : insD m (.hd k) = some x) : m[k]? = some (.ins x.1 x.2.1 x.2.2) := by
  have h' : (match m[k]? with | some (.ins C ns ds) => some (C, ns, ds) | _ => none) = some x := h
  split at h'
  · rename_i C ns ds e
    rw [← Option.some.inj h']
    exact e
  · cases h'
theorem StOk.ins {K : PySem.W.Frag} {w : Wd} {H : Hp} (s : StOk K w m H) {v : V} {d : D} {C : Addr} {ns : List Str} {ds : List D} (r : Rep K w v d) (e : insD m d = some (C, ns, ds)) : ∃ a dx xs, v = .ref a ∧ H a = some (.ins C dx (ns.zip xs)) ∧ ns.length = xs.length ∧ RepA K w xs ds := by
  cases r with
  | ins a l b =>
    have e' := Option.some.inj (show some (_, _, _) = some (C, ns, ds) from e)
    injection e' with e1 e2
    injection e2 with e2 e3
    subst e1
    subst e2
    subst e3
    exact ⟨_, _, _, rfl, s.ex _ _ a, l, b⟩
  | hd a =>
    obtain ⟨_, dx, vs, hx, ll, rr⟩ := s.cell _ _ _ a (insAt e)
    exact ⟨_, dx, vs, rfl, hx, ll, rr⟩
  | tup a b => cases e
  | lst a b => cases e
  | non => cases e
  | bl b => cases e
  | int i => cases e
  | str x => cases e
  | raw v => cases e
  | scr a => cases e
theorem we_meth {C : Addr} {mn : Str} {tx : TA} (h : WE c ta ρ m fun x m1 => ∃ ns ds, insD m1 x = some (C, ns, ds) ∧ mn ∉ ns ∧ WA c tx ρ m1 fun es m2 => Calls c F (x :: es) m2 P) : WE c (tMeth C mn (spD c.K F) [] c.EE ta tx) ρ m P := fun σ w H e s o Q q =>
  h σ w H e s o _ fun v d m1 w1 H1 l1 r1 s1 ⟨ns, ds, hi, hn, p1⟩ => by
    obtain ⟨a, dx, xs, rfl, ha, ll, rr⟩ := s1.ins r1 hi
    refine ⟨a, dx, _, rfl, ha, lookup_zip_none hn, p1 σ w1 H1 (e.mono l1) s1 (o.mono l1) _ fun v2 d2 m2 w2 H2 l2 r2 s2 p2 => ?_⟩
    show spD c.K F (.ref a :: (v2 ++ [])) H2 Q c.EE
    rw [List.append_nil]
    exact p2.sp (.cons (r1.mono l2) r2) s2 (o.mono (l1.trans l2)) (q.mono (l1.trans l2))
theorem we_fld {f : Str} (h : WE c ta ρ m fun x m1 => ∃ C ns ds d, insD m1 x = some (C, ns, ds) ∧ Cls c.K C ∧ NoAttr c.K C f ∧ List.lookup f (ns.zip ds) = some d ∧ P d m1) : WE c (tFld c.K ta f) ρ m P := fun σ w H e s o Q q =>
  h σ w H e s o _ fun v d m1 w1 H1 l1 r1 s1 ⟨C, ns, ds, x, hi, hc, hn, hl, p1⟩ => by
    obtain ⟨a, dx, xs, rfl, ha, ll, rr⟩ := s1.ins r1 hi
    obtain ⟨u, hu, ru⟩ := lookup_zip rr hl
    exact ⟨a, C, dx, _, u, rfl, ha, hc, hn, hu, q _ _ _ _ _ l1 ru s1 p1⟩
theorem putF_new {f : Str} {y : V} : ∀ {ns : List Str} {vs : List V}, ns.length = vs.length → f ∉ ns → putF f y (ns.zip vs) = (ns ++ [f]).zip (vs ++ [y])
  | [], [], _, _ => rfl
  | n :: ns, v :: vs, hl, h => by
    have h1 : ¬ n = f := fun z => h (by rw [z]; exact List.mem_cons_self)
    show (if n = f then (n, y) :: (ns.zip vs) else (n, v) :: putF f y (ns.zip vs)) = (n, v) :: ((ns ++ [f]).zip (vs ++ [y]))
    rw [if_neg h1, putF_new (by simpa using hl) fun z => h (List.mem_cons_of_mem _ z)]
theorem ws_fld {f : Str} (h : WE c te ρ m fun y m1 => WE c ta ρ m1 fun x m2 => ∃ k C ns ds, x = .hd k ∧ m2[k]? = some (.ins C ns ds) ∧ Cls c.K C ∧ NoAttr c.K C f ∧ ns.length < 900 ∧ f ∉ ns ∧ B.nx ρ (m2.set k (.ins C (ns ++ [f]) (ds ++ [y])))) : WS c (sFld c.K ta te f) ρ m B := fun σ w H e s o D q =>
  h σ w H e s o _ fun v y m1 w1 H1 l1 r1 s1 p1 => p1 σ w1 H1 (e.mono l1) s1 (o.mono l1) _ fun v2 x m2 w2 H2 l2 r2 s2 ⟨k, C, ns, ds, ex, hm, hc, hn, hl, hf, p2⟩ => by
    subst ex
    cases r2 with
    | hd ha =>
      obtain ⟨z, dx, vs, hx, ll, rr⟩ := s2.cell _ _ _ ha hm
      refine ⟨_, C, dx, _, rfl, hx, hc, hn, by rw [List.length_zip, ← ll]; omega, ?_⟩
      rw [putF_new ll hf]
      have s3 : StOk c.K w2 (m2.set k (.ins C (ns ++ [f]) (ds ++ [y]))) (upd H2 _ (.ins C dx ((ns ++ [f]).zip (vs ++ [v])))) :=
        s2.change ha z (show CellR c.K w2 _ _ (.ins C (ns ++ [f]) (ds ++ [y])) from ⟨z, dx, _, upd_same, by simp [ll], rr.append (.one (r1.mono l2))⟩)
      exact q.nx _ _ _ _ _ (l1.trans l2) (e.mono (l1.trans l2)) s3 p2
/-- an instance that is made -/
theorem StOk.freezeI {K : PySem.W.Frag} {w : Wd} {H : Hp} (h : StOk K w m H) {k : Nat} {a C : Addr} {ns : List Str} {ds : List D} (e : w.al[k]? = some a) (hm : m[k]? = some (.ins C ns ds)) :
    ∃ w', w.le w' ∧ StOk K w' (m.set k .dead) H ∧ Rep K w' (.ref a) (.ins C ns ds) := by
  obtain ⟨z, dx, vs, hx, ll, r⟩ := h.cell k a _ e hm
  have l : w.le ⟨upd w.Z a (.ins C dx (ns.zip vs)), w.al⟩ := ⟨Ex.new z, List.prefix_refl _⟩
  refine ⟨_, l, ⟨fun b u q => ?_, by rw [List.length_set]; exact h.len, h.nd, fun j b c' e1 e2 => ?_⟩, .ins (by show (upd w.Z a _) a = _; exact upd_same) ll (r.mono l)⟩
  · have q' : (upd w.Z a (.ins C dx (ns.zip vs))) b = some u := q
    by_cases hb : b = a
    · subst hb
      rw [upd_same] at q'
      rw [← q']
      exact hx
    · rw [upd_ne hb] at q'
      exact h.ex b u q'
  · by_cases hj : j = k
    · subst hj
      have hb : b = a := Option.some.inj (e1.symm.trans e)
      subst hb
      have hk := (List.getElem?_eq_some_iff.mp e).1
      rw [h.len] at hk
      rw [List.getElem?_set_self hk] at e2
      rw [← Option.some.inj e2]
      exact ⟨_, hx, fun _ z => by cases z⟩
    · rw [List.getElem?_set_ne (fun q => hj q.symm)] at e2
      have ne : b ≠ a := fun q => by
        subst q
        exact hj (nd_one h.nd e1 e)
      exact (h.cell j b c' e1 e2).keep l (fun z => by
        show (upd w.Z a _) b = none
        rw [upd_ne ne]
        exact z) rfl
theorem we_make {C : Addr} {tx : TA} (h : WA c tx ρ m fun es m1 => Calls c F (.hd m1.length :: es) (m1 ++ [.ins C [] []]) fun d m2 => d = .non ∧ ∃ ns ds, m2[m1.length]? = some (.ins C ns ds) ∧ P (.ins C ns ds) (m2.set m1.length .dead)) : WE c (tMake C (spD c.K F) [] c.EE tx) ρ m P := fun σ w H e s o Q q =>
  h σ w H e s o _ fun v d m1 w1 H1 l1 r1 s1 p1 => by
    intro x dx hx hdx ne
    obtain ⟨l2, s2⟩ := s1.new (o := .own x) hdx
    have hx2 : upd H1 dx (.own x) x = none := by rw [upd_ne ne.symm]; exact hx
    obtain ⟨l3, s3⟩ := s2.newCell (o := .ins C dx []) (c := .ins C [] []) hx2 fun w' l e => ⟨by rw [e]; exact s2.zfree hx2, dx, [], upd_same, rfl, .nil⟩
    have hal : ((upd w1.Z dx (.own x) : Hp), w1.al ++ [x]).2[m1.length]? = some x := by
      show (w1.al ++ [x])[m1.length]? = some x
      rw [← s1.len]
      simp
    show spD c.K F (.ref x :: (v ++ [])) _ _ c.EE
    rw [List.append_nil]
    refine p1.sp (.cons (.hd hal) (r1.mono (l2.trans l3))) s3 (o.mono (l1.trans (l2.trans l3))) fun v4 d4 m4 w4 H4 l4 r4 s4 ⟨ed, ns, ds, hm, p4⟩ => ?_
    subst ed
    cases r4
    obtain ⟨w5, l5, s5, r5⟩ := s4.freezeI (l4.at hal) hm
    exact ⟨rfl, q _ _ _ _ _ (l1.trans (l2.trans (l3.trans (l4.trans l5)))) r5 s5 p4⟩

/-! ### methods of lists -/
theorem ty_list {x : D} {ds : List D} (h : listD m x = some ds) : ∀ w H v, Rep c.K w v x → StOk c.K w m H → tyV c.K "list" v H := fun w H v r s => by
  obtain ⟨a, xs, rfl, hH, _⟩ := s.list r h
  exact .inl ⟨rfl, xs, .inl (.inl hH)⟩
theorem wm_append {k : Nat} {ds : List D} {y : D} (hm : m[k]? = some (.lst ds)) (hz : ds.length < 10000000) (p : P .non (m.set k (.lst (ds ++ [y])))) : WM c rAppend (.hd k) [y] m P := fun vx vs w H rx rs s o Q q => by
  cases rx with
  | hd ha =>
    cases rs with
    | cons r1 r2 =>
      cases r2
      obtain ⟨z, xs, hx, rr⟩ := s.cell _ _ _ ha hm
      have s2 : StOk c.K w (m.set k (.lst (ds ++ [y]))) (upd H _ (.lst (xs ++ [_]))) := s.change ha z (show CellR c.K w _ _ (.lst (ds ++ [y])) from ⟨z, _, upd_same, rr.append (.one r1)⟩)
      exact ⟨_, xs, _, rfl, rfl, hx, by rw [rr.length]; exact Nat.lt_of_lt_of_le hz (by decide), q _ _ _ _ _ (.refl w) .non s2 p⟩
theorem wm_extend {k : Nat} {ds es : List D} {y : D} (hm : m[k]? = some (.lst ds)) (hy : listD m y = some es) (hz : ds.length + es.length ≤ 10000000) (p : P .non (m.set k (.lst (ds ++ es)))) : WM c rExtend (.hd k) [y] m P := fun vx vs w H rx rs s o Q q => by
  cases rx with
  | hd ha =>
    cases rs with
    | cons r1 r2 =>
      cases r2
      obtain ⟨z, xs, hx, rr⟩ := s.cell _ _ _ ha hm
      obtain ⟨b, ys, rfl, hb, r3⟩ := s.list r1 hy
      have s2 : StOk c.K w (m.set k (.lst (ds ++ es))) (upd H _ (.lst (xs ++ ys))) := s.change ha z (show CellR c.K w _ _ (.lst (ds ++ es)) from ⟨z, _, upd_same, rr.append r3⟩)
      exact ⟨_, b, xs, ys, rfl, rfl, hx, hb, by rw [rr.length, r3.length]; exact Nat.le_trans hz (by decide), q _ _ _ _ _ (.refl w) .non s2 p⟩
theorem wm_clear {k : Nat} {ds : List D} (hm : m[k]? = some (.lst ds)) (p : P .non (m.set k (.lst []))) : WM c rClear (.hd k) [] m P := fun vx vs w H rx rs s o Q q => by
  cases rx with
  | hd ha =>
    cases rs
    obtain ⟨z, xs, hx, rr⟩ := s.cell _ _ _ ha hm
    have s2 : StOk c.K w (m.set k (.lst [])) (upd H _ (.lst [])) := s.change ha z (show CellR c.K w _ _ (.lst []) from ⟨z, _, upd_same, .nil⟩)
    exact ⟨_, xs, rfl, rfl, hx, q _ _ _ _ _ (.refl w) .non s2 p⟩
end

theorem app_get {m : Store} {c : Cell} {m2 : Store} : (m ++ c :: m2)[m.length]? = some c := by
  rw [List.getElem?_append_right (Nat.le_refl _)]
  simp
theorem app_set {m : Store} {c c' : Cell} {m2 : Store} : (m ++ c :: m2).set m.length c' = m ++ c' :: m2 := by
  rw [List.set_append_right _ _ (Nat.le_refl _)]
  simp
/-! ### defs -/
def startD (N : List Str) (ds : List D) : Env := ds.map some ++ List.replicate (N.length - ds.length) none
theorem EnvR.start {K : PySem.W.Frag} {w : Wd} {N : List Str} : ∀ {vs : List V} {ds : List D}, RepA K w vs ds → EnvR K w (start N vs) (startD N ds) := fun {vs ds} r => by
  refine ⟨by simp [L2.start, startD, r.length], fun i d e => ?_⟩
  have hi : i < (ds.map some).length := by
    by_cases h : i < (ds.map some).length
    · exact h
    · unfold startD at e
      rw [List.getElem?_append_right (by omega), List.getElem?_replicate] at e
      split at e
      · cases e
      · cases e
  unfold startD at e
  rw [List.getElem?_append_left hi, List.getElem?_map] at e
  obtain ⟨x, hx, ex⟩ := Option.map_eq_some_iff.mp e
  have ex' := Option.some.inj ex
  subst ex'
  obtain ⟨v, hv, rv⟩ := r.get hx
  refine ⟨v, ?_, rv⟩
  unfold L2.start
  rw [List.length_map] at hi
  rw [List.getElem?_append_left (by rw [List.length_map, r.length]; exact hi), List.getElem?_map, hv]
  rfl
def Fin (F : FSp) (g : F.G) (m : Store) : PD := Frz (Trm m.length (F.post g m))
theorem fin_same {F : FSp} {g : F.G} {m : Store} {d : D} (wf : Wf m) (hd : d.hb m.length = true) (p : F.post g m d m) : Fin F g m d m :=
  .inl ⟨m, [], (List.append_nil m).symm, Nat.le_refl _, wf, hd, p⟩
theorem fin_trim {F : FSp} {g : F.G} {m m2 : Store} {d : D} (wf : Wf m) (hd : d.hb m.length = true) (p : F.post g m d m) : Fin F g m d (m ++ m2) :=
  .inl ⟨m, m2, rfl, Nat.le_refl _, wf, hd, p⟩
/-- a list in the first new cell is handed back, to change no more -/
theorem fin_lst {F : FSp} {g : F.G} {xs : List D} {m m2 : Store} (wf : Wf m) (hd : hbA m.length xs = true) (p : F.post g m (.lst xs) m) : Fin F g m (.hd m.length) (m ++ .lst xs :: m2) := by
  refine .inr ⟨m.length, xs, rfl, by rw [List.getElem?_append_right (Nat.le_refl _)]; simp, m, .dead :: m2, ?_, Nat.le_refl _, wf, hd, p⟩
  rw [List.set_append_right _ _ (Nat.le_refl _)]
  simp
/-- .. as a cell of its own -/
theorem fin_cell {F : FSp} {g : F.G} {c : Cell} {m m2 : Store} (wf : Wf m) (hd : c.hb (m.length + 1) = true) (p : F.post g m (.hd m.length) (m ++ [c])) : Fin F g m (.hd m.length) (m ++ c :: m2) := by
  refine .inl ⟨m ++ [c], m2, by simp, by simp, fun x hx => ?_, by simp [D.hb], p⟩
  rw [List.length_append]
  rcases List.mem_append.mp hx with h | h
  · exact hbC_mono (wf x h) (by simp)
  · rw [List.mem_singleton.mp h]
    exact hd
/-- a def that raises nothing -/
theorem ok0 {P : Program} {w : World} {K : PySem.W.Frag} {mg : Str → Option Value} {base : Heap} {x qual : Str} {st : Stmt} {f : Addr} {fd : FuncData} {N ps : List Str} {k : Nat} {F : FSp}
    (Fn : Fun K x qual st f fd) (S : FnScope N ps (defScope st)) (har : F.ar = ps.length) (hx : ∀ g m cls oi m', ¬ F.exc g m cls oi m')
    (hb : ∀ (cdv : Value) (A : Around) (outer : List PySem.Env) (s : Shared) (H : Hp) (E : XK), Room k (A.deeper (envOfC qual (defScope st) s.heap.objs.size f cdv)) →
      ∃ t, PSs (cxOf CX0 P w K mg base N qual (defScope st) f cdv A outer s H E).nox (defBody st) t ∧ ∀ g ds m, F.pre g ds m → Wf m → WS (C0 K) t (startD N ds) m { nx := fun _ m' => Fin F g m .non m', rt := Fin F g m }) :
    FnOk P w K mg base CX0 (k + 1) f fd ps (spD K F) := by
  refine Fn.ok S (fun vs H Q E h => ?_) (fun cdv A outer s H vs Q E hr h => ?_)
  · obtain ⟨w, m, ds, g, r, _, hl, _⟩ := h
    rw [r.length, hl, har]
  · obtain ⟨wd, m, ds, g, r, so, hl, hp, hq, _⟩ := h
    obtain ⟨t, ht, hw⟩ := hb cdv A outer s H E hr
    refine ⟨t, ht, hw g ds m hp so.wf _ wd H (EnvR.start r) so (C0.ok K wd) _ ?_⟩
    have base : Kt (C0 K) wd (F.post g m) Q := fun v d m' w' H' l r s p => hq v d m' w' H' l r s p
    have fin : Kt (C0 K) wd (Fin F g m) Q := (base.trm (by rw [so.len]; exact Nat.le_refl _)).frz
    exact ⟨fun σ' ρ' m' w' H' l e s p => fin .non .non m' w' H' l .non s p, fin, fun _ _ _ _ _ _ _ _ h => h.elim, fun _ _ _ _ _ _ _ _ h => h.elim⟩
end KR

/-! KR5: loops by what they have passed, comprehensions that change nothing. -/
namespace KR
open PySem PySem.Spec PyProof.Rows L2 Evl

theorem take_step {α : Type} {l : List α} {i : Nat} (h : i < l.length) : ∃ a post, l = l.take i ++ a :: post ∧ l.take (i + 1) = l.take i ++ [a] ∧ l[i]? = some a := by
  refine ⟨l[i], l.drop (i + 1), ?_, ?_, List.getElem?_eq_getElem h⟩
  · rw [← List.drop_eq_getElem_cons h, List.take_append_drop]
  · rw [List.take_succ, List.getElem?_eq_getElem h]
    rfl
theorem getD_map {α : Type} {l : List α} {i : Nat} {f : α → D} {a : α} (h : l[i]? = some a) : (l.map f).getD i .non = f a := by
  rw [List.getD_eq_getElem?_getD, List.getElem?_map, h]
  rfl
section
variable {c : Ct} {ρ : Env} {m : Store} {P : PD} {B : Ed} {ta tb te : TE} {tc : TT} {t u : TS} {g : TG}
/-- for over a list that stands still, by the part that is passed -/
theorem ws_forL {α : Type} {f : α → D} (h : WE c te ρ m fun x m1 => ∃ l : List α, x = .lst (l.map f) ∧ ∃ Iv : List α → Env → Store → Prop, Iv [] ρ m1 ∧
    (∀ pre a post ρ' m', l = pre ++ a :: post → Iv pre ρ' m' → WG c g (f a) ρ' m' fun ρ2 m2 => WS c t ρ2 m2 { nx := Iv (pre ++ [a]), ct := Iv (pre ++ [a]), bk := B.nx, rt := B.rt }) ∧ ∀ ρ' m', Iv l ρ' m' → B.nx ρ' m') :
    WS c (tFor (iList c.K te) g t) ρ m B := ws_for (wi_list (h.imp fun x m1 ⟨l, ex, Iv, i0, st, fin⟩ => ⟨_, ex, fun i => Iv (l.take i), i0, fun i ρ' m' hi p => by
  rw [List.length_map] at hi
  obtain ⟨a, post, h1, h2, h3⟩ := take_step hi
  dsimp only
  rw [getD_map h3]
  have q := st _ a post ρ' m' h1 p
  rw [← h2] at q
  exact q, fun ρ' m' p => fin ρ' m' (by have p' : Iv (l.take (l.map f).length) ρ' m' := p; rw [List.length_map, List.take_length] at p'; exact p')⟩))
theorem ws_forT {α : Type} {f : α → D} (h : WE c te ρ m fun x m1 => ∃ l : List α, x = .tup (l.map f) ∧ ∃ Iv : List α → Env → Store → Prop, Iv [] ρ m1 ∧
    (∀ pre a post ρ' m', l = pre ++ a :: post → Iv pre ρ' m' → WG c g (f a) ρ' m' fun ρ2 m2 => WS c t ρ2 m2 { nx := Iv (pre ++ [a]), ct := Iv (pre ++ [a]), bk := B.nx, rt := B.rt }) ∧ ∀ ρ' m', Iv l ρ' m' → B.nx ρ' m') :
    WS c (tFor (iTup c.K te) g t) ρ m B := ws_for (wi_tup (h.imp fun x m1 ⟨l, ex, Iv, i0, st, fin⟩ => ⟨_, ex, fun i => Iv (l.take i), i0, fun i ρ' m' hi p => by
  rw [List.length_map] at hi
  obtain ⟨a, post, h1, h2, h3⟩ := take_step hi
  dsimp only
  rw [getD_map h3]
  have q := st _ a post ρ' m' h1 p
  rw [← h2] at q
  exact q, fun ρ' m' p => fin ρ' m' (by have p' : Iv (l.take (l.map f).length) ρ' m' := p; rw [List.length_map, List.take_length] at p'; exact p')⟩))
theorem ws_forE {α : Type} {f : α → D} {tx : TA} (h : WA c tx ρ m fun xs m1 => ∃ l : List α, xs = [.lst (l.map f)] ∧ ∃ Iv : List α → Env → Store → Prop, Iv [] ρ m1 ∧
    (∀ pre a post ρ' m', l = pre ++ a :: post → Iv pre ρ' m' → WG c g (.tup [.int pre.length, f a]) ρ' m' fun ρ2 m2 => WS c t ρ2 m2 { nx := Iv (pre ++ [a]), ct := Iv (pre ++ [a]), bk := B.nx, rt := B.rt }) ∧ ∀ ρ' m', Iv l ρ' m' → B.nx ρ' m') :
    WS c (tFor (iEnum c.K tx) g t) ρ m B := ws_for (wi_enum fun σ w H e s o Q q => h σ w H e s o Q fun v d m' w' H' l' r' s' ⟨l, ex, Iv, i0, st, fin⟩ => q v d m' w' H' l' r' s' ⟨_, ex, fun i => Iv (l.take i), i0, fun i ρ' m' hi p => by
  rw [List.length_map] at hi
  obtain ⟨a, post, h1, h2, h3⟩ := take_step hi
  dsimp only
  rw [getD_map h3]
  have q := st _ a post ρ' m' h1 p
  rw [← h2, List.length_take, Nat.min_eq_left (Nat.le_of_lt hi)] at q
  exact q, fun ρ' m' p => fin ρ' m' (by have p' : Iv (l.take (l.map f).length) ρ' m' := p; rw [List.length_map, List.take_length] at p'; exact p')⟩)
theorem ws_forR {α : Type} {f : α → D} (h : WE c te ρ m fun x m1 => ∃ l : List α, x = .lst (l.map f) ∧ ∃ Iv : List α → Env → Store → Prop, Iv [] ρ m1 ∧
    (∀ pre a post ρ' m', l.reverse = pre ++ a :: post → Iv pre ρ' m' → WG c g (f a) ρ' m' fun ρ2 m2 => WS c t ρ2 m2 { nx := Iv (pre ++ [a]), ct := Iv (pre ++ [a]), bk := B.nx, rt := B.rt }) ∧ ∀ ρ' m', Iv l.reverse ρ' m' → B.nx ρ' m') :
    WS c (tFor (RT.iRevA c.K te) g t) ρ m B := ws_for (wi_rev (h.imp fun x m1 ⟨l, ex, Iv, i0, st, fin⟩ => ⟨_, ex, fun i => Iv (l.reverse.take i), i0, fun i ρ' m' hi p => by
  rw [List.length_map] at hi
  have hi' : i < l.reverse.length := by rw [List.length_reverse]; exact hi
  obtain ⟨a, post, h1, h2, h3⟩ := take_step hi'
  have h4 : l[(l.map f).length - 1 - i]? = some a := by
    rw [List.getElem?_reverse hi] at h3
    rw [List.length_map]
    exact h3
  dsimp only
  rw [getD_map h4]
  have q := st _ a post ρ' m' h1 p
  rw [← h2] at q
  exact q, fun ρ' m' p => fin ρ' m' (by have p' : Iv (l.reverse.take (l.map f).length) ρ' m' := p; rw [List.length_map, ← List.length_reverse, List.take_length] at p'; exact p')⟩))
/-- for over range(n) -/
theorem ws_forN {tx : TA} (h : WA c tx ρ m fun xs m1 => ∃ n : Nat, xs = [.int n] ∧ n ≤ 1000000 ∧ ∃ Iv : Nat → Env → Store → Prop, Iv 0 ρ m1 ∧
    (∀ i ρ' m', i < n → Iv i ρ' m' → WG c g (.int i) ρ' m' fun ρ2 m2 => WS c t ρ2 m2 { nx := Iv (i + 1), ct := Iv (i + 1), bk := B.nx, rt := B.rt }) ∧ ∀ ρ' m', Iv n ρ' m' → B.nx ρ' m') :
    WS c (tFor (iRng1 tx) g t) ρ m B := ws_for (wi_rng1 fun σ w H e s o Q q => h σ w H e s o Q fun v d m' w' H' l' r' s' ⟨n, ex, hn, p⟩ => q v d m' w' H' l' r' s' ⟨n, ex, by omega, p⟩)

/-! ### comprehensions whose turns leave the cells as they are -/
def Grow (m m' : Store) : Prop := ∀ (k : Nat) (x : Cell), m[k]? = some x → m'[k]? = some x
theorem Grow.refl (m : Store) : Grow m m := fun _ _ h => h
theorem Grow.app (m m2 : Store) : Grow m (m ++ m2) := fun k x h => by rw [List.getElem?_append_left (List.getElem?_eq_some_iff.mp h).1]; exact h
theorem Grow.trans {a b d : Store} (h : Grow a b) (k : Grow b d) : Grow a d := fun i x e => k i x (h i x e)
theorem we_lcN {wi : TI} {tt : TT} {vs : List Nat}
    (h : WI c wi ρ m fun n y m1 => ∃ Iv : Nat → List D → Prop, Iv 0 [] ∧
      (∀ i acc m', i < n → Grow m1 m' → Wf m' → acc.length ≤ i → Iv i acc → WGown c g vs (y i) (wipeD ρ vs) m' fun ρ2 m2 => m2 = m' ∧
        WT c tt ρ2 m' fun b m3 => m3 = m' ∧ (b = true → WE c te ρ2 m' fun d m4 => m4 = m' ∧ Iv (i + 1) (acc ++ [d])) ∧ (b = false → Iv (i + 1) acc)) ∧
      n ≤ 1000000 ∧ ∀ acc, acc.length ≤ n → Iv n acc → hbA m1.length acc = true ∧ P (.lst acc) m1) : WE c (tLc wi g tt te vs) ρ m P := by
  refine we_trm (we_frz (we_lc fun σ w H e s o R k => h σ w H e s o R fun J n y m1 w1 H1 l1 s1 it ⟨Iv, i0, step, hn, fin⟩ => ?_))
  have hlen : m.length ≤ m1.length := by
    rw [← s.len, ← s1.len]
    exact l1.pf.length_le
  refine k J n y m1 w1 H1 l1 s1 it ⟨fun i acc m' => m' = m1 ++ [.lst acc] ∧ acc.length ≤ i ∧ i ≤ n ∧ Iv i acc, ⟨rfl, Nat.le_refl _, Nat.zero_le _, i0⟩, ?_, ?_⟩
  · rintro i acc m' hi hm ⟨rfl, hl, hin, p⟩ v σ' w' H' r' e' s' o' Q' q'
    refine step i acc _ hi (Grow.app _ _) s'.wf hl p v σ' w' H' r' e' s' o' Q' fun σ2 ρ2 m2 w2 H2 l2 e2 s2 hw ⟨em, p2⟩ => ?_
    subst em
    refine q' σ2 ρ2 _ w2 H2 l2 e2 s2 hw ⟨hm, fun σ3 w3 H3 e3 s3 o3 Q3 q3 => p2 σ3 w3 H3 e3 s3 o3 Q3 fun b m4 w4 H4 l4 s4 ⟨em, pt, pf⟩ => ?_⟩
    subst em
    refine q3 b _ w4 H4 l4 s4 ⟨hm, fun hb => (pt hb).imp fun d m5 ⟨em, p5⟩ => ?_, fun hb => ⟨rfl, by omega, by omega, pf hb⟩⟩
    subst em
    refine ⟨hm, by omega, ?_, by rw [List.length_append, List.length_singleton]; omega, by omega, p5⟩
    rw [List.set_append_right _ _ (Nat.le_refl _)]
    simp
  · rintro acc m' hm ⟨rfl, hl, _, p⟩
    obtain ⟨hb, pp⟩ := fin acc hl p
    refine .inr ⟨m1.length, acc, rfl, hm, m1, [.dead], ?_, hlen, s1.wf, hb, pp⟩
    rw [List.set_append_right _ _ (Nat.le_refl _)]
    simp
/-- [e(a) for a in l if p(a)] over a list that stands still -/
theorem we_lcP {α : Type} {f : α → D} {j : Nat} {tt : TT} {vs : List Nat} (hj : j ∈ vs)
    (h : WE c tb ρ m fun x m1 => ∃ (l : List α) (p : α → Bool) (v : α → D), x = .lst (l.map f) ∧ l.length ≤ 1000000 ∧
      (∀ a m', a ∈ l → Grow m1 m' → WT c tt ((wipeD ρ vs).set j (some (f a))) m' fun b m3 => m3 = m' ∧ b = p a) ∧
      (∀ a m', a ∈ l → Grow m1 m' → p a = true → WE c te ((wipeD ρ vs).set j (some (f a))) m' fun d m4 => m4 = m' ∧ d = v a ∧ d.hb m1.length = true) ∧
      P (.lst ((l.filter p).map v)) m1) : WE c (tLc (iList c.K tb) (gName j) tt te vs) ρ m P := by
  refine we_lcN (wi_list (h.imp fun x m1 ⟨l, p, v, ex, hl, ht, he, pp⟩ => ⟨_, ex, ?_⟩))
  rw [List.length_map]
  refine ⟨fun i acc => acc = ((l.take i).filter p).map v ∧ hbA m1.length acc = true, ⟨rfl, rfl⟩, ?_, hl, fun acc _ ⟨e, hb⟩ => ⟨hb, by rw [List.take_length] at e; rw [e]; exact pp⟩⟩
  rintro i acc m' hi hg wf _ ⟨e, hb⟩
  obtain ⟨a, post, h1, h2, h3⟩ := take_step hi
  dsimp only
  rw [getD_map h3]
  have ha := List.mem_of_getElem? h3
  refine wgo_name hj ⟨rfl, (ht a m' ha hg).imp fun b m3 ⟨em, eb⟩ => ⟨em, fun hbt => (he a m' ha hg (by rw [← eb]; exact hbt)).imp fun d m4 ⟨em4, ed, hd⟩ => ⟨em4, ?_, ?_⟩, fun hbf => ⟨?_, hb⟩⟩⟩
  · rw [h2, List.filter_append, List.map_append, e, ed]
    congr 1
    rw [List.filter_cons, if_pos (by rw [← eb]; exact hbt)]
    rfl
  · rw [hbA_all] at hb ⊢
    intro x hx
    rcases List.mem_append.mp hx with h | h
    · exact hb x h
    · rw [List.mem_singleton.mp h]
      exact hd
  · rw [h2, List.filter_append, List.map_append, e]
    rw [List.filter_cons, if_neg (by rw [← eb, hbf]; decide)]
    simp
/-- .. over range(n) -/
theorem we_lcR {j : Nat} {tt : TT} {vs : List Nat} {tx : TA} (hj : j ∈ vs)
    (h : WA c tx ρ m fun xs m1 => ∃ (n : Nat) (p : Nat → Bool) (v : Nat → D), xs = [.int n] ∧ n ≤ 1000000 ∧
      (∀ a m', a < n → Grow m1 m' → WT c tt ((wipeD ρ vs).set j (some (.int a))) m' fun b m3 => m3 = m' ∧ b = p a) ∧
      (∀ a m', a < n → Grow m1 m' → p a = true → WE c te ((wipeD ρ vs).set j (some (.int a))) m' fun d m4 => m4 = m' ∧ d = v a ∧ d.hb m1.length = true) ∧
      P (.lst (((List.range n).filter p).map v)) m1) : WE c (tLc (iRng1 tx) (gName j) tt te vs) ρ m P := by
  refine we_lcN (wi_rng1 fun σ w H e s o Q q => h σ w H e s o Q fun x d m1 w1 H1 l1 r1 s1 ⟨n, p, v, ex, hl, ht, he, pp⟩ => q x d m1 w1 H1 l1 r1 s1 ⟨n, ex, by omega, ?_⟩)
  rw [Int.toNat_natCast]
  refine ⟨fun i acc => acc = ((List.range i).filter p).map v ∧ hbA m1.length acc = true, ⟨rfl, rfl⟩, ?_, hl, fun acc _ ⟨e, hb⟩ => ⟨hb, by rw [e]; exact pp⟩⟩
  rintro i acc m' hi hg wf _ ⟨e, hb⟩
  refine wgo_name hj ⟨rfl, (ht i m' hi hg).imp fun b m3 ⟨em, eb⟩ => ⟨em, fun hbt => (he i m' hi hg (by rw [← eb]; exact hbt)).imp fun d m4 ⟨em4, ed, hd⟩ => ⟨em4, ?_, ?_⟩, fun hbf => ⟨?_, hb⟩⟩⟩
  · rw [List.range_succ, List.filter_append, List.map_append, e, ed]
    congr 1
    rw [List.filter_cons, if_pos (by rw [← eb]; exact hbt)]
    rfl
  · rw [hbA_all] at hb ⊢
    intro x hx
    rcases List.mem_append.mp hx with h | h
    · exact hb x h
    · rw [List.mem_singleton.mp h]
      exact hd
  · rw [List.range_succ, List.filter_append, List.map_append, e]
    rw [List.filter_cons, if_neg (by rw [← eb, hbf]; decide)]
    simp
theorem we_revL (h : WE c te ρ m fun x m1 => ∃ ds, listD m1 x = some ds ∧ P (.lst ds.reverse) m1) : WE c (tRevL c.K te) ρ m P := fun σ w H e s o Q q =>
  h σ w H e s o _ fun v d m1 w1 H1 l1 r1 s1 ⟨ds, hd, p1⟩ => by
    obtain ⟨a, xs, rfl, hH, rr⟩ := s1.list r1 hd
    refine ⟨a, xs, rfl, .inl (.inl hH), fun b hb => ?_⟩
    obtain ⟨l2, s2⟩ := s1.new (o := .lst xs.reverse) hb
    exact q _ _ _ _ _ (l1.trans l2) (.lst (by show (upd w1.Z b _) b = _; exact upd_same) (rr.reverse.mono l2)) s2 p1
end
end KR

/-! KR6: the rules that speak of what is written, with that as a letter of its own. -/
namespace KR
open PySem PySem.Spec PyProof.Rows L2 Evl
section
variable {X : Cx} {K : PySem.W.Frag}
theorem ix_seqK (h : X.K = K := by rfl) : IxR X (rIx K) := h ▸ ix_seq
theorem op_inK (h : X.K = K := by rfl) : OpR X (compareOp .In) (rIn K false) := h ▸ op_in_seq
theorem op_notInK (h : X.K = K := by rfl) : OpR X (compareOp .NotIn) (rIn K true) := h ▸ op_notIn_seq
theorem sl_listK (h : X.K = K := by rfl) : SlR X (rSlL K) := h ▸ sl_list
def rLenK (K : PySem.W.Frag) : List V → Hp → VK → Prop := fun xs H Q => ∃ p ys, xs = [V.ref p] ∧ (SqL K H p ys ∨ SqT K H p ys) ∧ Q (V.int ys.length) H
def rListK (K : PySem.W.Frag) : List V → Hp → VK → Prop := fun xs H Q => ∃ p ys, xs = [V.ref p] ∧ (SqL K H p ys ∨ SqT K H p ys) ∧ ∀ (l : Addr), H l = none → Q (V.ref l) (upd H l (HO.lst ys))
def rTupK (K : PySem.W.Frag) : List V → Hp → VK → Prop := fun xs H Q => ∃ p ys, xs = [V.ref p] ∧ ((SqL K H p ys ∧ ∀ (l : Addr), H l = none → Q (V.ref l) (upd H l (HO.tup ys))) ∨ SqT K H p ys ∧ Q (V.ref p) H)
theorem call_lenK (h : X.K = K := by rfl) : CallR X (.builtin "len") (rLenK K) := h ▸ call_len_seq
theorem call_listK (h : X.K = K := by rfl) : CallR X (.type "list") (rListK K) := h ▸ call_list_of
theorem call_tupK (h : X.K = K := by rfl) : CallR X (.type "tuple") (rTupK K) := h ▸ call_tuple_of
theorem cr_sortedK (h : X.K = K := by rfl) : CallR X (.builtin "sorted") (rSorted K) := h ▸ cr_sorted
theorem cr_maxK (hc : X.calm = true) (h : X.K = K := by rfl) : CallR X (.builtin "max") (rMax K) := h ▸ cr_max hc
theorem cr_minK (hc : X.calm = true) (h : X.K = K := by rfl) : CallR X (.builtin "min") (rMin K) := h ▸ cr_min hc
theorem call_isiK (h : X.K = K := by rfl) : CallR X (.builtin "isinstance") (rIsi K) := h ▸ call_isi
theorem op_eqK (hu : X.A.units + 64 < cLine) (h : X.K = K := by rfl) : OpR X (compareOp .Eq) (rEqD K) := h ▸ op_eqD hu
theorem op_neK (hu : X.A.units + 64 < cLine) (h : X.K = K := by rfl) : OpR X (compareOp .NotEq) (rNeD K) := h ▸ op_neD hu
theorem op_catTK (h : X.K = K := by rfl) : OpR X (binaryOp .Add) (rCatT K) := h ▸ op_catT
variable {e tg it : Expr} {ta : TE} {tx : TA} {f : Str} {T : String} {r : V → List V → Hp → VK → Prop} {n : Nat} {gs : TGs}
theorem pe_fldK (hp : PE X e (tFld X.K ta f)) (h : X.K = K := by rfl) : PE X e (tFld K ta f) := h ▸ hp
theorem pe_bmK (hp : PE X e (tBM X.K T r ta tx)) (h : X.K = K := by rfl) : PE X e (tBM K T r ta tx) := h ▸ hp
theorem pe_bm0K (hp : PE X e (tBM0 X.K T r ta)) (h : X.K = K := by rfl) : PE X e (tBM0 K T r ta) := h ▸ hp
theorem pe_revLK (hp : PE X e (tRevL X.K ta)) (h : X.K = K := by rfl) : PE X e (tRevL K ta) := h ▸ hp
theorem pi_listK (hp : PI X tg it (iList X.K ta)) (h : X.K = K := by rfl) : PI X tg it (iList K ta) := h ▸ hp
theorem pi_tupK (hp : PI X tg it (iTup X.K ta)) (h : X.K = K := by rfl) : PI X tg it (iTup K ta) := h ▸ hp
theorem pi_enumK (hp : PI X tg it (iEnum X.K tx)) (h : X.K = K := by rfl) : PI X tg it (iEnum K tx) := h ▸ hp
theorem pi_revK (hp : PI X tg it (RT.iRevA X.K ta)) (h : X.K = K := by rfl) : PI X tg it (RT.iRevA K ta) := h ▸ hp
theorem pg_tupK (hp : PG X tg (gTup X.K n gs)) (h : X.K = K := by rfl) : PG X tg (gTup K n gs) := h ▸ hp
theorem pt_truK (hp : PT X e (fun σ H Q => ta σ H fun x H' => ∃ k, TruV X.K x H' k ∧ Q k H')) (h : X.K = K := by rfl) : PT X e (tTru K ta) := by
  subst h
  exact hp
theorem ps_fldK {st : Stmt} {tv : TE} (hp : PS X st (sFld X.K ta tv f)) (h : X.K = K := by rfl) : PS X st (sFld K ta tv f) := h ▸ hp
end
section
variable {c : Ct} {ρ : Env} {m : Store} {P : PD}
theorem we_is {te : TE} {d0 : D} (h : WE c te ρ m fun d m1 => d = d0 ∧ m1 = m) (p : P d0 m) : WE c te ρ m P := h.imp fun d m1 ⟨a, b⟩ => by
  rw [a, b]
  exact p
theorem wc_lenK {x : D} {ds : List D} (hx : itemsD m x = some ds) (p : P (.int (ds.length : Int)) m) : WC c (rLenK c.K) [x] m P := wc_len hx p
theorem wc_listK {x : D} {ds : List D} (hx : itemsD m x = some ds) (p : P (.lst ds) m) : WC c (rListK c.K) [x] m P := wc_list hx p
theorem wc_listMK {x : D} {ds : List D} (hx : itemsD m x = some ds) (p : P (.hd m.length) (m ++ [.lst ds])) : WC c (rListK c.K) [x] m P := wc_listM hx p
theorem wc_tupK {x : D} {ds : List D} (hx : itemsD m x = some ds) (p : P (.tup ds) m) : WC c (rTupK c.K) [x] m P := wc_tuple hx p
def upTo (n : Int) : List Int := (List.range n.toNat).map fun i : Nat => (i : Int)
theorem rg_upTo (n : Int) : rgV 0 n = (upTo n).map V.int := by
  unfold rgV upTo
  rw [List.map_map, Int.sub_zero]
  apply List.map_congr_left
  intro i _
  show V.int (0 + (i : Int)) = V.int i
  rw [Int.zero_add]
theorem we_lstRg {ta : TE} (h : WE c ta ρ m fun x m1 => ∃ n, x = .int n ∧ (0 ≤ n ∧ n ≤ 1000000) ∧ P (.lst ((upTo n).map .int)) m1) : WE c (tLstRg (tRg1 ta)) ρ m P := fun σ w H e s o Q q =>
  h σ w H e s o _ fun v d m1 w1 H1 l1 r1 s1 ⟨n, ed, hn, p1⟩ => by
    subst ed
    cases r1
    refine ⟨n, rfl, RgOk.of_le (by decide) (by omega) (by decide) hn.1, fun b hb => ?_⟩
    rw [rg_upTo]
    obtain ⟨l2, s2⟩ := s1.new (o := .lst ((upTo n).map V.int)) hb
    exact q _ _ _ _ _ (l1.trans l2) (.lst (by show (upd w1.Z b _) b = _; exact upd_same) (RepA.ints _)) s2 p1
theorem we_lstRgM {ta : TE} (h : WE c ta ρ m fun x m1 => ∃ n, x = .int n ∧ (0 ≤ n ∧ n ≤ 1000000) ∧ P (.hd m1.length) (m1 ++ [.lst ((upTo n).map .int)])) : WE c (tLstRg (tRg1 ta)) ρ m P := fun σ w H e s o Q q =>
  h σ w H e s o _ fun v d m1 w1 H1 l1 r1 s1 ⟨n, ed, hn, p1⟩ => by
    subst ed
    cases r1
    refine ⟨n, rfl, RgOk.of_le (by decide) (by omega) (by decide) hn.1, fun b hb => ?_⟩
    rw [rg_upTo]
    obtain ⟨w2, l2, s2, r2⟩ := newL s1 hb (RepA.ints (K := c.K) (w := w1) (upTo n))
    exact q _ _ _ _ _ (l1.trans l2) r2 s2 p1
/-- a comprehension whose list is a cell -/
theorem we_lcNM {g : TG} {te : TE} {wi : TI} {tt : TT} {vs : List Nat}
    (h : WI c wi ρ m fun n y m1 => ∃ Iv : Nat → List D → Prop, Iv 0 [] ∧
      (∀ i acc m', i < n → Grow m1 m' → Wf m' → acc.length ≤ i → Iv i acc → WGown c g vs (y i) (wipeD ρ vs) m' fun ρ2 m2 => m2 = m' ∧
        WT c tt ρ2 m' fun b m3 => m3 = m' ∧ (b = true → WE c te ρ2 m' fun d m4 => m4 = m' ∧ Iv (i + 1) (acc ++ [d])) ∧ (b = false → Iv (i + 1) acc)) ∧
      n ≤ 1000000 ∧ ∀ acc, acc.length ≤ n → Iv n acc → P (.hd m1.length) (m1 ++ [.lst acc])) : WE c (tLc wi g tt te vs) ρ m P := by
  refine we_lc fun σ w H e s o R k => h σ w H e s o R fun J n y m1 w1 H1 l1 s1 it ⟨Iv, i0, step, hn, fin⟩ => ?_
  refine k J n y m1 w1 H1 l1 s1 it ⟨fun i acc m' => m' = m1 ++ [.lst acc] ∧ acc.length ≤ i ∧ i ≤ n ∧ Iv i acc, ⟨rfl, Nat.le_refl _, Nat.zero_le _, i0⟩, ?_, ?_⟩
  · rintro i acc m' hi hm ⟨rfl, hl, hin, p⟩ v σ' w' H' r' e' s' o' Q' q'
    refine step i acc _ hi (Grow.app _ _) s'.wf hl p v σ' w' H' r' e' s' o' Q' fun σ2 ρ2 m2 w2 H2 l2 e2 s2 hw ⟨em, p2⟩ => ?_
    subst em
    refine q' σ2 ρ2 _ w2 H2 l2 e2 s2 hw ⟨hm, fun σ3 w3 H3 e3 s3 o3 Q3 q3 => p2 σ3 w3 H3 e3 s3 o3 Q3 fun b m4 w4 H4 l4 s4 ⟨em, pt, pf⟩ => ?_⟩
    subst em
    refine q3 b _ w4 H4 l4 s4 ⟨hm, fun hb => (pt hb).imp fun d m5 ⟨em, p5⟩ => ?_, fun hb => ⟨rfl, by omega, by omega, pf hb⟩⟩
    subst em
    refine ⟨hm, by omega, ?_, by rw [List.length_append, List.length_singleton]; omega, by omega, p5⟩
    rw [List.set_append_right _ _ (Nat.le_refl _)]
    simp
  · rintro acc m' hm ⟨rfl, hl, _, p⟩
    exact fin acc hl p
theorem we_lcRM {te : TE} {j : Nat} {tt : TT} {vs : List Nat} {tx : TA} (hj : j ∈ vs)
    (h : WA c tx ρ m fun xs m1 => ∃ (n : Nat) (p : Nat → Bool) (v : Nat → D), xs = [.int n] ∧ n ≤ 1000000 ∧
      (∀ a m', a < n → Grow m1 m' → WT c tt ((wipeD ρ vs).set j (some (.int a))) m' fun b m3 => m3 = m' ∧ b = p a) ∧
      (∀ a m', a < n → Grow m1 m' → p a = true → WE c te ((wipeD ρ vs).set j (some (.int a))) m' fun d m4 => m4 = m' ∧ d = v a) ∧
      P (.hd m1.length) (m1 ++ [.lst (((List.range n).filter p).map v)])) : WE c (tLc (iRng1 tx) (gName j) tt te vs) ρ m P := by
  refine we_lcNM (wi_rng1 fun σ w H e s o Q q => h σ w H e s o Q fun x d m1 w1 H1 l1 r1 s1 ⟨n, p, v, ex, hl, ht, he, pp⟩ => q x d m1 w1 H1 l1 r1 s1 ⟨n, ex, by omega, ?_⟩)
  rw [Int.toNat_natCast]
  refine ⟨fun i acc => acc = ((List.range i).filter p).map v, rfl, ?_, hl, fun acc _ e => by rw [e]; exact pp⟩
  rintro i acc m' hi hg wf _ e
  refine wgo_name hj ⟨rfl, (ht i m' hi hg).imp fun b m3 ⟨em, eb⟩ => ⟨em, fun hbt => (he i m' hi hg (by rw [← eb]; exact hbt)).imp fun d m4 ⟨em4, ed⟩ => ⟨em4, ?_⟩, fun hbf => ?_⟩⟩
  · show acc ++ [d] = ((List.range (i + 1)).filter p).map v
    rw [List.range_succ, List.filter_append, List.map_append, e, ed]
    congr 1
    rw [List.filter_cons, if_pos (by rw [← eb]; exact hbt)]
    rfl
  · show acc = ((List.range (i + 1)).filter p).map v
    rw [List.range_succ, List.filter_append, List.map_append, e]
    rw [List.filter_cons, if_neg (by rw [← eb, hbf]; decide)]
    simp
/-! ### sorted -/
def insI (a : Int) : List Int → List Int
  | [] => [a]
  | b :: l => if a ≤ b then a :: b :: l else b :: insI a l
def sortI : List Int → List Int
  | [] => []
  | a :: l => insI a (sortI l)
theorem insI_perm (a : Int) (l : List Int) : (insI a l).Perm (a :: l) := by
  induction l with
  | nil => exact .refl _
  | cons b l ih =>
    unfold insI
    split
    · exact .refl _
    · exact (ih.cons b).trans (.swap a b l)
theorem sortI_perm (l : List Int) : (sortI l).Perm l := by
  induction l with
  | nil => exact .refl _
  | cons a l ih => exact (insI_perm a _).trans (ih.cons a)
theorem insI_sorted {a : Int} {l : List Int} (h : l.Pairwise (· ≤ ·)) : (insI a l).Pairwise (· ≤ ·) := by
  induction l with
  | nil => exact List.pairwise_singleton _ _
  | cons b l ih =>
    unfold insI
    have h1 := List.pairwise_cons.mp h
    split
    · rename_i hab
      refine List.pairwise_cons.mpr ⟨fun x hx => ?_, h⟩
      rcases List.mem_cons.mp hx with e | e
      · rw [e]
        exact hab
      · exact Int.le_trans hab (h1.1 x e)
    · rename_i hab
      refine List.pairwise_cons.mpr ⟨fun x hx => ?_, ih h1.2⟩
      rcases List.mem_cons.mp ((insI_perm a l).mem_iff.mp hx) with e | e
      · rw [e]
        omega
      · exact h1.1 x e
theorem sortI_sorted (l : List Int) : (sortI l).Pairwise (· ≤ ·) := by
  induction l with
  | nil => exact .nil
  | cons a l ih => exact insI_sorted ih
theorem wc_sortedM {x : D} {ns : List Int} (hx : listD m x = some (ns.map .int)) (hl : ns.length < 64) (p : P (.hd m.length) (m ++ [.lst ((sortI ns).map .int)])) : WC c (rSorted c.K) [x] m P := fun vs w H rs s o Q q => by
  cases rs with
  | cons r1 r2 =>
    cases r2
    obtain ⟨a, xs, rfl, hH, rr⟩ := s.list r1 hx
    have e : xs = ns.map V.int := rr.flat (by
      rw [List.map_map, List.map_map]
      rfl)
    subst e
    refine ⟨a, ns, rfl, .inl (.inl hH), hl, fun ns' b hp hs hb => ?_⟩
    have e2 : ns' = sortI ns := PySem.W.ksm_same (hp.trans (sortI_perm ns).symm) hs (sortI_sorted ns)
    subst e2
    obtain ⟨w2, l2, s2, r3⟩ := newL s hb (RepA.ints (K := c.K) (w := w) (sortI ns))
    exact q _ _ _ _ _ l2 r3 s2 p
theorem wc_sorted {x : D} {ns : List Int} (hx : listD m x = some (ns.map .int)) (hl : ns.length < 64) (p : P (.lst ((sortI ns).map .int)) m) : WC c (rSorted c.K) [x] m P := fun vs w H rs s o Q q => by
  cases rs with
  | cons r1 r2 =>
    cases r2
    obtain ⟨a, xs, rfl, hH, rr⟩ := s.list r1 hx
    have e : xs = ns.map V.int := rr.flat (by
      rw [List.map_map, List.map_map]
      rfl)
    subst e
    refine ⟨a, ns, rfl, .inl (.inl hH), hl, fun ns' b hp hs hb => ?_⟩
    have e2 : ns' = sortI ns := PySem.W.ksm_same (hp.trans (sortI_perm ns).symm) hs (sortI_sorted ns)
    subst e2
    obtain ⟨l2, s2⟩ := s.new (o := .lst ((sortI ns).map V.int)) hb
    exact q _ _ _ _ _ l2 (.lst (by show (upd w.Z b _) b = _; exact upd_same) (RepA.ints _)) s2 p
end
end KR

/-! KR7: more by value. -/
namespace KR
open PySem PySem.Spec PyProof.Rows L2 Evl
section
variable {c : Ct} {ρ : Env} {m : Store} {P : PD}
theorem wr_catT {xs ys : List D} (hx : xs ≠ []) (hy : ys ≠ []) (hl : xs.length + ys.length ≤ 10000000) (p : P (.tup (xs ++ ys)) m) : WR c (rCatT c.K) (.tup xs) (.tup ys) m P := fun vx vy w H rx ry s o Q q => by
  cases rx with
  | tup a b =>
    cases ry with
    | tup a2 b2 =>
      rename_i ad us ad2 us2
      have n1 : us ≠ [] := fun e => by
        have := b.length
        rw [e] at this
        exact hx (List.length_eq_zero_iff.mp this.symm)
      have n2 : us2 ≠ [] := fun e => by
        have := b2.length
        rw [e] at this
        exact hy (List.length_eq_zero_iff.mp this.symm)
      refine ⟨_, _, _, _, rfl, rfl, ex_t s.ex a, ex_t s.ex a2, n1, by rw [b.length, b2.length]; exact Nat.le_trans hl (by decide), fun e => absurd e n2, fun _ pa hp => ?_⟩
      obtain ⟨l2, s2⟩ := s.new (o := .tup (us ++ us2)) hp
      exact q _ _ _ _ _ l2 (.tup (.inl (.inl (by show (upd w.Z pa _) pa = _; exact upd_same))) ((b.append b2).mono l2)) s2 p
theorem wr_pick3 {x y z : D} {i : Int} (h0 : 0 ≤ i) (h1 : i < 3) (p : ∀ v, v = x ∨ v = y ∨ v = z → P v m) : WR c (rIx c.K) (.lst [x, y, z]) (.int i) m P := by
  obtain rfl | rfl | rfl : i = 0 ∨ i = 1 ∨ i = 2 := by omega
  · exact wr_ix rfl rfl (p x (.inl rfl))
  · exact wr_ix rfl rfl (p y (.inr (.inl rfl)))
  · exact wr_ix rfl rfl (p z (.inr (.inr rfl)))
theorem wr_pick2 {x y : D} {i : Int} (h0 : 0 ≤ i) (h1 : i < 2) (p : ∀ v, v = x ∨ v = y → P v m) : WR c (rIx c.K) (.lst [x, y]) (.int i) m P := by
  obtain rfl | rfl : i = 0 ∨ i = 1 := by omega
  · exact wr_ix rfl rfl (p x (.inl rfl))
  · exact wr_ix rfl rfl (p y (.inr rfl))
theorem wr_pick {α : Type} {f : α → D} {x : D} {l : List α} {i : Int} (hx : itemsD m x = some (l.map f)) (h0 : 0 ≤ i) (h1 : i < l.length) (p : ∀ a, l[i.toNat]? = some a → a ∈ l → P (f a) m) : WR c (rIx c.K) x (.int i) m P := by
  obtain ⟨j, rfl⟩ : ∃ j : Nat, i = (j : Int) := ⟨i.toNat, by omega⟩
  have hj : j < l.length := by omega
  exact wr_ix hx (atI_nat (by rw [List.getElem?_map, List.getElem?_eq_getElem hj]; rfl)) (p l[j] (List.getElem?_eq_getElem hj) (List.getElem_mem hj))
/-- [v(a) for a in l if (who knows)]: some part of it -/
theorem we_lcSub {α : Type} {f : α → D} {j : Nat} {tt : TT} {vs : List Nat} {tb te : TE} (v : α → D) (hv : ∀ a n, (v a).hb n = true) (hj : j ∈ vs)
    (h : WE c tb ρ m fun x m1 => ∃ (l : List α), x = .lst (l.map f) ∧ l.length ≤ 1000000 ∧
      (∀ a m', a ∈ l → Grow m1 m' → WT c tt ((wipeD ρ vs).set j (some (f a))) m' fun b m3 => m3 = m') ∧
      (∀ a m', a ∈ l → Grow m1 m' → WE c te ((wipeD ρ vs).set j (some (f a))) m' fun d m4 => m4 = m' ∧ d = v a) ∧
      ∀ l' : List α, l'.Sublist l → P (.lst (l'.map v)) m1) : WE c (tLc (iList c.K tb) (gName j) tt te vs) ρ m P := by
  refine we_lcN (wi_list (h.imp fun x m1 ⟨l, ex, hl, ht, he, pp⟩ => ⟨_, ex, ?_⟩))
  rw [List.length_map]
  have hb : ∀ (l' : List α), hbA m1.length (l'.map v) = true := fun l' => by
    rw [hbA_all]
    intro d hd
    obtain ⟨a, _, rfl⟩ := List.mem_map.mp hd
    exact hv a _
  refine ⟨fun i acc => ∃ l' : List α, l'.Sublist (l.take i) ∧ acc = l'.map v, ⟨[], .slnil, rfl⟩, ?_, hl, fun acc _ ⟨l', hs, e⟩ => ⟨by rw [e]; exact hb l', by rw [List.take_length] at hs; rw [e]; exact pp l' hs⟩⟩
  rintro i acc m' hi hg wf _ ⟨l', hs, e⟩
  obtain ⟨a, post, h1, h2, h3⟩ := take_step hi
  dsimp only
  rw [getD_map h3]
  have ha := List.mem_of_getElem? h3
  refine wgo_name hj ⟨rfl, (ht a m' ha hg).imp fun b m3 em => ⟨em, fun hbt => (he a m' ha hg).imp fun d m4 ⟨em4, ed⟩ => ⟨em4, ?_⟩, fun hbf => ?_⟩⟩
  · refine ⟨l' ++ [a], ?_, by rw [List.map_append, e, ed]; rfl⟩
    rw [h2]
    exact hs.append (List.Sublist.refl _)
  · refine ⟨l', ?_, e⟩
    rw [h2]
    exact hs.trans (List.sublist_append_left _ _)
/-- [.. for k in range(n)], each what it may be -/
theorem we_lcAll {β : Type} {j : Nat} {vs : List Nat} {te : TE} {tx : TA} (v : β → D) (R : β → Prop) (hv : ∀ a n, (v a).hb n = true) (hj : j ∈ vs)
    (h : WA c tx ρ m fun xs m1 => ∃ n : Nat, xs = [.int n] ∧ n ≤ 1000000 ∧
      (∀ a m', a < n → Grow m1 m' → WE c te ((wipeD ρ vs).set j (some (.int a))) m' fun d m4 => m4 = m' ∧ ∃ x, d = v x ∧ R x) ∧
      ∀ l' : List β, l'.length = n → (∀ x ∈ l', R x) → P (.lst (l'.map v)) m1) : WE c (tLc (iRng1 tx) (gName j) tYes te vs) ρ m P := by
  refine we_lcN (wi_rng1 fun σ w H e s o Q q => h σ w H e s o Q fun x d m1 w1 H1 l1 r1 s1 ⟨n, ex, hl, he, pp⟩ => q x d m1 w1 H1 l1 r1 s1 ⟨n, ex, by omega, ?_⟩)
  rw [Int.toNat_natCast]
  have hb : ∀ (l' : List β), hbA m1.length (l'.map v) = true := fun l' => by
    rw [hbA_all]
    intro d hd
    obtain ⟨a, _, rfl⟩ := List.mem_map.mp hd
    exact hv a _
  refine ⟨fun i acc => ∃ l' : List β, l'.length = i ∧ (∀ x ∈ l', R x) ∧ acc = l'.map v, ⟨[], rfl, fun x hx => (by cases hx), rfl⟩, ?_, hl, fun acc _ ⟨l', h1, h2, e⟩ => ⟨by rw [e]; exact hb l', by rw [e]; exact pp l' h1 h2⟩⟩
  rintro i acc m' hi hg wf _ ⟨l', h1, h2, e⟩
  refine wgo_name hj ⟨rfl, wt_yes ⟨rfl, fun _ => (he i m' hi hg).imp fun d m4 ⟨em4, x, ed, hx⟩ => ⟨em4, l' ++ [x], by rw [List.length_append, h1]; rfl, fun y hy => ?_, by rw [List.map_append, e, ed]; rfl⟩, fun hbf => (by cases hbf)⟩⟩
  rcases List.mem_append.mp hy with hy | hy
  · exact h2 y hy
  · rw [List.mem_singleton.mp hy]
    exact hx
theorem we_trm0 {te : TE} (h : WE c te ρ m fun d m' => ∃ m2, m' = m ++ m2 ∧ d.hb m.length = true ∧ P d m) : WE c te ρ m P :=
  we_wf fun wf => we_trm (h.imp fun d m' ⟨m2, e, hd, p⟩ => ⟨m, m2, e, Nat.le_refl _, wf, hd, p⟩)
theorem pick_t {A B : Prop} (h : A) : (true = true → A) ∧ (true = false → B) := by
  constructor
  · intro _
    exact h
  · intro e
    cases e
theorem pick_f {A B : Prop} (h : B) : (false = true → A) ∧ (false = false → B) := by
  constructor
  · intro e
    cases e
  · intro _
    exact h
theorem pick_nf {A B : Prop} (h : A) : ((!false) = true → A) ∧ ((!false) = false → B) := pick_t h
theorem pick_nt {A B : Prop} (h : B) : ((!true) = true → A) ∧ ((!true) = false → B) := pick_f h
theorem pick_iF {A B : Prop} {d : D} (e : d.isNon = false) (h : B) : (d.isNon = true → A) ∧ (d.isNon = false → B) := by rw [e]; exact pick_f h
theorem pick_iT {A B : Prop} {d : D} (e : d.isNon = true) (h : A) : (d.isNon = true → A) ∧ (d.isNon = false → B) := by rw [e]; exact pick_t h
theorem pick_ne {A B : Prop} {x : V} (h : B) : ((!decide (x = x)) = true → A) ∧ ((!decide (x = x)) = false → B) := by
  rw [decide_eq_true rfl]
  exact pick_f h
theorem pick_eq {A B : Prop} {x : V} (h : A) : (decide (x = x) = true → A) ∧ (decide (x = x) = false → B) := by
  rw [decide_eq_true rfl]
  exact pick_t h
/-! ### isinstance -/
def tyD (m : Store) : D → Option String
  | .non => some "NoneType" | .bl _ => some "bool" | .int _ => some "int" | .str _ => some "str" | .tup _ => some "tuple" | .lst _ => some "list"
  | .hd k => (lstAt m k).map fun _ => "list"
  | _ => none
theorem StOk.ty {K : PySem.W.Frag} {w : Wd} {H : Hp} (s : StOk K w m H) {v : V} {x : D} {t : String} (r : Rep K w v x) (h : tyD m x = some t) : TyX K H v (.type t) := by
  cases r with
  | non => rw [← Option.some.inj h]; exact .base .non
  | bl b => rw [← Option.some.inj h]; exact .base (.bl b)
  | int i => rw [← Option.some.inj h]; exact .base (.int i)
  | str x => rw [← Option.some.inj h]; exact .base (.str x)
  | tup a b =>
    rw [← Option.some.inj h]
    rcases a with (a | ⟨o, a⟩) | ⟨o, its, n, e, c, _⟩
    · exact .base (.tup (s.ex _ _ a))
    · exact .fTuple (s.ex _ _ a)
    · exact .kTuple e c
  | lst a b => rw [← Option.some.inj h]; exact .base (.lst (s.ex _ _ a))
  | hd a =>
    obtain ⟨ds, hds, e⟩ := Option.map_eq_some_iff.mp (show (lstAt m _).map (fun _ => "list") = some t from h)
    obtain ⟨_, _, xs, hx, rr⟩ := s.cellL (.hd a) (lstAt_eq hds)
    rw [← e]
    exact .base (.lst hx)
  | ins a b cc => cases h
  | raw v => cases h
  | scr a => cases h
theorem wc_isi {x : D} {T t : String} {b : Bool} (ht : tyD m x = some t) (hk : kitB t T = some b) (p : P (.bl b) m) : WC c (rIsi c.K) [x, .raw (.ty T)] m P := fun vs w H rs s o Q q => by
  cases rs with
  | cons r1 r2 =>
    cases r2 with
    | cons r3 r4 =>
      cases r4
      cases r3
      exact ⟨_, .ty T, _, _, b, rfl, .ty T, s.ty r1 ht, kit_ty hk, q _ _ _ _ _ (.refl w) (.bl b) s p⟩
/-! ### plain data, and cells in data that will change no more -/
mutual
def D.sub (k : Nat) (xs : List D) : D → D
  | .tup ds => .tup (subA k xs ds)
  | .lst ds => .lst (subA k xs ds)
  | .hd j => if j = k then .lst xs else .hd j
  | d => d
def subA (k : Nat) (xs : List D) : List D → List D
  | [] => []
  | d :: ds => d.sub k xs :: subA k xs ds
end
mutual
theorem Rep.sub {K : PySem.W.Frag} {w : Wd} {k : Nat} {a : Addr} {xs : List D} (ha : w.al[k]? = some a) (rl : Rep K w (.ref a) (.lst xs)) : ∀ {v : V} {d : D}, Rep K w v d → Rep K w v (d.sub k xs)
  | _, _, .non => .non
  | _, _, .bl b => .bl b
  | _, _, .int i => .int i
  | _, _, .str x => .str x
  | _, _, .tup s r => .tup s (RepA.sub ha rl r)
  | _, _, .lst s r => .lst s (RepA.sub ha rl r)
  | _, _, .hd (k := j) e => by
    show Rep K w _ (if j = k then .lst xs else .hd j)
    by_cases h : j = k
    · rw [if_pos h]
      subst h
      have := Option.some.inj (e.symm.trans ha)
      subst this
      exact rl
    · rw [if_neg h]
      exact .hd e
  | _, _, .ins s l r => .ins s l r
  | _, _, .raw v => .raw v
  | _, _, .scr s => .scr s
theorem RepA.sub {K : PySem.W.Frag} {w : Wd} {k : Nat} {a : Addr} {xs : List D} (ha : w.al[k]? = some a) (rl : Rep K w (.ref a) (.lst xs)) : ∀ {vs : List V} {ds : List D}, RepA K w vs ds → RepA K w vs (subA k xs ds)
  | _, _, .nil => .nil
  | _, _, .cons p q => .cons (Rep.sub ha rl p) (RepA.sub ha rl q)
end
theorem we_sub {te : TE} (h : WE c te ρ m fun d m' => ∃ k xs, m'[k]? = some (.lst xs) ∧ P (d.sub k xs) (m'.set k .dead)) : WE c te ρ m P := fun σ w H e s o Q q => h σ w H e s o Q fun v d m' w' H' l r s' ⟨k, xs, hm, p⟩ => by
  have hk := (List.getElem?_eq_some_iff.mp hm).1
  rw [← s'.len] at hk
  obtain ⟨w2, l2, al2, s2, r2⟩ := s'.freeze (List.getElem?_eq_getElem hk) hm
  exact q _ _ _ _ _ (l.trans l2) (Rep.sub (by rw [al2]; exact List.getElem?_eq_getElem hk) r2 (r.mono l2)) s2 p
end
end KR

/-! KS: sorted(set(xs)) for a list of ints that may tell some more than once. -/
namespace KR
open PySem PySem.Spec PyProof.Rows L2 Evl
abbrev s0 (w : World) : Obj := { cls := .type "set", dict := none, data := .set #[] 0 (.fresh 0 0 (!w.params.followText "set-order")) }
section
variable {P : Program} {w : World} {A : Around} {E : Value → Shared → Prop} {s : Shared}
def SetEnd (w : World) (s : Shared) (ns : List Int) (h' : Heap) (c : Nat) : Prop :=
  SetR w h' s.heap.objs.size (fun j => decide (j ∈ ns)) c ∧ ∀ b o, s.heap.get? b = some o → h'.get? b = some o
theorem set_ofL {l : Addr} {us : Array Value} (ns : List Int) {Q : Value → Shared → Prop} (hA : A.handled = none) (il : s.heap.IsList l us) (iu : IntsAre us.toList ns) (few : ns.length + 1 < scanBound)
    (k : ∀ (h' : Heap) (tk c : Nat), SetEnd w s ns h' c → Q (.ref s.heap.objs.size) { s with heap := h', toks := tk }) :
    wpAny (model P w) A (call (.type "set") [.ref l]) Q E s := by
  have hsz : us.size = ns.length := by rw [← Array.length_toList]; exact iu.length
  obtain ⟨c, tl, hmro⟩ := F.called_set.mro
  have m1 := F.called_set.made
  have m2 := F.called_set.sub
  refine wpAny_call (codeAny_of_tree (?_ : wpAny _ _ (callAny (.type "set") _) _ _ _))
  refine wpAny_pure ⟨Code.quiet_builtin _ (by decide +kernel), codeAny_builtin F.entry_type_call ?_⟩
  rw [Around.under_plain (weight_type_call_type "set" [.ref l] []) rfl]
  have m3 := F.called_set.notType
  have m4 := F.called_set.canCreate
  have m5 := F.typeCall_set_1 (.ref l)
  repeat (any_goals (first | assumption | wp_step))
  refine codeAny_mono (code_set_led1 (.ref l) (E := E) (Q₁ := fun z t => z = .ref s.heap.objs.size ∧ t = { s with heap := s.heap.push (s0 w) }) ⟨rfl, rfl⟩) fun z t hz => ?_
  rcases z with e | fl
  · exact hz
  cases fl with
  | ret z =>
    obtain ⟨rfl, rfl⟩ := hz
    have at0 : (s.heap.push (s0 w)).get? s.heap.objs.size = some (s0 w) := Heap.get?_push_size _ rfl
    have ty0 : Shared.TypeIs { s with heap := s.heap.push (s0 w) } (.ref s.heap.objs.size) "set" := ⟨_, at0, rfl⟩
    have b1 := F.called_set.init.lookup
    have b2 := F.called_set.init.bind (.ref s.heap.objs.size)
    repeat (any_goals (first | assumption | wp_step))
    refine codeAny_mono (codeAny_call_builtin (R := wants (fun z t => z = .none ∧ ∃ h' tk c, t = { s with heap := h', toks := tk } ∧ SetEnd w s ns h' c) E) F.called_set.init.plain F.entry_set_init (check_set_init_1 ty0 ?_)) fun z2 t2 hz2 => ?_
    · obtain ⟨⟨cls, dict, data, slots⟩, ol, oc, n, od⟩ := il
      dsimp only at oc od
      subst oc
      subst od
      have at1 : (s.heap.push (s0 w)).get? l = some ⟨.type "list", dict, .seq us n, slots⟩ := Heap.get?_push_of_some _ ol
      have sub1 := F.sub_list_set
      have sub2 := F.sub_list_frozenset
      have other : (Value.type "list" == Value.type "dict") = false := by decide
      have il1 : (s.heap.push (s0 w)).IsList l us := ⟨_, at1, rfl, n, rfl⟩
      have lt1 : l < s.heap.objs.size := Heap.lt_size ol
      have z1 : (s.heap.push (s0 w)).objs.size = s.heap.objs.size + 1 := Heap.size_push ..
      unfold Builtin.«set.__init__» noKeywords Builtin.Frozenset.updateFrom
      generalize hit : pyIter = IT
      wp_walk
      subst hit
      refine wpAny_pyIter_list il1 (wpAny_bind (wpAny_runValue ?_))
      have hA3 : A.in1.in1.in1.handled = none := by simp [hA]
      have notI : l ≠ (s.heap.push (s0 w)).objs.size := fun h => by
        have h : @Eq Nat l (s.heap.push (s0 w)).objs.size := h
        have lt1 : @LT.lt Nat _ l s.heap.objs.size := lt1
        omega
      have notS : s.heap.objs.size ∉ [(s.heap.push (s0 w)).objs.size, l] := fun h => by
        rcases List.mem_cons.mp h with h | h
        · have h : @Eq Nat s.heap.objs.size (s.heap.push (s0 w)).objs.size := h
          omega
        · have h : @Eq Nat s.heap.objs.size l := List.mem_singleton.mp h
          have lt1 : @LT.lt Nat _ l s.heap.objs.size := lt1
          omega
      have vals : ∀ (i : Nat) (v : Value), us[i]? = some v → ∃ k t, ns[i]? = some k ∧ v = .int k t := fun i v hv => by
        have hi : i < ns.length := hsz ▸ (Array.getElem?_eq_some_iff.mp hv).1
        obtain ⟨t, e⟩ := iu.int_at i v (by rw [Array.getElem?_toList]; exact hv)
        rw [List.getD_eq_getElem?_getD, List.getElem?_eq_getElem hi] at e
        exact ⟨ns[i], t, List.getElem?_eq_getElem hi, e⟩
      have W := Walks.list (prog := P) (w := w) hA3 (s.heap.push (s0 w)).objs.size l notI us
      refine set_update_ints W.toS s.heap.objs.size notS ns hsz few vals us.size 0 _ (Nat.sub_zero _) (Nat.zero_le _) ⟨⟨_, Heap.get?_push_size _ rfl, rfl, rfl⟩, il1.push _⟩ ⟨0, Nat.le_refl 0, setR_new_at (Heap.get?_push_of_some _ at0)⟩ ?_
      rintro ⟨h', g, d, tk, os⟩ c' mv hc R'
      obtain rfl : g = s.gens := mv.gens
      obtain rfl : d = s.drawn := mv.drawn
      obtain rfl : os = s.os := mv.os
      refine wpAny_pure (wpAny_pure ⟨rfl, h', tk, c', rfl, R', fun b o e => ?_⟩)
      have lb : @LT.lt Nat _ b s.heap.objs.size := Heap.lt_size e
      refine mv.heap b o (fun hb => ?_) (Heap.get?_push_of_some _ (Heap.get?_push_of_some _ e))
      rcases List.mem_cons.mp hb with hb | hb
      · have hb : @Eq Nat b s.heap.objs.size := hb
        omega
      · have hb : @Eq Nat b (s.heap.push (s0 w)).objs.size := List.mem_singleton.mp hb
        omega
    · rcases z2 with e | fl2
      · exact hz2
      cases fl2 with
      | ret z =>
        obtain ⟨rfl, h', tk, c', rfl, hE⟩ := hz2
        repeat (any_goals (first | assumption | wp_step))
        exact k _ _ _ hE
      | _ => exact hz2.elim
  | _ => exact hz.elim
end
end KR
namespace KR
open PySem PySem.Spec PyProof.Rows L2 Evl
theorem nodup_le : ∀ {l zs : List Int}, l.Nodup → (∀ x ∈ l, x ∈ zs) → l.length ≤ zs.length
  | [], _, _, _ => Nat.zero_le _
  | x :: l, zs, hn, h => by
    obtain ⟨h1, h2⟩ := List.nodup_cons.mp hn
    have hx := h x List.mem_cons_self
    have := nodup_le (zs := zs.erase x) h2 fun y hy => (List.mem_erase_of_ne (a := y) (b := x) fun e : y = x => h1 (by rw [← e]; exact hy)).mpr (h y (List.mem_cons_of_mem _ hy))
    rw [List.length_erase_of_mem hx] at this
    have := List.length_pos_of_mem hx
    rw [List.length_cons]
    omega
theorem setR_le {w : World} {h : Heap} {a : Addr} {ns zs : List Int} {c : Nat} (R : SetR w h a (fun j => decide (j ∈ ns)) c) (hz : ∀ k ∈ ns, k ∈ zs) : c ≤ zs.length := by
  obtain ⟨o, es, ep, t, _, _, _, _, nd, hm, _, _, hn, _⟩ := R
  have := nodup_le nd fun x hx => hz x (of_decide_eq_true ((hm x).mpr hx))
  rw [List.length_map, Array.length_toList, hn] at this
  exact this
section
variable {X : Cx}
/-- set(xs), xs a list of ints, some of them perhaps told more than once -/
def rSetL (K : PySem.W.Frag) (w : World) : List V → Hp → VK → Prop := fun xs H Q => ∃ (l : Addr) (ns : List Int), xs = [V.ref l] ∧ SqL K H l (ns.map V.int) ∧ ns.length < 4000 ∧
  ∀ a c, (∀ zs : List Int, (∀ k ∈ ns, k ∈ zs) → c ≤ zs.length) → H a = none → Q (.ref a) (upd H a (SetO w a (fun j => decide (j ∈ ns)) c))
theorem cr_setL (hc : X.calm = true) : CallR X (.type "set") (rSetL X.K X.w) := by
  intro pins s σ H xs us Q I r h
  obtain ⟨l, ns, rfl, hl, hf, q⟩ := h
  rw [Vals.ref1 r]
  obtain ⟨its, rv, pl, hz⟩ := I.list hl
  have hn : H s.heap.objs.size = none := I.hok.fresh (Nat.le_refl _)
  refine set_ofL ns (I.ok.hd hc) pl.isList (by simpa using rv.ints) (by unfold scanBound; omega) fun h' tk c hE => ?_
  exact ⟨.ref s.heap.objs.size, upd H s.heap.objs.size (SetO X.w s.heap.objs.size (fun j => decide (j ∈ ns)) c), I.laid (t' := tk) hE.2 (Nat.le_refl _) (setO_new hE.1), rfl, q _ c (fun zs hz => setR_le hE.1 hz) hn⟩
theorem cr_setLK {K : PySem.W.Frag} {w : World} (hc : X.calm = true) (h : X.K = K := by rfl) (hw : X.w = w := by rfl) : CallR X (.type "set") (rSetL K w) := h ▸ hw ▸ cr_setL hc
theorem cr_sortedSetK {w : World} (hc : X.calm = true) (hw : X.w = w := by rfl) : CallR X (.builtin "sorted") (rSortedSet w) := hw ▸ cr_sortedSet hc
end
section
variable {c : Ct} {ρ : Env} {m : Store} {P : PD} {te : TE}
theorem upd_set {H : Hp} {a : Addr} {o : HO} : (upd H a o) a = some o := upd_same
theorem we_sortedSet {w0 : World} (h : WE c te ρ m fun x m1 => ∃ ns zs0 : List Int, listD m1 x = some (ns.map .int) ∧ ns.length < 4000 ∧ (∀ k ∈ ns, k ∈ zs0) ∧ zs0.length < 64 ∧
    ∀ zs : List Int, zs.Pairwise (· < ·) → (∀ k, k ∈ zs ↔ k ∈ ns) → P (.lst (zs.map .int)) m1) : WE c (tCB (rSortedSet w0) (tCons (tCB (rSetL c.K w0) (tCons te tNil)) tNil)) ρ m P := fun σ w H e s o Q q =>
  h σ w H e s o (fun x H1 => rSetL c.K w0 [x] H1 fun y H2 => rSortedSet w0 [y] H2 Q) fun v d m1 w1 H1 l1 r1 s1 ⟨ns, zs0, hx, hl, hz, h64, p⟩ => by
    obtain ⟨a, xs, rfl, hH, rr⟩ := s1.list r1 hx
    have ex : xs = ns.map V.int := rr.flat (by
      rw [List.map_map, List.map_map]
      rfl)
    subst ex
    refine ⟨a, ns, rfl, .inl (.inl hH), hl, fun b k hk hb => ?_⟩
    refine ⟨b, _, k, rfl, upd_set, by have := hk zs0 hz; omega, fun zs p2 hs hm _ hp2 => ?_⟩
    obtain ⟨l2, s2⟩ := s1.new (o := SetO w0 b (fun j => decide (j ∈ ns)) k) hb
    obtain ⟨l3, s3⟩ := s2.new (o := .lst (zs.map V.int)) hp2
    exact q _ _ _ _ _ (l1.trans (l2.trans l3)) (.lst (by show (upd _ p2 _) p2 = _; exact upd_same) (RepA.ints _)) s3 (p zs hs fun k => (hm k).trans (by simp))
end
end KR

/-! KM: the program's functions over plain rows. -/
namespace KM
/-- what, early, late; what: none for somebody who isn't known -/
abbrev Ent := Option Int × Int × Int
def mx (i j : Int) : Int := if j > i then j else i
def mn (i j : Int) : Int := if j < i then j else i
def soonF : Int → List Ent → List Int
  | _, [] => []
  | r, e :: es => mx r e.2.1 :: soonF (mx r e.2.1) es
def reach (r : Int) (l : List Ent) : Int := l.foldl (fun r e => mx r e.2.1) r
theorem soonF_snoc (r : Int) (l : List Ent) (e : Ent) : soonF r (l ++ [e]) = soonF r l ++ [mx (reach r l) e.2.1] := by
  induction l generalizing r with
  | nil => rfl
  | cons x l ih =>
    show mx r x.2.1 :: soonF (mx r x.2.1) (l ++ [e]) = _
    rw [ih]
    rfl
theorem reach_snoc (r : Int) (l : List Ent) (e : Ent) : reach r (l ++ [e]) = mx (reach r l) e.2.1 := by
  unfold reach
  rw [List.foldl_append]
  rfl
theorem soonF_len (r : Int) (l : List Ent) : (soonF r l).length = l.length := by
  induction l generalizing r with
  | nil => rfl
  | cons x l ih =>
    show (mx r x.2.1 :: soonF (mx r x.2.1) l).length = _
    rw [List.length_cons, ih]
    rfl
theorem soonF_app (r : Int) (l k : List Ent) : soonF r (l ++ k) = soonF r l ++ soonF (reach r l) k := by
  induction l generalizing r with
  | nil => rfl
  | cons x l ih =>
    show mx r x.2.1 :: soonF (mx r x.2.1) (l ++ k) = _
    rw [ih]
    rfl
def latG : Int → List Ent → List Int
  | _, [] => []
  | r, e :: es => mn r e.2.2 :: latG (mn r e.2.2) es
def lim (r : Int) (l : List Ent) : Int := l.foldl (fun r e => mn r e.2.2) r
theorem latG_snoc (r : Int) (l : List Ent) (e : Ent) : latG r (l ++ [e]) = latG r l ++ [mn (lim r l) e.2.2] := by
  induction l generalizing r with
  | nil => rfl
  | cons x l ih =>
    show mn r x.2.2 :: latG (mn r x.2.2) (l ++ [e]) = _
    rw [ih]
    rfl
theorem lim_snoc (r : Int) (l : List Ent) (e : Ent) : lim r (l ++ [e]) = mn (lim r l) e.2.2 := by
  unfold lim
  rw [List.foldl_append]
  rfl
theorem latG_len (r : Int) (l : List Ent) : (latG r l).length = l.length := by
  induction l generalizing r with
  | nil => rfl
  | cons x l ih =>
    show (mn r x.2.2 :: latG (mn r x.2.2) l).length = _
    rw [List.length_cons, ih]
    rfl
def latF (l : List Ent) : List Int := (latG 999 l.reverse).reverse
theorem latF_len (l : List Ent) : (latF l).length = l.length := by
  unfold latF
  rw [List.length_reverse, latG_len, List.length_reverse]
/-- the first that cannot be begun, from place i on -/
def stuckG : Int → Nat → List Ent → Option Nat
  | _, _, [] => none
  | r, i, e :: es => if mx r e.2.1 > e.2.2 then some i else stuckG (mx r e.2.1) (i + 1) es
def stuckF (l : List Ent) : Option Nat := stuckG 0 0 l
def Begins (l : List Ent) : Prop := stuckF l = none
theorem stuckG_none (r : Int) (i : Nat) (l : List Ent) : stuckG r i l = none ↔ ∀ pre e post, l = pre ++ e :: post → mx (reach r pre) e.2.1 ≤ e.2.2 := by
  induction l generalizing r i with
  | nil =>
    constructor
    · intro _ pre e post h
      cases pre with
      | nil => simp at h
      | cons a b => simp at h
    · intro _
      rfl
  | cons x l ih =>
    show (if mx r x.2.1 > x.2.2 then some i else stuckG (mx r x.2.1) (i + 1) l) = none ↔ _
    by_cases hx : mx r x.2.1 > x.2.2
    · rw [if_pos hx]
      refine ⟨fun h => (by cases h), fun h => ?_⟩
      have := h [] x l rfl
      exact absurd hx (by show ¬ _; unfold reach at this; simp at this; omega)
    · rw [if_neg hx, ih]
      refine ⟨fun h pre e post eq => ?_, fun h pre e post eq => ?_⟩
      · cases pre with
        | nil =>
          simp at eq
          rw [← eq.1]
          show mx r x.2.1 ≤ x.2.2
          omega
        | cons y pre =>
          simp at eq
          rw [← eq.1]
          exact h pre e post eq.2
      · exact h (x :: pre) e post (by rw [eq]; rfl)
theorem stuckG_some {r : Int} {i : Nat} {pre post : List Ent} {e : Ent} (h : ∀ p x q, pre = p ++ x :: q → mx (reach r p) x.2.1 ≤ x.2.2) (hx : mx (reach r pre) e.2.1 > e.2.2) : stuckG r i (pre ++ e :: post) = some (i + pre.length) := by
  induction pre generalizing r i with
  | nil =>
    show (if mx r e.2.1 > e.2.2 then some i else _) = _
    have hx' : mx r e.2.1 > e.2.2 := hx
    rw [if_pos hx']
    rfl
  | cons y pre ih =>
    show (if mx r y.2.1 > y.2.2 then some i else stuckG (mx r y.2.1) (i + 1) (pre ++ e :: post)) = _
    have h1 := h [] y pre rfl
    have h1' : mx r y.2.1 ≤ y.2.2 := h1
    rw [if_neg (by omega), ih (fun p x q eq => h (y :: p) x q (by rw [eq]; rfl)) hx]
    rw [List.length_cons]
    congr 1
    omega
def standF (l : List Ent) (t : Int) : List Int :=
  ((List.range (l.length + 1)).filter fun a : Nat => decide ((0 :: soonF 0 l).getD a 0 ≤ t) && decide (t < (latF l ++ [1000]).getD a 0)).map fun a : Nat => (a : Int) - 1
def whatAt (l : List Ent) (p : Int) : Option Int := if p = -1 then some (-1) else (l.getD p.toNat (none, 0, 0)).1
def addNew (acc : List (Option Int)) (x : Option Int) : List (Option Int) := if x ∈ acc then acc else acc ++ [x]
theorem addNew_in {acc : List (Option Int)} {x : Option Int} (h : x ∈ acc) : addNew acc x = acc := if_pos h
theorem addNew_out {acc : List (Option Int)} {x : Option Int} (h : ¬ x ∈ acc) : addNew acc x = acc ++ [x] := if_neg h
def toldF (l : List Ent) (t : Int) : List (Option Int) := ((standF l t).map (whatAt l)).foldl addNew []
end KM

namespace KR
open PySem PySem.Spec L2 Evl KM
section
variable {c : Ct} {ρ : Env} {m : Store} {P : PD} {te : TE}
/-- range(a, b) -/
def rng (a b : Int) : List Int := (List.range (b - a).toNat).map fun i : Nat => a + (i : Int)
theorem mem_rng {a b x : Int} : x ∈ rng a b ↔ a ≤ x ∧ x < b := by
  unfold rng
  rw [List.mem_map]
  constructor
  · rintro ⟨i, hi, rfl⟩
    have := List.mem_range.mp hi
    omega
  · rintro ⟨h1, h2⟩
    exact ⟨(x - a).toNat, List.mem_range.mpr (by omega), by omega⟩
theorem rng_len (a b : Int) : (rng a b).length = (b - a).toNat := by
  unfold rng
  rw [List.length_map, List.length_range]
theorem wc_maxL {x : D} {ns : List Int} (hx : listD m x = some (ns.map .int)) (hn : 0 < ns.length) (p : ∀ v, v ∈ ns → (∀ y, y ∈ ns → y ≤ v) → P (.int v) m) : WC c (rMax c.K) [x] m P := fun vs w H rs s o Q q => by
  cases rs with
  | cons r1 r2 =>
    cases r2
    obtain ⟨a, xs, rfl, hH, rr⟩ := s.list r1 hx
    have e : xs = ns.map V.int := rr.flat (by
      rw [List.map_map, List.map_map]
      rfl)
    subst e
    exact ⟨a, ns, rfl, .inl (.inl hH), hn, fun v h1 h2 => q _ _ _ _ _ (.refl w) (.int v) s (p v h1 h2)⟩
theorem wc_minL {x : D} {ns : List Int} (hx : listD m x = some (ns.map .int)) (hn : 0 < ns.length) (p : ∀ v, v ∈ ns → (∀ y, y ∈ ns → v ≤ y) → P (.int v) m) : WC c (rMin c.K) [x] m P := fun vs w H rs s o Q q => by
  cases rs with
  | cons r1 r2 =>
    cases r2
    obtain ⟨a, xs, rfl, hH, rr⟩ := s.list r1 hx
    have e : xs = ns.map V.int := rr.flat (by
      rw [List.map_map, List.map_map]
      rfl)
    subst e
    exact ⟨a, ns, rfl, .inl (.inl hH), hn, fun v h1 h2 => q _ _ _ _ _ (.refl w) (.int v) s (p v h1 h2)⟩
/-- xs[-1:] -/
theorem cutZ_last (xs : List D) : cutZ xs (some (-1)) none = xs.getLast?.toList := by
  rcases xs.eq_nil_or_concat with rfl | ⟨ys, y, rfl⟩
  · rfl
  · rw [List.concat_eq_append, List.getLast?_append]
    have e1 : HT.sIx (ys ++ [y]).length 0 (some (-1)) = ys.length := by
      show (if (-1 : Int) < 0 then ((-1 : Int) + ((ys ++ [y]).length : Int)).toNat else min (-1 : Int).toNat (ys ++ [y]).length) = ys.length
      rw [if_pos (by decide), List.length_append, List.length_singleton]
      omega
    unfold cutZ
    rw [e1, List.drop_left]
    show List.take ((ys ++ [y]).length - ys.length) [y] = [y]
    rw [List.length_append, Nat.add_sub_cancel_left]
    rfl
/-- [e(a) for a in range(lo, n)] -/
theorem we_lcR2 {j : Nat} {vs : List Nat} {tx : TA} (hj : j ∈ vs)
    (h : WA c tx ρ m fun xs m1 => ∃ (lo n : Int) (v : Int → D), xs = [.int lo, .int n] ∧ (-100000 ≤ lo ∧ lo ≤ 100000 ∧ -100000 ≤ n ∧ n ≤ 100000) ∧
      (∀ a m', lo ≤ a → a < n → Grow m1 m' → WE c te ((wipeD ρ vs).set j (some (.int a))) m' fun d m4 => m4 = m' ∧ d = v a ∧ d.hb m1.length = true) ∧
      P (.lst ((rng lo n).map v)) m1) : WE c (tLc (iRng2 tx) (gName j) tYes te vs) ρ m P := by
  refine we_lcN (wi_rng2 fun σ w H e s o Q q => h σ w H e s o Q fun x d m1 w1 H1 l1 r1 s1 ⟨lo, n, v, ex, hl, he, pp⟩ => q x d m1 w1 H1 l1 r1 s1 ⟨lo, n, ex, by omega, ?_⟩)
  refine ⟨fun i acc => acc = ((List.range i).map fun i : Nat => lo + (i : Int)).map v ∧ hbA m1.length acc = true, ⟨rfl, rfl⟩, ?_, by omega, fun acc _ ⟨e, hb⟩ => ⟨hb, by rw [e]; exact pp⟩⟩
  rintro i acc m' hi hg wf _ ⟨e, hb⟩
  refine wgo_name hj ⟨rfl, wt_yes ⟨rfl, fun _ => (he (lo + i) m' (by omega) (by omega) hg).imp fun d m4 ⟨em4, ed, hd⟩ => ⟨em4, ?_, ?_⟩, fun hb => (by cases hb)⟩⟩
  · rw [List.range_succ, List.map_append, List.map_append, e, ed]
    rfl
  · rw [hbA_all] at hb ⊢
    intro x hx
    rcases List.mem_append.mp hx with h | h
    · exact hb x h
    · rw [List.mem_singleton.mp h]
      exact hd
/-- whether a list of nones and ints is empty -/
def pOf : V → PyData
  | .int i => .int i
  | _ => .none
def Plain (u : V) : Prop := u = .non ∨ ∃ i, u = .int i
theorem dp_of {K : PySem.W.Frag} {H : Hp} : ∀ {us : List V}, (∀ u ∈ us, Plain u) → DpAll K H us (us.map pOf)
  | [], _ => .nil
  | u :: us, h => .cons (by
      rcases h u List.mem_cons_self with rfl | ⟨i, rfl⟩
      · exact .non
      · exact .int i) (dp_of fun x hx => h x (List.mem_cons_of_mem _ hx))
theorem lay_of : ∀ us : List V, PyData.canLayAll0 (us.map pOf) = true ∧ PyData.depthAll (us.map pOf) = 0
  | [] => ⟨rfl, rfl⟩
  | u :: us => by
    obtain ⟨a, b⟩ := lay_of us
    have hu : PyData.canLay0 (pOf u) = true ∧ PyData.depth (pOf u) = 0 := by cases u <;> exact ⟨rfl, rfl⟩
    refine ⟨?_, ?_⟩
    · show (PyData.canLay0 (pOf u) && PyData.canLayAll0 (us.map pOf)) = true
      rw [hu.1, a]
      rfl
    · show max (PyData.depth (pOf u)) (PyData.depthAll (us.map pOf)) = 0
      rw [hu.2, b]
      rfl
theorem shaped_of (us : List V) : SeqAt.shaped (.list (us.map pOf)) = true := by
  obtain ⟨a, b⟩ := lay_of us
  show (PyData.canLayAll0 (us.map pOf) && decide (PyData.depthAll (us.map pOf) + 1 ≤ 64)) = true
  rw [a, b]
  rfl
theorem wr_eqNil {x : D} {ds : List D} {us : List V} (hx : listD m x = some ds) (hu : ds.map D.flat = us.map some) (hp : ∀ u ∈ us, Plain u) (p : P (.bl ds.isEmpty) m) : WR c (rEqD c.K) x (.lst []) m P := fun vx vy w H rx ry s o Q q => by
  obtain ⟨a, xs, rfl, hH, rr⟩ := s.list rx hx
  have e := rr.flat hu
  subst e
  obtain ⟨b, ys, rfl, hH2, rr2⟩ := s.list (d := .lst []) (ds := []) ry rfl
  have e2 : ys = [] := by cases rr2; rfl
  subst e2
  refine ⟨_, .list ([].map pOf), .lst (.inl (.inl hH)) (dp_of hp), .lst (.inl (.inl hH2)) .nil, shaped_of xs, shaped_of [], ?_⟩
  have e3 : PyData.eqv (.list (xs.map pOf)) (.list ([].map pOf)) = ds.isEmpty := by
    have := rr.length
    cases xs with
    | nil => cases ds with
      | nil => rfl
      | cons _ _ => simp at this
    | cons _ _ => cases ds with
      | nil => simp at this
      | cons _ _ => rfl
  rw [e3]
  exact q _ _ _ _ _ (.refl w) (.bl _) s p
theorem sub_nil : Sub [] [] := ⟨rfl, fun i d h => h⟩
theorem sub_keep {a b : Env} {o : Option D} (h : Sub a b) : Sub (o :: a) (o :: b) := ⟨congrArg (· + 1) h.1, fun i d e => by
  cases i with
  | zero => exact e
  | succ i => exact h.2 i d e⟩
theorem sub_drop {a b : Env} {o : Option D} (h : Sub a b) : Sub (none :: a) (o :: b) := ⟨congrArg (· + 1) h.1, fun i d e => by
  cases i with
  | zero => cases e
  | succ i => exact h.2 i d e⟩
/-- all that an environment names lies in the first n cells -/
def EHb (n : Nat) (ρ : Env) : Prop := ∀ (i : Nat) (d : D), ρ[i]? = some (some d) → d.hb n = true
theorem ehb_nil {n : Nat} : EHb n [] := fun i d h => by cases h
theorem ehb_none {n : Nat} {ρ : Env} (h : EHb n ρ) : EHb n (none :: ρ) := fun i d e => by
  cases i with
  | zero => cases e
  | succ i => exact h i d e
theorem ehb_some {n : Nat} {ρ : Env} {x : D} (hx : x.hb n = true) (h : EHb n ρ) : EHb n (some x :: ρ) := fun i d e => by
  cases i with
  | zero =>
    cases e
    exact hx
  | succ i => exact h i d e
end
end KR
namespace KM
/-- the least moment of the next entry in a world -/
def least (e : Int) (t : List Int) : Int := match t.getLast? with
  | none => e
  | some x => mx e x
def longer (t : List Int) (e : Ent) : List (List Int) := (KR.rng (least e.2.1 t) (e.2.2 + 1)).map fun x => t ++ [x]
def longers (found : List (List Int)) (e : Ent) : List (List Int) := (found.map fun t => longer t e).flatten
/-- all worlds of a row -/
def worldsF (l : List Ent) : List (List Int) := l.foldl longers [[]]
/-- what a row tells of a moment in a world -/
def atK (l : List Ent) (t : List Int) (moment : Int) (n : Nat) : Option Int := (List.range n).foldl (fun found k => if t.getD k 0 ≤ moment then (l.getD k (none, 0, 0)).1 else found) (some (-1))
def atF (l : List Ent) (t : List Int) (moment : Int) : Option Int := atK l t moment l.length
theorem atK_succ (l : List Ent) (t : List Int) (moment : Int) (n : Nat) : atK l t moment (n + 1) = if t.getD n 0 ≤ moment then (l.getD n (none, 0, 0)).1 else atK l t moment n := by
  unfold atK
  rw [List.range_succ, List.foldl_append]
  rfl
end KM
namespace KM
/-- how many moments may follow in a world -/
def roomF (t : List Int) : Nat := (8 - t.getLast?.getD 0).toNat
def tot : List (List Int) → Nat
  | [] => 0
  | t :: ts => roomF t + tot ts
theorem tot_app (a b : List (List Int)) : tot (a ++ b) = tot a + tot b := by
  induction a with
  | nil => exact (Nat.zero_add _).symm
  | cons t a ih =>
    show roomF t + tot (a ++ b) = roomF t + tot a + tot b
    rw [ih]
    omega
/-- an entry within moments up to seven -/
def In7 (e : Ent) : Prop := 0 ≤ e.2.1 ∧ e.2.2 ≤ 7 ∧ e.2.1 ≤ e.2.2
def At7 (t : List Int) : Prop := 0 ≤ t.getLast?.getD 0 ∧ t.getLast?.getD 0 ≤ 7
theorem least_ge (e : Int) (t : List Int) (h : 0 ≤ e) : t.getLast?.getD 0 ≤ least e t := by
  unfold least
  cases t.getLast? with
  | none => exact h
  | some x =>
    show x ≤ mx e x
    unfold mx
    split <;> omega
theorem sum8 : ∀ a : Fin 9, ∀ b : Fin 9, 2 * ((List.range b.1).map fun i => 8 - (a.1 + i)).sum ≤ 9 * (8 - a.1) ∨ 8 < a.1 + b.1 := by decide
theorem tot_longer {t : List Int} {e : Ent} (he : In7 e) (ht : At7 t) : (longer t e).length ≤ roomF t ∧ 2 * tot (longer t e) ≤ 9 * roomF t ∧ ∀ u ∈ longer t e, At7 u := by
  have h1 := least_ge e.2.1 t he.1
  have h2 := ht.1
  have h3 := ht.2
  have h4 := he.2.1
  refine ⟨?_, ?_, fun u hu => ?_⟩
  · unfold longer roomF
    rw [List.length_map, KR.rng_len]
    omega
  · have e1 : tot (longer t e) = ((List.range (e.2.2 + 1 - least e.2.1 t).toNat).map fun i : Nat => (8 - (least e.2.1 t + (i : Int))).toNat).sum := by
      unfold longer KR.rng
      generalize (e.2.2 + 1 - least e.2.1 t).toNat = n
      induction n with
      | zero => rfl
      | succ n ih =>
        rw [List.range_succ, List.map_append, List.map_append, tot_app, ih, List.map_append, List.sum_append]
        congr 1
        show roomF _ + 0 = _
        unfold roomF
        rw [List.getLast?_append]
        rfl
    rw [e1]
    by_cases hl : e.2.2 + 1 ≤ least e.2.1 t
    · rw [show (e.2.2 + 1 - least e.2.1 t).toNat = 0 by omega]
      exact Nat.zero_le _
    · have s := sum8 ⟨(least e.2.1 t).toNat, by omega⟩ ⟨(e.2.2 + 1 - least e.2.1 t).toNat, by omega⟩
      dsimp only at s
      rcases s with s | s
      · have e2 : ((List.range (e.2.2 + 1 - least e.2.1 t).toNat).map fun i : Nat => (8 - (least e.2.1 t + (i : Int))).toNat) = (List.range (e.2.2 + 1 - least e.2.1 t).toNat).map fun i : Nat => 8 - ((least e.2.1 t).toNat + i) := List.map_congr_left fun i _ => by omega
        rw [e2]
        unfold roomF
        omega
      · omega
  · unfold longer at hu
    obtain ⟨x, hx, rfl⟩ := List.mem_map.mp hu
    have := KR.mem_rng.mp hx
    unfold At7
    rw [List.getLast?_append]
    show 0 ≤ x ∧ x ≤ 7
    omega
theorem longers_7 {e : Ent} (he : In7 e) : ∀ {ts : List (List Int)}, (∀ t ∈ ts, At7 t) → (longers ts e).length ≤ tot ts ∧ 2 * tot (longers ts e) ≤ 9 * tot ts ∧ ∀ u ∈ longers ts e, At7 u
  | [], _ => ⟨Nat.le_refl _, Nat.le_refl _, fun u hu => by cases hu⟩
  | t :: ts, h => by
    obtain ⟨a, b, c⟩ := tot_longer he (h t List.mem_cons_self)
    obtain ⟨a', b', c'⟩ := longers_7 he (ts := ts) fun u hu => h u (List.mem_cons_of_mem _ hu)
    have e1 : longers (t :: ts) e = longer t e ++ longers ts e := rfl
    have e2 : tot (t :: ts) = roomF t + tot ts := rfl
    rw [e1, e2, List.length_append, tot_app]
    refine ⟨by omega, by omega, fun u hu => ?_⟩
    rcases List.mem_append.mp hu with hu | hu
    · exact c u hu
    · exact c' u hu
theorem worlds_snoc (l : List Ent) (e : Ent) : worldsF (l ++ [e]) = longers (worldsF l) e := by
  unfold worldsF
  rw [List.foldl_append]
  rfl
theorem worlds_tot {l : List Ent} (h : ∀ e ∈ l, In7 e) : tot (worldsF l) * 2 ^ l.length ≤ 8 * 9 ^ l.length ∧ ∀ u ∈ worldsF l, At7 u := by
  rcases l.eq_nil_or_concat with rfl | ⟨k, e, rfl⟩
  · refine ⟨by decide, fun u hu => ?_⟩
    rw [List.mem_singleton.mp (show u ∈ [[]] from hu)]
    exact ⟨by decide, by decide⟩
  · rw [List.concat_eq_append] at h ⊢
    obtain ⟨a, b⟩ := worlds_tot (l := k) fun x hx => h x (List.mem_append_left _ hx)
    obtain ⟨c, d, f⟩ := longers_7 (h e (by simp)) b
    rw [worlds_snoc, List.length_append, List.length_singleton, Nat.pow_succ, Nat.pow_succ]
    refine ⟨?_, f⟩
    have q := Nat.mul_le_mul_right (2 ^ k.length) d
    rw [Nat.mul_assoc, Nat.mul_assoc] at q
    generalize tot (longers (worldsF k) e) = u at *
    generalize tot (worldsF k) = v at *
    generalize 2 ^ k.length = x at *
    generalize 9 ^ k.length = y at *
    rw [← Nat.mul_assoc u x 2]
    generalize u * x = ux at *
    generalize v * x = vx at *
    omega
termination_by l.length
decreasing_by all_goals simp_wf; all_goals (rename_i hh; try simp at hh; try subst hh); all_goals simp
theorem worlds_len {l : List Ent} (h : ∀ e ∈ l, In7 e) (h4 : l.length ≤ 4) : (worldsF l).length ≤ 729 := by
  rcases l.eq_nil_or_concat with rfl | ⟨k, e, rfl⟩
  · decide
  · rw [List.concat_eq_append] at h h4 ⊢
    obtain ⟨a, b⟩ := worlds_tot (l := k) fun x hx => h x (List.mem_append_left _ hx)
    obtain ⟨c, _, _⟩ := longers_7 (h e (by simp)) b
    rw [worlds_snoc]
    rw [List.length_append, List.length_singleton] at h4
    refine Nat.le_trans c ?_
    obtain e | e | e | e : k.length = 0 ∨ k.length = 1 ∨ k.length = 2 ∨ k.length = 3 := by omega
    all_goals
      rw [e] at a
      simp at a
      omega
theorem least_le {e : Int} {t : List Int} (h : e ≤ 7) (ht : At7 t) : least e t ≤ 7 := by
  have h2 := ht.2
  unfold least
  cases hg : t.getLast? with
  | none => exact h
  | some x =>
    rw [hg] at h2
    have h3 : x ≤ 7 := h2
    show mx e x ≤ 7
    unfold mx
    split <;> omega
theorem snocI {α : Type} {p : List α → Prop} (h0 : p []) (h1 : ∀ l a, p l → p (l ++ [a])) (l : List α) : p l := by
  rw [← l.reverse_reverse]
  induction l.reverse with
  | nil => exact h0
  | cons a t ih =>
    rw [List.reverse_cons]
    exact h1 _ _ ih
theorem worlds_each (l : List Ent) : ∀ t ∈ worldsF l, t.length = l.length := by
  refine snocI (p := fun l => ∀ t ∈ worldsF l, t.length = l.length) ?_ (fun k e ih => ?_) l
  · intro t ht
    rw [List.mem_singleton.mp (show t ∈ [[]] from ht)]
    rfl
  · rw [worlds_snoc]
    intro t ht
    unfold longers at ht
    obtain ⟨x, hx, hy⟩ := List.mem_flatten.mp ht
    obtain ⟨u, hu, rfl⟩ := List.mem_map.mp hx
    unfold longer at hy
    obtain ⟨i, _, rfl⟩ := List.mem_map.mp hy
    rw [List.length_append, List.length_append, ih u hu]
    rfl
end KM

namespace KM
def gE (r : List Ent) (i : Nat) : Int := (r.getD i (none, 0, 0)).2.1
def gL (r : List Ent) (i : Nat) : Int := (r.getD i (none, 0, 0)).2.2
theorem mx_le {a b x : Int} : mx a b ≤ x ↔ a ≤ x ∧ b ≤ x := by
  unfold mx
  split <;> omega
theorem le_mn {a b x : Int} : x ≤ mn a b ↔ x ≤ a ∧ x ≤ b := by
  unfold mn
  split <;> omega
theorem soon_le {r : List Ent} {b : Int} {i : Nat} {x : Int} (hi : i < r.length) : (soonF b r).getD i 0 ≤ x ↔ b ≤ x ∧ ∀ j, j ≤ i → gE r j ≤ x := by
  induction r generalizing b i with
  | nil => cases hi
  | cons e es ih =>
    cases i with
    | zero =>
      show mx b e.2.1 ≤ x ↔ _
      rw [mx_le]
      refine ⟨fun h => ⟨h.1, fun j hj => ?_⟩, fun h => ⟨h.1, h.2 0 (Nat.le_refl 0)⟩⟩
      rw [Nat.le_zero.mp hj]
      exact h.2
    | succ i =>
      show (soonF (mx b e.2.1) es).getD i 0 ≤ x ↔ _
      rw [ih (by simpa using hi), mx_le]
      refine ⟨fun h => ⟨h.1.1, fun j hj => ?_⟩, fun h => ⟨⟨h.1, h.2 0 (Nat.zero_le _)⟩, fun j hj => h.2 (j + 1) (by omega)⟩⟩
      cases j with
      | zero => exact h.1.2
      | succ j => exact h.2 j (by omega)
theorem latG_ge {r : List Ent} {b : Int} {i : Nat} {x : Int} (hi : i < r.length) : x ≤ (latG b r).getD i 0 ↔ x ≤ b ∧ ∀ j, j ≤ i → x ≤ gL r j := by
  induction r generalizing b i with
  | nil => cases hi
  | cons e es ih =>
    cases i with
    | zero =>
      show x ≤ mn b e.2.2 ↔ _
      rw [le_mn]
      refine ⟨fun h => ⟨h.1, fun j hj => ?_⟩, fun h => ⟨h.1, h.2 0 (Nat.le_refl 0)⟩⟩
      rw [Nat.le_zero.mp hj]
      exact h.2
    | succ i =>
      show x ≤ (latG (mn b e.2.2) es).getD i 0 ↔ _
      rw [ih (by simpa using hi), le_mn]
      refine ⟨fun h => ⟨h.1.1, fun j hj => ?_⟩, fun h => ⟨⟨h.1, h.2 0 (Nat.zero_le _)⟩, fun j hj => h.2 (j + 1) (by omega)⟩⟩
      cases j with
      | zero => exact h.1.2
      | succ j => exact h.2 j (by omega)
theorem getD_rev {α : Type} {l : List α} {i : Nat} {d : α} (h : i < l.length) : l.reverse.getD i d = l.getD (l.length - 1 - i) d := by
  rw [List.getD_eq_getElem?_getD, List.getD_eq_getElem?_getD, List.getElem?_reverse h]
theorem lat_ge {r : List Ent} {i : Nat} {x : Int} (hi : i < r.length) : x ≤ (latF r).getD i 0 ↔ x ≤ 999 ∧ ∀ k, i ≤ k → k < r.length → x ≤ gL r k := by
  unfold latF
  have hl : (latG 999 r.reverse).length = r.length := by rw [latG_len, List.length_reverse]
  rw [getD_rev (by rw [hl]; exact hi), hl, latG_ge (by rw [List.length_reverse]; omega)]
  refine ⟨fun h => ⟨h.1, fun k h1 h2 => ?_⟩, fun h => ⟨h.1, fun j hj => ?_⟩⟩
  · have := h.2 (r.length - 1 - k) (by omega)
    unfold gL at this
    rw [getD_rev (by omega)] at this
    rw [show r.length - 1 - (r.length - 1 - k) = k by omega] at this
    exact this
  · unfold gL
    rw [getD_rev (by omega)]
    exact h.2 (r.length - 1 - j) (by omega) (by omega)
theorem split_at {α : Type} {l : List α} {i : Nat} (h : i < l.length) : ∃ e post, l = l.take i ++ e :: post ∧ l[i]? = some e := by
  refine ⟨l[i], l.drop (i + 1), ?_, List.getElem?_eq_getElem h⟩
  rw [← List.drop_eq_getElem_cons h, List.take_append_drop]
theorem fit_le {r : List Ent} (h : stuckF r = none) {i : Nat} (hi : i < r.length) : (soonF 0 r).getD i 0 ≤ gL r i := by
  obtain ⟨e, post, h1, h2⟩ := split_at hi
  have q := (stuckG_none 0 0 r).mp h _ e post h1
  have hs : soonF 0 r = soonF 0 (r.take i) ++ (mx (reach 0 (r.take i)) e.2.1 :: soonF (mx (reach 0 (r.take i)) e.2.1) post) := by
    have := soonF_app 0 (r.take i) (e :: post)
    rw [← h1] at this
    exact this
  have hl : (soonF 0 (r.take i)).length = i := by rw [soonF_len, List.length_take]; omega
  rw [List.getD_eq_getElem?_getD, hs, List.getElem?_append_right (by omega), hl, Nat.sub_self]
  unfold gL
  rw [List.getD_eq_getElem?_getD, h2]
  exact q
/-- a world of a row -/
structure IsW (r : List Ent) (w : List Int) : Prop where
  len : w.length = r.length
  lo : ∀ i, i < r.length → gE r i ≤ w.getD i 0
  hi : ∀ i, i < r.length → w.getD i 0 ≤ gL r i
  up : ∀ i, i < r.length → ∀ j, j < i → w.getD j 0 ≤ w.getD i 0
theorem getD_l {α : Type} {a b : List α} {i : Nat} {d : α} (h : i < a.length) : (a ++ b).getD i d = a.getD i d := by
  rw [List.getD_eq_getElem?_getD, List.getD_eq_getElem?_getD, List.getElem?_append_left h]
theorem getD_r {α : Type} {a : List α} {x d : α} : (a ++ [x]).getD a.length d = x := by
  rw [List.getD_eq_getElem?_getD, List.getElem?_append_right (Nat.le_refl _), Nat.sub_self]
  rfl
theorem least_iff {e x : Int} {u : List Int} (h : ∀ i, i < u.length → ∀ j, j < i → u.getD j 0 ≤ u.getD i 0) : least e u ≤ x ↔ e ≤ x ∧ ∀ j, j < u.length → u.getD j 0 ≤ x := by
  rcases u.eq_nil_or_concat with rfl | ⟨v, y, rfl⟩
  · exact ⟨fun q => ⟨q, fun j hj => by cases hj⟩, fun q => q.1⟩
  · rw [List.concat_eq_append] at h ⊢
    have e1 : least e (v ++ [y]) = mx e y := by
      unfold least
      rw [List.getLast?_append]
      rfl
    rw [e1, mx_le]
    refine ⟨fun q => ⟨q.1, fun j hj => ?_⟩, fun q => ⟨q.1, ?_⟩⟩
    · rw [List.length_append, List.length_singleton] at hj
      by_cases hjv : j = v.length
      · subst hjv
        rw [getD_r]
        exact q.2
      · have := h v.length (by simp) j (by omega)
        rw [getD_r] at this
        exact Int.le_trans this q.2
    · have := q.2 v.length (by simp)
      rw [getD_r] at this
      exact this
theorem mem_longers {ts : List (List Int)} {e : Ent} {w : List Int} : w ∈ longers ts e ↔ ∃ u, u ∈ ts ∧ ∃ x, least e.2.1 u ≤ x ∧ x ≤ e.2.2 ∧ w = u ++ [x] := by
  unfold longers longer
  rw [List.mem_flatten]
  constructor
  · rintro ⟨l, hl, hw⟩
    obtain ⟨u, hu, rfl⟩ := List.mem_map.mp hl
    obtain ⟨x, hx, rfl⟩ := List.mem_map.mp hw
    have := KR.mem_rng.mp hx
    exact ⟨u, hu, x, this.1, by omega, rfl⟩
  · rintro ⟨u, hu, x, h1, h2, rfl⟩
    exact ⟨_, List.mem_map.mpr ⟨u, hu, rfl⟩, List.mem_map.mpr ⟨x, KR.mem_rng.mpr ⟨h1, by omega⟩, rfl⟩⟩
theorem mem_worlds (r : List Ent) : ∀ w, w ∈ worldsF r ↔ IsW r w := by
  refine snocI (p := fun r => ∀ w, w ∈ worldsF r ↔ IsW r w) (fun w => ?_) (fun k e ih w => ?_) r
  · refine ⟨fun h => ?_, fun h => ?_⟩
    · rw [List.mem_singleton.mp (show w ∈ [[]] from h)]
      exact ⟨rfl, fun i hi => (by cases hi), fun i hi => (by cases hi), fun i hi => (by cases hi)⟩
    · have := List.length_eq_zero_iff.mp h.len
      rw [this]
      exact List.mem_singleton.mpr rfl
  · rw [worlds_snoc, mem_longers]
    have ge : ∀ i, i < k.length → gE (k ++ [e]) i = gE k i := fun i hi => by
      unfold gE
      rw [getD_l hi]
    have gl : ∀ i, i < k.length → gL (k ++ [e]) i = gL k i := fun i hi => by
      unfold gL
      rw [getD_l hi]
    have ge' : gE (k ++ [e]) k.length = e.2.1 := by
      unfold gE
      rw [getD_r]
    have gl' : gL (k ++ [e]) k.length = e.2.2 := by
      unfold gL
      rw [getD_r]
    constructor
    · rintro ⟨u, hu, x, h1, h2, rfl⟩
      have W := (ih u).mp hu
      have hl := W.len
      obtain ⟨h3, h4⟩ := (least_iff fun i hi j hj => W.up i (by omega) j hj).mp h1
      have ux : (u ++ [x]).getD k.length 0 = x := by rw [← hl, getD_r]
      refine ⟨by rw [List.length_append, List.length_append, hl]; rfl, fun i hi => ?_, fun i hi => ?_, fun i hi j hj => ?_⟩
      · rw [List.length_append, List.length_singleton] at hi
        by_cases hik : i = k.length
        · rw [hik, ge', ux]
          exact h3
        · rw [ge i (by omega), getD_l (by omega)]
          exact W.lo i (by omega)
      · rw [List.length_append, List.length_singleton] at hi
        by_cases hik : i = k.length
        · rw [hik, gl', ux]
          exact h2
        · rw [gl i (by omega), getD_l (by omega)]
          exact W.hi i (by omega)
      · rw [List.length_append, List.length_singleton] at hi
        rw [getD_l (i := j) (by omega)]
        by_cases hik : i = k.length
        · rw [hik, ux]
          exact h4 j (by omega)
        · rw [getD_l (by omega)]
          exact W.up i (by omega) j hj
    · intro W
      have hl := W.len
      rw [List.length_append, List.length_singleton] at hl
      rcases w.eq_nil_or_concat with rfl | ⟨u, x, rfl⟩
      · cases hl
      · rw [List.concat_eq_append] at W hl ⊢
        rw [List.length_append, List.length_singleton] at hl
        have hu : u.length = k.length := by omega
        have hkl : k.length < (k ++ [e]).length := by simp
        have ux : (u ++ [x]).getD k.length 0 = x := by rw [← hu, getD_r]
        have up : ∀ i, i < k.length → ∀ j, j < i → u.getD j 0 ≤ u.getD i 0 := fun i hi j hj => by
          have := W.up i (by rw [List.length_append, List.length_singleton]; omega) j hj
          rw [getD_l (by omega), getD_l (by omega)] at this
          exact this
        refine ⟨u, (ih u).mpr ⟨hu, fun i hi => ?_, fun i hi => ?_, up⟩, x, (least_iff fun i hi j hj => up i (by omega) j hj).mpr ⟨?_, fun j hj => ?_⟩, ?_, rfl⟩
        · have := W.lo i (by rw [List.length_append, List.length_singleton]; omega)
          rw [getD_l (by omega), ge i hi] at this
          exact this
        · have := W.hi i (by rw [List.length_append, List.length_singleton]; omega)
          rw [getD_l (by omega), gl i hi] at this
          exact this
        · have := W.lo k.length hkl
          rw [ux, ge'] at this
          exact this
        · have := W.up k.length hkl j (by omega)
          rw [ux, getD_l hj] at this
          exact this
        · have := W.hi k.length hkl
          rw [ux, gl'] at this
          exact this
theorem at_upto {r : List Ent} {w : List Int} {t : Int} {a : Nat} (h1 : ∀ i, i < a → w.getD i 0 ≤ t) (h2 : ∀ i, a ≤ i → i < r.length → t < w.getD i 0) : ∀ m, m ≤ r.length → atK r w t m = whatAt r (((min m a : Nat) : Int) - 1) := by
  intro m
  induction m with
  | zero =>
    intro _
    rw [Nat.zero_min]
    rfl
  | succ m ih =>
    intro hm
    rw [atK_succ]
    by_cases hma : m < a
    · rw [if_pos (h1 m hma), Nat.min_eq_left (by omega)]
      unfold whatAt
      rw [if_neg (by omega)]
      congr 2
      omega
    · have := h2 m (by omega) (by omega)
      rw [if_neg (by omega), ih (by omega), Nat.min_eq_right (by omega), Nat.min_eq_right (by omega)]
theorem at_of {r : List Ent} {w : List Int} {t : Int} {a : Nat} (ha : a ≤ r.length) (h1 : ∀ i, i < a → w.getD i 0 ≤ t) (h2 : ∀ i, a ≤ i → i < r.length → t < w.getD i 0) : atF r w t = whatAt r ((a : Int) - 1) := by
  unfold atF
  rw [at_upto h1 h2 _ (Nat.le_refl _), Nat.min_eq_right ha]
theorem cut_of {w : List Int} {t : Int} : ∀ n : Nat, (∀ i, i < n → ∀ j, j < i → w.getD j 0 ≤ w.getD i 0) → ∃ a, a ≤ n ∧ (∀ i, i < a → w.getD i 0 ≤ t) ∧ ∀ i, a ≤ i → i < n → t < w.getD i 0
  | 0, _ => ⟨0, Nat.le_refl _, fun i hi => (by omega), fun i _ hi => (by omega)⟩
  | n + 1, h => by
    by_cases hn : w.getD n 0 ≤ t
    · refine ⟨n + 1, Nat.le_refl _, fun i hi => ?_, fun i h1 h2 => (by omega)⟩
      by_cases hin : i = n
      · rw [hin]
        exact hn
      · exact Int.le_trans (h n (by omega) i (by omega)) hn
    · obtain ⟨a, h1, h2, h3⟩ := cut_of n fun i hi j hj => h i (by omega) j hj
      refine ⟨a, by omega, h2, fun i h4 h5 => ?_⟩
      by_cases hin : i = n
      · rw [hin]
        omega
      · exact h3 i h4 (by omega)
theorem mem_stand {r : List Ent} {t p : Int} : p ∈ standF r t ↔ ∃ a : Nat, a ≤ r.length ∧ p = (a : Int) - 1 ∧ (0 :: soonF 0 r).getD a 0 ≤ t ∧ t < (latF r ++ [1000]).getD a 0 := by
  unfold standF
  rw [List.mem_map]
  constructor
  · rintro ⟨a, ha, rfl⟩
    obtain ⟨h1, h2⟩ := List.mem_filter.mp ha
    have h1 := List.mem_range.mp h1
    simp only [Bool.and_eq_true, decide_eq_true_eq] at h2
    exact ⟨a, by omega, rfl, h2⟩
  · rintro ⟨a, h1, rfl, h2⟩
    refine ⟨a, List.mem_filter.mpr ⟨List.mem_range.mpr (by omega), ?_⟩, rfl⟩
    simp only [Bool.and_eq_true, decide_eq_true_eq]
    exact h2
theorem mem_fold {l : List (Option Int)} : ∀ {acc : List (Option Int)} {o : Option Int}, o ∈ l.foldl addNew acc ↔ o ∈ acc ∨ o ∈ l := by
  induction l with
  | nil => exact fun {acc o} => ⟨.inl, fun h => h.elim id fun h => by cases h⟩
  | cons x l ih =>
    intro acc o
    rw [List.foldl_cons, ih]
    have hx : o ∈ addNew acc x ↔ o ∈ acc ∨ o = x := by
      unfold addNew
      by_cases h : x ∈ acc
      · rw [if_pos h]
        exact ⟨.inl, fun q => q.elim id fun q => q ▸ h⟩
      · rw [if_neg h, List.mem_append, List.mem_singleton]
    rw [hx, List.mem_cons, or_assoc]
theorem nodup_fold {l : List (Option Int)} : ∀ {acc : List (Option Int)}, acc.Nodup → (l.foldl addNew acc).Nodup := by
  induction l with
  | nil => exact fun h => h
  | cons x l ih =>
    intro acc h
    rw [List.foldl_cons]
    refine ih ?_
    unfold addNew
    by_cases hx : x ∈ acc
    · rw [if_pos hx]
      exact h
    · rw [if_neg hx]
      exact List.nodup_append.mpr ⟨h, List.nodup_cons.mpr ⟨(by simp), List.nodup_nil⟩, fun a ha b hb e => hx (by rw [← List.mem_singleton.mp hb, ← e]; exact ha)⟩
theorem told_nodup (r : List Ent) (t : Int) : (toldF r t).Nodup := nodup_fold List.nodup_nil
/-- what may be told of a moment is what is told of it in some world -/
theorem mem_told {r : List Ent} {t : Int} (h7 : ∀ e ∈ r, In7 e) (hf : stuckF r = none) (h0 : 0 ≤ t) (h8 : t ≤ 8) (o : Option Int) : o ∈ toldF r t ↔ ∃ w, w ∈ worldsF r ∧ atF r w t = o := by
  have g7 : ∀ i, i < r.length → 0 ≤ gE r i ∧ gL r i ≤ 7 := fun i hi => by
    have := h7 r[i] (List.getElem_mem hi)
    have e : r.getD i (none, 0, 0) = r[i] := by rw [List.getD_eq_getElem?_getD, List.getElem?_eq_getElem hi]; rfl
    unfold gE gL
    rw [e]
    exact ⟨this.1, this.2.1⟩
  have el : ∀ i, i < r.length → ∀ j, j ≤ i → gE r j ≤ gL r i := fun i hi j hj => ((soon_le hi).mp (fit_le hf hi)).2 j hj
  unfold toldF
  rw [mem_fold, List.mem_map]
  constructor
  · rintro (h | ⟨p, hp, rfl⟩)
    · cases h
    obtain ⟨a, ha, rfl, h1, h2⟩ := mem_stand.mp hp
    let w : List Int := (List.range r.length).map fun i => if i < a then (soonF 0 r).getD i 0 else (latF r).getD i 0
    have wl : w.length = r.length := by
      show ((List.range r.length).map _).length = _
      rw [List.length_map, List.length_range]
    have wi : ∀ i, i < r.length → w.getD i 0 = if i < a then (soonF 0 r).getD i 0 else (latF r).getD i 0 := fun i hi => by
      show ((List.range r.length).map _).getD i 0 = _
      rw [List.getD_eq_getElem?_getD, List.getElem?_map, List.getElem?_range hi]
      rfl
    have s1 : ∀ i, i < r.length → 0 ≤ (soonF 0 r).getD i 0 ∧ ∀ j, j ≤ i → gE r j ≤ (soonF 0 r).getD i 0 := fun i hi => (soon_le hi).mp (Int.le_refl _)
    have l1 : ∀ i, i < r.length → (latF r).getD i 0 ≤ 999 ∧ ∀ k, i ≤ k → k < r.length → (latF r).getD i 0 ≤ gL r k := fun i hi => (lat_ge hi).mp (Int.le_refl _)
    have up1 : ∀ i, i < r.length → ∀ j, j ≤ i → (soonF 0 r).getD j 0 ≤ (soonF 0 r).getD i 0 := fun i hi j hj => (soon_le (by omega)).mpr ⟨(s1 i hi).1, fun k hk => (s1 i hi).2 k (by omega)⟩
    have up2 : ∀ i, i < r.length → ∀ j, j ≤ i → (latF r).getD j 0 ≤ (latF r).getD i 0 := fun i hi j hj => (lat_ge hi).mpr ⟨(l1 j (by omega)).1, fun k hk hk2 => (l1 j (by omega)).2 k (by omega) hk2⟩
    have b1 : ∀ i, i < a → i < r.length → (soonF 0 r).getD i 0 ≤ t := fun i hi hir => by
      obtain ⟨b, rfl⟩ : ∃ b, a = b + 1 := ⟨a - 1, by omega⟩
      exact Int.le_trans (up1 b (by omega) i (by omega)) h1
    have b2 : ∀ i, a ≤ i → i < r.length → t < (latF r).getD i 0 := fun i hi hir => by
      rw [getD_l (by rw [latF_len]; omega)] at h2
      exact Int.lt_of_lt_of_le h2 (up2 i hir a hi)
    refine ⟨w, (mem_worlds r w).mpr ⟨wl, fun i hi => ?_, fun i hi => ?_, fun i hi j hj => ?_⟩, at_of ha (fun i hi => ?_) fun i hi hir => ?_⟩
    · rw [wi i hi]
      split
      · exact (s1 i hi).2 i (Nat.le_refl _)
      · exact (lat_ge hi).mpr ⟨by have := el i hi i (Nat.le_refl _); have := g7 i hi; omega, fun k hk hkr => el k hkr i hk⟩
    · rw [wi i hi]
      split
      · exact fit_le hf hi
      · exact (l1 i hi).2 i (Nat.le_refl _) hi
    · rw [wi i hi, wi j (by omega)]
      by_cases hia : i < a
      · rw [if_pos hia, if_pos (by omega)]
        exact up1 i hi j (by omega)
      · rw [if_neg hia]
        by_cases hja : j < a
        · rw [if_pos hja]
          exact Int.le_of_lt (Int.lt_of_le_of_lt (b1 j hja (by omega)) (b2 i (by omega) hi))
        · rw [if_neg hja]
          exact up2 i hi j (by omega)
    · rw [wi i (by omega), if_pos hi]
      exact b1 i hi (by omega)
    · rw [wi i hir, if_neg (by omega)]
      exact b2 i hi hir
  · rintro ⟨w, hw, rfl⟩
    have W := (mem_worlds r w).mp hw
    obtain ⟨a, ha, h1, h2⟩ := cut_of (t := t) r.length W.up
    refine .inr ⟨(a : Int) - 1, mem_stand.mpr ⟨a, ha, rfl, ?_, ?_⟩, (at_of ha h1 h2).symm⟩
    · cases a with
      | zero => exact h0
      | succ b =>
        show (soonF 0 r).getD b 0 ≤ t
        refine (soon_le (by omega)).mpr ⟨h0, fun j hj => ?_⟩
        exact Int.le_trans (W.lo j (by omega)) (h1 j (by omega))
    · by_cases har : a < r.length
      · rw [getD_l (by rw [latF_len]; exact har)]
        show t + 1 ≤ _
        refine (lat_ge har).mpr ⟨by omega, fun k hk hkr => ?_⟩
        have := h2 k hk hkr
        have := W.hi k hkr
        omega
      · have e : a = (latF r).length := by rw [latF_len]; omega
        rw [e, getD_r]
        omega
theorem worlds_ne {r : List Ent} (hf : stuckF r = none) : worldsF r ≠ [] := fun h => by
  have : soonF 0 r ∈ worldsF r := (mem_worlds r _).mpr ⟨soonF_len 0 r, fun i hi => ((soon_le hi).mp (Int.le_refl _)).2 i (Nat.le_refl _), fun i hi => fit_le hf hi, fun i hi j hj =>
    (soon_le (by omega)).mpr ⟨((soon_le hi).mp (Int.le_refl _)).1, fun k hk => ((soon_le hi).mp (Int.le_refl _)).2 k (by omega)⟩⟩
  rw [h] at this
  cases this
theorem at_is {r : List Ent} {w : List Int} {t : Int} : ∀ m, m ≤ r.length → atK r w t m = some (-1) ∨ ∃ e, e ∈ r ∧ atK r w t m = e.1
  | 0, _ => .inl rfl
  | m + 1, h => by
    rw [atK_succ]
    have e : r.getD m (none, 0, 0) = r[m] := by rw [List.getD_eq_getElem?_getD, List.getElem?_eq_getElem (by omega)]; rfl
    split
    · exact .inr ⟨r[m], List.getElem_mem _, by rw [e]⟩
    · exact at_is m (by omega)
theorem strict_ext : ∀ {a b : List Int}, a.Pairwise (· < ·) → b.Pairwise (· < ·) → (∀ x, x ∈ a ↔ x ∈ b) → a = b
  | [], [], _, _, _ => rfl
  | [], y :: b, _, _, h => absurd ((h y).mpr List.mem_cons_self) (by simp)
  | x :: a, [], _, _, h => absurd ((h x).mp List.mem_cons_self) (by simp)
  | x :: a, y :: b, ha, hb, h => by
    obtain ⟨a1, a2⟩ := List.pairwise_cons.mp ha
    obtain ⟨b1, b2⟩ := List.pairwise_cons.mp hb
    have exy : x = y := by
      rcases List.mem_cons.mp ((h x).mp List.mem_cons_self) with e | e
      · exact e
      · rcases List.mem_cons.mp ((h y).mpr List.mem_cons_self) with q | q
        · exact q.symm
        · have := b1 x e
          have := a1 y q
          omega
    subst exy
    rw [strict_ext a2 b2 fun z => ?_]
    refine ⟨fun hz => ?_, fun hz => ?_⟩
    · rcases List.mem_cons.mp ((h z).mp (List.mem_cons_of_mem _ hz)) with e | e
      · have := a1 z hz
        omega
      · exact e
    · rcases List.mem_cons.mp ((h z).mpr (List.mem_cons_of_mem _ hz)) with e | e
      · have := b1 z hz
        omega
      · exact e
theorem sort_strict {l : List Int} (h : l.Nodup) : (KR.sortI l).Pairwise (· < ·) := by
  have h1 := KR.sortI_sorted l
  have h2 := (KR.sortI_perm l).symm.nodup h
  have h3 := List.Pairwise.and h1 h2
  exact h3.imp fun ⟨a, b⟩ => by omega
theorem mem_sort {l : List Int} {x : Int} : x ∈ KR.sortI l ↔ x ∈ l := (KR.sortI_perm l).mem_iff
end KM

/-! KO: len(set(xs)) for a list of nones and ints that may tell some more than once. -/
namespace KR
open PySem PySem.Spec PyProof.Rows L2 Evl KM
def kO (o : Option Int) : Option Key := o.map Sum.inl
theorem kO_inj {a b : Option Int} (h : kO a = kO b) : a = b := by
  cases a <;> cases b <;> simp [kO] at h ⊢
  exact h
theorem kO_mem {a : Option Int} {l : List (Option Int)} : kO a ∈ l.map kO ↔ a ∈ l := by
  rw [List.mem_map]
  exact ⟨fun ⟨b, hb, e⟩ => kO_inj e ▸ hb, fun h => ⟨a, h, rfl⟩⟩
def cntO (l : List (Option Int)) : Nat := (l.foldl addNew []).length
theorem cntO_snoc (l : List (Option Int)) (o : Option Int) : cntO (l ++ [o]) = if o ∈ l then cntO l else cntO l + 1 := by
  unfold cntO
  rw [List.foldl_append]
  show (addNew (l.foldl addNew []) o).length = _
  have hm : o ∈ l.foldl addNew [] ↔ o ∈ l := by
    rw [mem_fold]
    simp
  by_cases h : o ∈ l
  · rw [addNew_in (hm.mpr h), if_pos h]
  · rw [addNew_out (fun e => h (hm.mp e)), if_neg h, List.length_append]
    rfl
theorem cntO_le (l : List (Option Int)) : cntO l ≤ l.length := snocI (p := fun l => cntO l ≤ l.length) (Nat.le_refl 0) (fun l a ih => by
  rw [cntO_snoc, List.length_append, List.length_singleton]
  split <;> omega) l
/-- v is what o says -/
def IsO (o : Option Int) (v : Value) : Prop := match o with
  | none => v = .none
  | some i => ∃ t, v = .int i t
theorem isO_is {P : Program} {w : World} {o : Option Int} {v : Value} (h : IsO o v) : (noneKind P w).is (kO o) v = true ∧ v.scannable = true := by
  cases o with
  | none =>
    have h : v = .none := h
    subst h
    exact ⟨rfl, rfl⟩
  | some i =>
    obtain ⟨t, rfl⟩ := h
    refine ⟨?_, rfl⟩
    show keyIs (.inl i) (.int i t) = true
    simp [keyIs, Value.isInt]
abbrev SetsO (P : Program) (w : World) (h : Heap) (a : Addr) (os : List (Option Int)) : Prop := h.SetOf (noneKind P w) a (fun j => os.any fun o => decide (j = kO o)) (cntO os)
section
variable {P : Program} {w : World} {A : Around} {E : Value → Shared → Prop} {s : Shared}
theorem setOf_atN {h h' : Heap} {a : Addr} {S : Option Key → Bool} {n : Nat} (R : h.SetOf (noneKind P w) a S n) (k : ∀ o, h.get? a = some o → h'.get? a = some o) : h'.SetOf (noneKind P w) a S n := by
  obtain ⟨o, es, ep, t, ho, r⟩ := R
  exact ⟨o, es, ep, t, k o ho, r⟩
theorem set_updateO {I : Addr} {fp wr : List Addr} {G : Array GenState → Array GenState → Prop} {n : Nat} {Pv : Nat → Value → Prop} {St : Nat → Shared → Prop} {R : Result → Shared → Prop}
    (W : WalksS P w A.in1 I fp wr G n Pv St) (S : Addr) (out : S ∉ fp) (os : List (Option Int)) (hn : n = os.length) (few : n + 1 < scanBound) (vals : ∀ i v, Pv i v → ∃ o, os[i]? = some o ∧ IsO o v) :
    ∀ (k i : Nat) (s : Shared), n - i = k → i ≤ n → St i s → SetsO P w s.heap S (os.take i) →
      (∀ s', Moved (S :: wr) G s s' → SetsO P w s'.heap S os → R (.ok (.ret .none)) s') →
      codeAny (model P w) A (.builtin "set.update.loop" ⟨[.ref S, .ref I], []⟩) R s := by
  have outW : S ∉ wr := fun h => out (W.sub _ h)
  have more : ∀ b ∈ wr, b ∈ S :: wr := fun b hb => List.mem_cons_of_mem _ hb
  intro k
  induction k with
  | zero =>
    intro i s hk hi st now done
    obtain rfl : i = n := by omega
    refine codeAny_builtin F.entry_set_update_loop ?_
    rw [Around.under_plainId F.plain_set_update_loop _]
    refine wpAny_bind (m := pyNext (.ref I)) (W.done s _ _ st fun s' mv => wpAny_pure (done s' (mv.mono more) ?_))
    rw [List.take_of_length_le (by omega)] at now
    exact setOf_atN now fun o e => mv.heap S o outW e
  | succ k ih =>
    intro i s hk hi st now done
    have lt : i < n := by omega
    refine codeAny_builtin F.entry_set_update_loop ?_
    rw [Around.under_plainId F.plain_set_update_loop _]
    refine wpAny_bind (m := pyNext (.ref I)) (W.item i s _ _ lt st fun v s' pv st' mv => ?_)
    obtain ⟨o, ho, hv⟩ := vals i v pv
    obtain ⟨v1, v2⟩ := isO_is (P := P) (w := w) hv
    have now' := setOf_atN now fun o e => mv.heap S o outW e
    refine wpAny_bind (m := holding [v] (setAdd S v)) (wpAny_holding ?_)
    unfold setAdd
    refine wpAny_holding (wpAny_bind ((noneKind P w).pyHash (k := kO o) v1 ?_))
    have room : cntO (os.take i) + 1 < scanBound := by
      have := cntO_le (os.take i)
      rw [List.length_take] at this
      omega
    refine wpAny_setAddHashed_of (knd := noneKind P w) (s := { s' with toks := s'.toks + 1 }) v1 v2 now' room fun h' sb now2 => ?_
    have next : SetsO P w h' S (os.take (i + 1)) := by
      have e1 : os.take (i + 1) = os.take i ++ [o] := by
        rw [List.take_add_one, ho]
        rfl
      show Heap.SetOf _ _ _ _ _
      rw [e1]
      have e2 : (fun j => (os.take i ++ [o]).any fun o => decide (j = kO o)) = fun j => ((os.take i).any fun o => decide (j = kO o)) || decide (j = kO o) := funext fun j => by
        rw [List.any_append, List.any_cons, List.any_nil, Bool.or_false]
      have e3 : (if ((os.take i).any fun x => decide (kO o = kO x)) = true then cntO (os.take i) else cntO (os.take i) + 1) = cntO (os.take i ++ [o]) := by
        rw [cntO_snoc]
        have e4 : ((os.take i).any fun x => decide (kO o = kO x)) = true ↔ o ∈ os.take i := by
          rw [List.any_eq_true]
          exact ⟨fun ⟨x, hx, q⟩ => kO_inj (of_decide_eq_true q) ▸ hx, fun q => ⟨o, q, decide_eq_true rfl⟩⟩
        by_cases c : o ∈ os.take i
        · rw [if_pos c, if_pos (e4.mpr c)]
        · rw [if_neg c, if_neg fun q => c (e4.mp q)]
      rw [e2, ← e3]
      exact now2
    refine wpAny_pure ⟨plainId_quiet F.plain_set_update_loop _, ih (i + 1) _ (by omega) lt (W.frame _ s' _ _ st' (Nat.le_succ _) fun b hb o e => ?_) next fun s'' mv2 fin => ?_⟩
    · rw [sb.2 b fun h : b = S => out (h ▸ hb)]
      exact e
    · refine done s'' (Moved.trans W.gtrans ((mv.mono more).then_heap (Nat.le_succ _) fun b o hb e => ?_) mv2) fin
      rw [sb.2 b fun h : b = S => hb (h ▸ List.mem_cons_self)]
      exact e
theorem setsO_new {h : Heap} {a : Addr} {os : List (Option Int)} (ho : h.get? a = some (s0 w)) : SetsO P w h a (os.take 0) :=
  ⟨_, #[], 0, _, ho, ⟨rfl, rfl, rfl⟩, rfl, (fun e he => by simp at he), (fun k => by simp), (by decide), (by rfl), rfl⟩
def SetEndO (P : Program) (w : World) (s : Shared) (os : List (Option Int)) (h' : Heap) : Prop :=
  SetsO P w h' s.heap.objs.size os ∧ ∀ b o, s.heap.get? b = some o → h'.get? b = some o
theorem set_ofO {l : Addr} {us : Array Value} (os : List (Option Int)) {Q : Value → Shared → Prop} (hA : A.handled = none) (il : s.heap.IsList l us) (sz : us.size = os.length) (iu : ∀ (i : Nat) (v : Value), us[i]? = some v → ∃ o, os[i]? = some o ∧ IsO o v) (few : os.length + 1 < scanBound)
    (k : ∀ (h' : Heap) (tk : Nat), SetEndO P w s os h' → Q (.ref s.heap.objs.size) { s with heap := h', toks := tk }) :
    wpAny (model P w) A (call (.type "set") [.ref l]) Q E s := by
  obtain ⟨c, tl, hmro⟩ := F.called_set.mro
  have m1 := F.called_set.made
  have m2 := F.called_set.sub
  refine wpAny_call (codeAny_of_tree (?_ : wpAny _ _ (callAny (.type "set") _) _ _ _))
  refine wpAny_pure ⟨Code.quiet_builtin _ (by decide +kernel), codeAny_builtin F.entry_type_call ?_⟩
  rw [Around.under_plain (weight_type_call_type "set" [.ref l] []) rfl]
  have m3 := F.called_set.notType
  have m4 := F.called_set.canCreate
  have m5 := F.typeCall_set_1 (.ref l)
  repeat (any_goals (first | assumption | wp_step))
  refine codeAny_mono (code_set_led1 (.ref l) (E := E) (Q₁ := fun z t => z = .ref s.heap.objs.size ∧ t = { s with heap := s.heap.push (s0 w) }) ⟨rfl, rfl⟩) fun z t hz => ?_
  rcases z with e | fl
  · exact hz
  cases fl with
  | ret z =>
    obtain ⟨rfl, rfl⟩ := hz
    have at0 : (s.heap.push (s0 w)).get? s.heap.objs.size = some (s0 w) := Heap.get?_push_size _ rfl
    have ty0 : Shared.TypeIs { s with heap := s.heap.push (s0 w) } (.ref s.heap.objs.size) "set" := ⟨_, at0, rfl⟩
    have b1 := F.called_set.init.lookup
    have b2 := F.called_set.init.bind (.ref s.heap.objs.size)
    repeat (any_goals (first | assumption | wp_step))
    refine codeAny_mono (codeAny_call_builtin (R := wants (fun z t => z = .none ∧ ∃ h' tk, t = { s with heap := h', toks := tk } ∧ SetEndO P w s os h') E) F.called_set.init.plain F.entry_set_init (check_set_init_1 ty0 ?_)) fun z2 t2 hz2 => ?_
    · obtain ⟨⟨cls, dict, data, slots⟩, ol, oc, n, od⟩ := il
      dsimp only at oc od
      subst oc
      subst od
      have at1 : (s.heap.push (s0 w)).get? l = some ⟨.type "list", dict, .seq us n, slots⟩ := Heap.get?_push_of_some _ ol
      have sub1 := F.sub_list_set
      have sub2 := F.sub_list_frozenset
      have other : (Value.type "list" == Value.type "dict") = false := by decide
      have il1 : (s.heap.push (s0 w)).IsList l us := ⟨_, at1, rfl, n, rfl⟩
      have lt1 : l < s.heap.objs.size := Heap.lt_size ol
      have z1 : (s.heap.push (s0 w)).objs.size = s.heap.objs.size + 1 := Heap.size_push ..
      unfold Builtin.«set.__init__» noKeywords Builtin.Frozenset.updateFrom
      generalize hit : pyIter = IT
      wp_walk
      subst hit
      refine wpAny_pyIter_list il1 (wpAny_bind (wpAny_runValue ?_))
      have hA3 : A.in1.in1.in1.handled = none := by simp [hA]
      have notI : l ≠ (s.heap.push (s0 w)).objs.size := fun h => by
        have h : @Eq Nat l (s.heap.push (s0 w)).objs.size := h
        have lt1 : @LT.lt Nat _ l s.heap.objs.size := lt1
        omega
      have notS : s.heap.objs.size ∉ [(s.heap.push (s0 w)).objs.size, l] := fun h => by
        rcases List.mem_cons.mp h with h | h
        · have h : @Eq Nat s.heap.objs.size (s.heap.push (s0 w)).objs.size := h
          omega
        · have h : @Eq Nat s.heap.objs.size l := List.mem_singleton.mp h
          have lt1 : @LT.lt Nat _ l s.heap.objs.size := lt1
          omega
      have W := Walks.list (prog := P) (w := w) hA3 (s.heap.push (s0 w)).objs.size l notI us
      refine set_updateO W.toS s.heap.objs.size notS os sz (by omega) iu us.size 0 _ (Nat.sub_zero _) (Nat.zero_le _) ⟨⟨_, Heap.get?_push_size _ rfl, rfl, rfl⟩, il1.push _⟩ (setsO_new (Heap.get?_push_of_some _ at0)) ?_
      rintro ⟨h', g, d, tk, os'⟩ mv R'
      obtain rfl : g = s.gens := mv.gens
      obtain rfl : d = s.drawn := mv.drawn
      obtain rfl : os' = s.os := mv.os
      refine wpAny_pure (wpAny_pure ⟨rfl, h', tk, rfl, R', fun b o e => ?_⟩)
      have lb : @LT.lt Nat _ b s.heap.objs.size := Heap.lt_size e
      refine mv.heap b o (fun hb => ?_) (Heap.get?_push_of_some _ (Heap.get?_push_of_some _ e))
      rcases List.mem_cons.mp hb with hb | hb
      · have hb : @Eq Nat b s.heap.objs.size := hb
        omega
      · have hb : @Eq Nat b (s.heap.push (s0 w)).objs.size := List.mem_singleton.mp hb
        omega
    · rcases z2 with e | fl2
      · exact hz2
      cases fl2 with
      | ret z =>
        obtain ⟨rfl, h', tk, rfl, hE⟩ := hz2
        repeat (any_goals (first | assumption | wp_step))
        exact k _ _ hE
      | _ => exact hz2.elim
  | _ => exact hz.elim
end
end KR
namespace KR
open PySem PySem.Spec PyProof.Rows L2 Evl KM
def vO : Option Int → V
  | none => .non
  | some i => .int i
theorem isO_rel {o : Option Int} {v : Value} (r : RelV (vO o) v) : IsO o v := by
  cases o with
  | none => exact r
  | some i => exact r
def SetN (P : Program) (w : World) (a : Addr) (os : List (Option Int)) : HO := .ext fun h => SetsO P w h a os
theorem setN_new {w : World} {P : Program} {H : Hp} {h : Heap} {a : Addr} {os : List (Option Int)} (R : SetsO P w h a os) : ObjOk P w H h a (SetN P w a os) := by
  have ⟨o, _, _, _, ho, _⟩ := R
  exact ⟨R, ⟨o, ho⟩, fun h1 h2 p k => setOf_atN p k⟩
section
variable {X : Cx}
def rSetO (K : PySem.W.Frag) (P : Program) (w : World) : List V → Hp → VK → Prop := fun xs H Q => ∃ (l : Addr) (os : List (Option Int)), xs = [V.ref l] ∧ SqL K H l (os.map vO) ∧ os.length < 4000 ∧
  ∀ a, H a = none → Q (.ref a) (upd H a (SetN P w a os))
theorem cr_setO (hc : X.calm = true) : CallR X (.type "set") (rSetO X.K X.prog X.w) := by
  intro pins s σ H xs us Q I r h
  obtain ⟨l, os, rfl, hl, hf, q⟩ := h
  rw [Vals.ref1 r]
  obtain ⟨its, rv, pl, hz⟩ := I.list hl
  have hn : H s.heap.objs.size = none := I.hok.fresh (Nat.le_refl _)
  have sz : its.toArray.size = os.length := by rw [List.size_toArray, ← rv.length, List.length_map]
  refine set_ofO os (I.ok.hd hc) pl.isList sz (fun i v hv => ?_) (by unfold scanBound; omega) fun h' tk hE => ?_
  · have hi : i < os.length := sz ▸ (Array.getElem?_eq_some_iff.mp hv).1
    have hv' : its[i]? = some v := by simpa using hv
    refine ⟨os[i], List.getElem?_eq_getElem hi, isO_rel ?_⟩
    obtain ⟨u, hu, ru⟩ := rv.get (i := i) (x := vO os[i]) (by rw [List.getElem?_map, List.getElem?_eq_getElem hi]; rfl)
    rw [hv'] at hu
    cases hu
    exact ru
  · exact ⟨.ref s.heap.objs.size, upd H s.heap.objs.size (SetN X.prog X.w s.heap.objs.size os), I.laid (t' := tk) hE.2 (Nat.le_refl _) (setN_new hE.1), rfl, q _ hn⟩
def rLenO (P : Program) (w : World) : List V → Hp → VK → Prop := fun xs H Q => ∃ (a : Addr) (os : List (Option Int)), xs = [V.ref a] ∧ H a = some (SetN P w a os) ∧ os.length < 4000 ∧ Q (.int (cntO os : Nat)) H
theorem cr_lenO : CallR X (.builtin "len") (rLenO X.prog X.w) := by
  intro pins s σ H xs us Q I r h
  obtain ⟨a, os, rfl, ha, hl, q⟩ := h
  rw [Vals.ref1 r]
  have R : SetsO X.prog X.w s.heap a os := (I.hok a _ ha).1
  obtain ⟨o, es, ep, t, ho, hex, hd, _, _, _, hf, hn⟩ := R
  have := cntO_le os
  exact call_len_set ho hex hd hf (by rw [hn]; omega) ⟨.int (cntO os : Nat), H, I.tok _, ⟨_, by rw [hn]⟩, q⟩
theorem cr_setOK {K : PySem.W.Frag} {P : Program} {w : World} (hc : X.calm = true) (h : X.K = K := by rfl) (hp : X.prog = P := by rfl) (hw : X.w = w := by rfl) : CallR X (.type "set") (rSetO K P w) := h ▸ hp ▸ hw ▸ cr_setO hc
theorem cr_lenOK {P : Program} {w : World} (hp : X.prog = P := by rfl) (hw : X.w = w := by rfl) : CallR X (.builtin "len") (rLenO P w) := hp ▸ hw ▸ cr_lenO
end
section
variable {c : Ct} {ρ : Env} {m : Store} {P : PD} {te : TE}
theorem we_lenSet {P0 : Program} {w0 : World} (h : WE c te ρ m fun x m1 => ∃ (ds : List D) (os : List (Option Int)), listD m1 x = some ds ∧ ds.map D.flat = (os.map vO).map some ∧ os.length < 4000 ∧
    P (.int (cntO os : Nat)) m1) : WE c (tCB (rLenO P0 w0) (tCons (tCB (rSetO c.K P0 w0) (tCons te tNil)) tNil)) ρ m P := fun σ w H e s o Q q =>
  h σ w H e s o (fun x H1 => rSetO c.K P0 w0 [x] H1 fun y H2 => rLenO P0 w0 [y] H2 Q) fun v d m1 w1 H1 l1 r1 s1 ⟨ds, os, hx, hf, hl, p⟩ => by
    obtain ⟨a, xs, rfl, hH, rr⟩ := s1.list r1 hx
    have ex : xs = os.map vO := rr.flat hf
    subst ex
    refine ⟨a, os, rfl, .inl (.inl hH), hl, fun b hb => ?_⟩
    refine ⟨b, os, rfl, upd_set, hl, ?_⟩
    obtain ⟨l2, s2⟩ := s1.new (o := SetN P0 w0 b os) hb
    exact q _ _ _ _ _ (l1.trans l2) (.int _) s2 p
end
end KR

/-! KW: who could open which door when, over plain rows. -/
namespace KM
def Lt9 (r : List Ent) : Prop := ∀ e ∈ r, e.2.2 ≤ 999
def beginF (r : List Ent) (a : Nat) : Int := (0 :: soonF 0 r).getD a 0
def endF (r : List Ent) (a : Nat) : Int := (latF r ++ [1000]).getD a 0
/-- the entries ahead of place a are begun, those from a on are not, in some world -/
def InF (r : List Ent) (t : Int) (a : Nat) : Prop := a ≤ r.length ∧ 0 ≤ t ∧ t < 1000 ∧ (∀ j, j < a → gE r j ≤ t) ∧ ∀ k, a ≤ k → k < r.length → t < gL r k
theorem begin_le {r : List Ent} {a : Nat} {t : Int} (ha : a ≤ r.length) : beginF r a ≤ t ↔ 0 ≤ t ∧ ∀ j, j < a → gE r j ≤ t := by
  unfold beginF
  cases a with
  | zero => exact ⟨fun h => ⟨h, fun j hj => (by omega)⟩, fun h => h.1⟩
  | succ b =>
    show (soonF 0 r).getD b 0 ≤ t ↔ _
    rw [soon_le (by omega)]
    exact ⟨fun h => ⟨h.1, fun j hj => h.2 j (by omega)⟩, fun h => ⟨h.1, fun j hj => h.2 j (by omega)⟩⟩
theorem gL_le {r : List Ent} (h9 : Lt9 r) {k : Nat} (hk : k < r.length) : gL r k ≤ 999 := by
  unfold gL
  rw [List.getD_eq_getElem?_getD, List.getElem?_eq_getElem hk]
  exact h9 _ (List.getElem_mem hk)
theorem lt_end {r : List Ent} (h9 : Lt9 r) {a : Nat} {t : Int} (ha : a ≤ r.length) : t < endF r a ↔ t < 1000 ∧ ∀ k, a ≤ k → k < r.length → t < gL r k := by
  unfold endF
  by_cases har : a < r.length
  · rw [getD_l (by rw [latF_len]; exact har)]
    show t + 1 ≤ _ ↔ _
    rw [lat_ge har]
    refine ⟨fun h => ⟨by omega, fun k h1 h2 => by have := h.2 k h1 h2; omega⟩, fun h => ⟨?_, fun k h1 h2 => by have := h.2 k h1 h2; omega⟩⟩
    have := h.2 a (Nat.le_refl _) har
    have := gL_le h9 har
    omega
  · have e : a = (latF r).length := by rw [latF_len]; omega
    rw [e, getD_r]
    exact ⟨fun h => ⟨h, fun k h1 h2 => (by rw [latF_len] at h1; omega)⟩, fun h => h.1⟩
theorem inF_iff {r : List Ent} (h9 : Lt9 r) {a : Nat} {t : Int} (ha : a ≤ r.length) : InF r t a ↔ beginF r a ≤ t ∧ t < endF r a := by
  rw [begin_le ha, lt_end h9 ha]
  exact ⟨fun h => ⟨⟨h.2.1, h.2.2.2.1⟩, h.2.2.1, h.2.2.2.2⟩, fun h => ⟨ha, h.1.1, h.2.1, h.1.2, h.2.2⟩⟩
theorem begin_0 (r : List Ent) (a : Nat) (ha : a ≤ r.length) : 0 ≤ beginF r a := ((begin_le ha).mp (Int.le_refl _)).1
theorem end_1000 {r : List Ent} (h9 : Lt9 r) (a : Nat) (ha : a ≤ r.length) : endF r a ≤ 1000 := by
  by_cases h : endF r a ≤ 1000
  · exact h
  · have := ((lt_end h9 ha (t := 1000)).mp (by omega)).1
    omega
/-- places that stand at a moment, from 0 for none on -/
def standA (r : List Ent) (t : Int) : List Nat := (List.range (r.length + 1)).filter fun a : Nat => decide (beginF r a ≤ t) && decide (t < endF r a)
theorem stand_A (r : List Ent) (t : Int) : standF r t = (standA r t).map fun a : Nat => (a : Int) - 1 := rfl
theorem mem_A {r : List Ent} (h9 : Lt9 r) {t : Int} {a : Nat} : a ∈ standA r t ↔ InF r t a := by
  unfold standA
  rw [List.mem_filter, List.mem_range, Bool.and_eq_true, decide_eq_true_eq, decide_eq_true_eq]
  exact ⟨fun h => (inF_iff h9 (by omega)).mpr h.2, fun h => ⟨by have := h.1; omega, (inF_iff h9 h.1).mp h⟩⟩
def wh (r : List Ent) (a : Nat) : Option Int := whatAt r ((a : Int) - 1)
theorem wh_0 (r : List Ent) : wh r 0 = some (-1) := rfl
theorem wh_s (r : List Ent) (a : Nat) : wh r (a + 1) = (r.getD a (none, 0, 0)).1 := by
  unfold wh whatAt
  rw [if_neg (by omega), show (((a + 1 : Nat) : Int) - 1).toNat = a by omega]
def mayF (r : List Ent) (t : Int) : List (Option Int) := (standF r t).map (whatAt r)
theorem may_A (r : List Ent) (t : Int) : mayF r t = (standA r t).map (wh r) := by
  unfold mayF
  rw [stand_A, List.map_map]
  rfl
theorem mem_mayA {r : List Ent} (h9 : Lt9 r) {t : Int} {o : Option Int} : o ∈ mayF r t ↔ ∃ a, InF r t a ∧ wh r a = o := by
  rw [may_A, List.mem_map]
  exact ⟨fun ⟨a, h1, h2⟩ => ⟨a, (mem_A h9).mp h1, h2⟩, fun ⟨a, h1, h2⟩ => ⟨a, (mem_A h9).mpr h1, h2⟩⟩
/-- moments of a world in which place a is in force for all its span -/
def momsBy (r : List Ent) (a : Nat) : List Int := (soonF 0 r).take a ++ (latF r).drop a
/-- a key: the kinds that it opens, whether it is plain, its row -/
structure KeyW where
  opens : List Int
  plain : Bool
  row : List Ent
def hadT (r : List Ent) (who : Int) (plain : Bool) (t : Int) (a : Nat) : Bool := decide (beginF r a ≤ mn t (endF r a - 1)) && (plain || decide (mn t (endF r a - 1) = t)) && (decide (wh r a = some who) || decide (wh r a = none))
def hadF (r : List Ent) (who : Int) (plain : Bool) (t : Int) : Option (Nat × Int) := ((List.range (r.length + 1)).find? (hadT r who plain t)).map fun a => (a, mn t (endF r a - 1))
/-- whether a kind, none for no lock or nobody, is among those that are opened -/
def opn (opens : List Int) (o : Option Int) : Bool := opens.any fun k => decide (o = some k)
theorem opn_iff {opens : List Int} {o : Option Int} : opn opens o = true ↔ ∃ k ∈ opens, o = some k := by
  unfold opn
  rw [List.any_eq_true]
  exact ⟨fun ⟨k, h1, h2⟩ => ⟨k, h1, of_decide_eq_true h2⟩, fun ⟨k, h1, h2⟩ => ⟨k, h1, decide_eq_true h2⟩⟩
def openedF (f : List Ent) (opens : List Int) (t : Int) : Option Nat := (standA f t).find? fun b => opn opens (wh f b)
def shownG (f : List Ent) (who t : Int) : Nat → List KeyW → Option (Nat × Nat × Int × Nat)
  | _, [] => none
  | i, k :: ks => match hadF k.row who k.plain t, openedF f k.opens t with
    | some (a, w), some b => some (i, a, w, b)
    | _, _ => shownG f who t (i + 1) ks
def withoutF (r : List Ent) (who t : Int) : Option Nat := (standA r t).find? fun a => !decide (wh r a = some who)
/-- moments against a key, none where it helps by whatever moments -/
def againstK (who : Int) (kind : Option Int) (t : Int) (k : KeyW) : Option (List Int) := if opn k.opens kind then (withoutF k.row who t).map (momsBy k.row) else some (soonF 0 k.row)
def deniedF (f : List Ent) (who t : Int) (ks : List KeyW) : Option Nat := (standA f t).find? fun b => decide (¬ none ∈ ks.map (againstK who (wh f b) t))
/-! ### what these come to -/
/-- whoever is this one, or isn't known, may have it at a moment -/
def HasP (r : List Ent) (who s : Int) : Prop := some who ∈ mayF r s ∨ none ∈ mayF r s
def HadP (r : List Ent) (who : Int) (plain : Bool) (t : Int) : Prop := ∃ s, s ≤ t ∧ (plain = true ∨ s = t) ∧ HasP r who s
def MayP (f : List Ent) (who t : Int) (ks : List KeyW) : Prop := ∃ k ∈ ks, HadP k.row who k.plain t ∧ ∃ o ∈ mayF f t, opn k.opens o = true
def SureP (f : List Ent) (who t : Int) (ks : List KeyW) : Prop := ∀ o ∈ mayF f t, ∃ k ∈ ks, opn k.opens o = true ∧ ∀ w ∈ mayF k.row t, w = some who
theorem hadT_iff {r : List Ent} (h9 : Lt9 r) {who t : Int} {plain : Bool} (ht : t < 1000) {a : Nat} (ha : a ≤ r.length) :
    hadT r who plain t a = true ↔ ∃ s, s ≤ t ∧ (plain = true ∨ s = t) ∧ InF r s a ∧ (wh r a = some who ∨ wh r a = none) := by
  unfold hadT
  simp only [Bool.and_eq_true, Bool.or_eq_true, decide_eq_true_eq]
  have hm : mn t (endF r a - 1) ≤ t ∧ mn t (endF r a - 1) ≤ endF r a - 1 := by unfold mn; split <;> omega
  constructor
  · rintro ⟨⟨h1, h2⟩, h3⟩
    exact ⟨mn t (endF r a - 1), hm.1, h2, (inF_iff h9 ha).mpr ⟨h1, by omega⟩, h3⟩
  · rintro ⟨s, h1, h2, h3, h4⟩
    have h5 := (inF_iff h9 ha).mp h3
    have h6 : s ≤ mn t (endF r a - 1) := le_mn.mpr ⟨h1, by omega⟩
    refine ⟨⟨Int.le_trans h5.1 h6, h2.imp id fun e => ?_⟩, h4⟩
    omega
theorem had_none {r : List Ent} (h9 : Lt9 r) {who t : Int} {plain : Bool} (ht : t < 1000) : hadF r who plain t ≠ none ↔ HadP r who plain t := by
  unfold hadF
  rw [Ne, Option.map_eq_none_iff, List.find?_eq_none]
  constructor
  · intro h
    by_cases hp : HadP r who plain t
    · exact hp
    · refine absurd (fun a ha hh => hp ?_) h
      have ha' := List.mem_range.mp ha
      obtain ⟨s, h1, h2, h3, h4⟩ := (hadT_iff h9 ht (by omega)).mp hh
      exact ⟨s, h1, h2, h4.imp (fun e => (mem_mayA h9).mpr ⟨a, h3, e⟩) fun e => (mem_mayA h9).mpr ⟨a, h3, e⟩⟩
  · rintro ⟨s, h1, h2, h3⟩ h
    obtain ⟨a, ha, hw⟩ : ∃ a, InF r s a ∧ (wh r a = some who ∨ wh r a = none) := by
      rcases h3 with h3 | h3
      · obtain ⟨a, x, y⟩ := (mem_mayA h9).mp h3
        exact ⟨a, x, .inl y⟩
      · obtain ⟨a, x, y⟩ := (mem_mayA h9).mp h3
        exact ⟨a, x, .inr y⟩
    exact h a (List.mem_range.mpr (by have := ha.1; omega)) ((hadT_iff h9 ht ha.1).mpr ⟨s, h1, h2, ha, hw⟩)
theorem opened_none {f : List Ent} {opens : List Int} {t : Int} : openedF f opens t ≠ none ↔ ∃ o ∈ mayF f t, opn opens o = true := by
  unfold openedF
  rw [Ne, List.find?_eq_none, may_A]
  constructor
  · intro h
    by_cases hp : ∃ o ∈ (standA f t).map (wh f), opn opens o = true
    · exact hp
    · exact absurd (fun a ha hh => hp ⟨_, List.mem_map.mpr ⟨a, ha, rfl⟩, hh⟩) h
  · rintro ⟨o, ho, h1⟩ h
    obtain ⟨a, ha, rfl⟩ := List.mem_map.mp ho
    exact h a ha h1
theorem shownG_none {f : List Ent} {who t : Int} : ∀ {ks : List KeyW} {i : Nat}, shownG f who t i ks = none ↔ ∀ k ∈ ks, ¬ (hadF k.row who k.plain t ≠ none ∧ openedF f k.opens t ≠ none)
  | [], i => ⟨fun _ k hk => (by cases hk), fun _ => rfl⟩
  | k :: ks, i => by
    unfold shownG
    cases h1 : hadF k.row who k.plain t with
    | none =>
      dsimp only
      rw [shownG_none]
      refine ⟨fun h x hx => ?_, fun h x hx => h x (List.mem_cons_of_mem _ hx)⟩
      rcases List.mem_cons.mp hx with rfl | hx
      · exact fun q => q.1 h1
      · exact h x hx
    | some aw =>
      obtain ⟨a, w⟩ := aw
      cases h2 : openedF f k.opens t with
      | none =>
        dsimp only
        rw [shownG_none]
        refine ⟨fun h x hx => ?_, fun h x hx => h x (List.mem_cons_of_mem _ hx)⟩
        rcases List.mem_cons.mp hx with rfl | hx
        · exact fun q => q.2 h2
        · exact h x hx
      | some b =>
        refine ⟨fun h => (by cases h), fun h => ?_⟩
        exact absurd ⟨by rw [h1]; exact fun e => (by cases e), by rw [h2]; exact fun e => (by cases e)⟩ (h k List.mem_cons_self)
def KeyW.Ok (k : KeyW) : Prop := Lt9 k.row
theorem shown_may {f : List Ent} {who t : Int} {ks : List KeyW} (hk : ∀ k ∈ ks, Lt9 k.row) (ht : t < 1000) {i : Nat} : shownG f who t i ks ≠ none ↔ MayP f who t ks := by
  rw [Ne, shownG_none]
  constructor
  · intro h
    by_cases hp : MayP f who t ks
    · exact hp
    · exact absurd (fun k hkk ⟨h1, h2⟩ => hp ⟨k, hkk, (had_none (hk k hkk) ht).mp h1, opened_none.mp h2⟩) h
  · rintro ⟨k, hkk, h1, h2⟩ h
    exact h k hkk ⟨(had_none (hk k hkk) ht).mpr h1, opened_none.mpr h2⟩
theorem shownG_some {f : List Ent} {who t : Int} : ∀ {ks : List KeyW} {i j a b : Nat} {w : Int}, shownG f who t i ks = some (j, a, w, b) → ∃ k, i ≤ j ∧ ks[j - i]? = some k ∧ hadF k.row who k.plain t = some (a, w) ∧ openedF f k.opens t = some b
  | [], i, j, a, b, w, h => by cases h
  | k :: ks, i, j, a, b, w, h => by
    unfold shownG at h
    have next : shownG f who t (i + 1) ks = some (j, a, w, b) → ∃ k', i ≤ j ∧ (k :: ks)[j - i]? = some k' ∧ hadF k'.row who k'.plain t = some (a, w) ∧ openedF f k'.opens t = some b := fun h => by
      obtain ⟨k', h1, h2, h3⟩ := shownG_some h
      refine ⟨k', by omega, ?_, h3⟩
      rw [show j - i = (j - (i + 1)) + 1 by omega]
      exact h2
    cases h1 : hadF k.row who k.plain t with
    | none =>
      rw [h1] at h
      exact next h
    | some aw =>
      obtain ⟨a', w'⟩ := aw
      cases h2 : openedF f k.opens t with
      | none =>
        rw [h1, h2] at h
        exact next h
      | some b' =>
        rw [h1, h2] at h
        have h' := Option.some.inj h
        injection h' with e1 h'
        injection h' with e2 h'
        injection h' with e3 e4
        subst e1 e2 e3 e4
        exact ⟨k, Nat.le_refl _, by rw [Nat.sub_self]; rfl, h1, h2⟩
theorem without_none {r : List Ent} {who t : Int} : withoutF r who t = none ↔ ∀ w ∈ mayF r t, w = some who := by
  unfold withoutF
  rw [List.find?_eq_none, may_A]
  constructor
  · intro h w hw
    obtain ⟨a, ha, rfl⟩ := List.mem_map.mp hw
    have := h a ha
    simpa using this
  · intro h a ha
    have := h _ (List.mem_map.mpr ⟨a, ha, rfl⟩)
    simpa using this
theorem against_none {who t : Int} {kind : Option Int} {ks : List KeyW} : none ∈ ks.map (againstK who kind t) ↔ ∃ k ∈ ks, opn k.opens kind = true ∧ ∀ w ∈ mayF k.row t, w = some who := by
  rw [List.mem_map]
  constructor
  · rintro ⟨k, hk, h⟩
    unfold againstK at h
    by_cases ho : opn k.opens kind = true
    · rw [if_pos ho, Option.map_eq_none_iff] at h
      exact ⟨k, hk, ho, without_none.mp h⟩
    · rw [if_neg ho] at h
      cases h
  · rintro ⟨k, hk, h1, h2⟩
    refine ⟨k, hk, ?_⟩
    unfold againstK
    rw [if_pos h1, without_none.mpr h2]
    rfl
theorem denied_sure {f : List Ent} {who t : Int} {ks : List KeyW} : deniedF f who t ks = none ↔ SureP f who t ks := by
  unfold deniedF SureP
  rw [List.find?_eq_none, may_A]
  constructor
  · intro h o ho
    obtain ⟨b, hb, rfl⟩ := List.mem_map.mp ho
    have := h b hb
    refine against_none.mp ?_
    simpa using this
  · intro h b hb
    have := against_none.mpr (h _ (List.mem_map.mpr ⟨b, hb, rfl⟩))
    simpa using this
/-! ### worlds of a row -/
structure RowOk (r : List Ent) : Prop where
  fit : stuckF r = none
  ent : ∀ e ∈ r, 0 ≤ e.2.1 ∧ e.2.1 ≤ e.2.2 ∧ e.2.2 ≤ 999
theorem RowOk.l9 {r : List Ent} (h : RowOk r) : Lt9 r := fun e he => (h.ent e he).2.2
theorem gE_get {r : List Ent} {i : Nat} (hi : i < r.length) : gE r i = r[i].2.1 := by
  unfold gE
  rw [List.getD_eq_getElem?_getD, List.getElem?_eq_getElem hi]
  rfl
theorem gL_get {r : List Ent} {i : Nat} (hi : i < r.length) : gL r i = r[i].2.2 := by
  unfold gL
  rw [List.getD_eq_getElem?_getD, List.getElem?_eq_getElem hi]
  rfl
theorem RowOk.g {r : List Ent} (h : RowOk r) {i : Nat} (hi : i < r.length) : 0 ≤ gE r i ∧ gL r i ≤ 999 := by
  rw [gE_get hi, gL_get hi]
  have := h.ent _ (List.getElem_mem hi)
  exact ⟨this.1, this.2.2⟩
theorem RowOk.el {r : List Ent} (h : RowOk r) {i j : Nat} (hi : i < r.length) (hj : j ≤ i) : gE r j ≤ gL r i := ((soon_le hi).mp (fit_le h.fit hi)).2 j hj
theorem moms_len (r : List Ent) (a : Nat) (ha : a ≤ r.length) : (momsBy r a).length = r.length := by
  unfold momsBy
  rw [List.length_append, List.length_take, List.length_drop, soonF_len, latF_len]
  omega
theorem moms_lo {r : List Ent} {a i : Nat} (hi : i < a) (ha : a ≤ r.length) : (momsBy r a).getD i 0 = (soonF 0 r).getD i 0 := by
  unfold momsBy
  rw [getD_l (by rw [List.length_take, soonF_len]; omega), List.getD_eq_getElem?_getD, List.getElem?_take, if_pos hi, ← List.getD_eq_getElem?_getD]
theorem moms_hi {r : List Ent} {a i : Nat} (hi : a ≤ i) (ha : a ≤ r.length) : (momsBy r a).getD i 0 = (latF r).getD i 0 := by
  unfold momsBy
  have hl : ((soonF 0 r).take a).length = a := by rw [List.length_take, soonF_len]; omega
  rw [List.getD_eq_getElem?_getD, List.getElem?_append_right (by rw [hl]; exact hi), hl, List.getElem?_drop, List.getD_eq_getElem?_getD]
  congr 2
  omega
theorem soon_self {r : List Ent} {i : Nat} (hi : i < r.length) : 0 ≤ (soonF 0 r).getD i 0 ∧ ∀ j, j ≤ i → gE r j ≤ (soonF 0 r).getD i 0 := (soon_le hi).mp (Int.le_refl _)
theorem lat_self {r : List Ent} {i : Nat} (hi : i < r.length) : (latF r).getD i 0 ≤ 999 ∧ ∀ k, i ≤ k → k < r.length → (latF r).getD i 0 ≤ gL r k := (lat_ge hi).mp (Int.le_refl _)
theorem soon_up {r : List Ent} {i j : Nat} (hi : i < r.length) (hj : j ≤ i) : (soonF 0 r).getD j 0 ≤ (soonF 0 r).getD i 0 := (soon_le (by omega)).mpr ⟨(soon_self hi).1, fun k hk => (soon_self hi).2 k (by omega)⟩
theorem lat_up {r : List Ent} {i j : Nat} (hi : i < r.length) (hj : j ≤ i) : (latF r).getD j 0 ≤ (latF r).getD i 0 := (lat_ge hi).mpr ⟨(lat_self (by omega)).1, fun k hk hk2 => (lat_self (show j < r.length by omega)).2 k (by omega) hk2⟩
/-- the moments told by a place that is in force at some moment are those of a world -/
theorem moms_world {r : List Ent} (h : RowOk r) {a : Nat} {s : Int} (hs : InF r s a) : IsW r (momsBy r a) := by
  have ha := hs.1
  refine ⟨moms_len r a ha, fun i hi => ?_, fun i hi => ?_, fun i hi j hj => ?_⟩
  · by_cases hia : i < a
    · rw [moms_lo hia ha]
      exact (soon_self hi).2 i (Nat.le_refl _)
    · rw [moms_hi (by omega) ha]
      exact (lat_ge hi).mpr ⟨by have := h.el hi (Nat.le_refl i); have := (h.g hi).2; omega, fun k hk hkr => h.el hkr hk⟩
  · by_cases hia : i < a
    · rw [moms_lo hia ha]
      exact fit_le h.fit hi
    · rw [moms_hi (by omega) ha]
      exact (lat_self hi).2 i (Nat.le_refl _) hi
  · by_cases hia : i < a
    · rw [moms_lo hia ha, moms_lo (by omega) ha]
      exact soon_up hi (by omega)
    · rw [moms_hi (i := i) (by omega) ha]
      by_cases hja : j < a
      · rw [moms_lo hja ha]
        refine Int.le_trans (b := s) ((soon_le (by omega)).mpr ⟨hs.2.1, fun k hk => hs.2.2.2.1 k (by omega)⟩) ((lat_ge hi).mpr ⟨by have := hs.2.2.1; omega, fun k hk hkr => by have := hs.2.2.2.2 k (by omega) hkr; omega⟩)
      · rw [moms_hi (i := j) (by omega) ha]
        exact lat_up hi (by omega)
theorem moms_at {r : List Ent} (h : RowOk r) {a : Nat} {t : Int} (ht : InF r t a) : atF r (momsBy r a) t = wh r a := by
  have ha := ht.1
  refine at_of ha (fun i hi => ?_) fun i hi hir => ?_
  · rw [moms_lo hi ha]
    exact (soon_le (by omega)).mpr ⟨ht.2.1, fun k hk => ht.2.2.2.1 k (by omega)⟩
  · rw [moms_hi hi ha]
    show t + 1 ≤ _
    exact (lat_ge hir).mpr ⟨by have := ht.2.2.2.2 i hi hir; have := (h.g hir).2; omega, fun k hk hkr => by have := ht.2.2.2.2 k (by omega) hkr; omega⟩
theorem soon_world {r : List Ent} (h : RowOk r) : IsW r (soonF 0 r) := ⟨soonF_len 0 r, fun i hi => (soon_self hi).2 i (Nat.le_refl _), fun i hi => fit_le h.fit hi, fun i hi j hj => soon_up hi (by omega)⟩
theorem world_at {r : List Ent} {w : List Int} (W : IsW r w) {t : Int} (h0 : 0 ≤ t) (h9 : t < 1000) : ∃ a, InF r t a ∧ atF r w t = wh r a := by
  obtain ⟨a, ha, h1, h2⟩ := cut_of (t := t) r.length W.up
  exact ⟨a, ⟨ha, h0, h9, fun j hj => Int.le_trans (W.lo j (by omega)) (h1 j hj), fun k hk hkr => Int.lt_of_lt_of_le (h2 k hk hkr) (W.hi k hkr)⟩, at_of ha h1 h2⟩
theorem may_world {r : List Ent} (h : RowOk r) {t : Int} (h0 : 0 ≤ t) (h9 : t < 1000) {o : Option Int} : o ∈ mayF r t ↔ ∃ w, IsW r w ∧ atF r w t = o := by
  rw [mem_mayA h.l9]
  constructor
  · rintro ⟨a, ha, rfl⟩
    exact ⟨_, moms_world h ha, moms_at h ha⟩
  · rintro ⟨w, hw, rfl⟩
    obtain ⟨a, ha, e⟩ := world_at hw h0 h9
    exact ⟨a, ha, e.symm⟩
theorem may_ne {r : List Ent} (h : RowOk r) {t : Int} (h0 : 0 ≤ t) (h9 : t < 1000) : ∃ o, o ∈ mayF r t := ⟨_, (may_world h h0 h9).mpr ⟨_, soon_world h, rfl⟩⟩
theorem may_dom {r : List Ent} (h9 : Lt9 r) {t : Int} {o : Option Int} (ho : o ∈ mayF r t) : 0 ≤ t ∧ t < 1000 := by
  obtain ⟨a, ha, _⟩ := (mem_mayA h9).mp ho
  exact ⟨ha.2.1, ha.2.2.1⟩
/-! ### what is done anew is done since some entry may be in force -/
structure KeysOk (ks : List KeyW) : Prop where
  row : ∀ k ∈ ks, RowOk k.row
theorem sure_may {f : List Ent} {who t : Int} {ks : List KeyW} (hf : RowOk f) (hk : ∀ k ∈ ks, RowOk k.row) (h0 : 0 ≤ t) (h9 : t < 1000) (h : SureP f who t ks) : MayP f who t ks := by
  obtain ⟨o, ho⟩ := may_ne hf h0 h9
  obtain ⟨k, hkk, h1, h2⟩ := h o ho
  obtain ⟨w, hw⟩ := may_ne (hk k hkk) h0 h9
  exact ⟨k, hkk, ⟨t, Int.le_refl _, .inr rfl, .inl (by rw [← h2 w hw]; exact hw)⟩, o, ho, h1⟩
/-- the moments from which on entries can be in force -/
def Begins1 (r : List Ent) (t : Int) : Prop := ∃ a, a < r.length ∧ (soonF 0 r).getD a 0 = t
def NoLock (opens : List Int) : Prop := ∀ k ∈ opens, 0 ≤ k
theorem begin_eq {r : List Ent} {a : Nat} : beginF r (a + 1) = (soonF 0 r).getD a 0 := rfl
theorem inF_back {r : List Ent} (h9 : Lt9 r) {t : Int} {a : Nat} (h : InF r t (a + 1)) (hb : (soonF 0 r).getD a 0 ≠ t) : InF r (t - 1) (a + 1) := by
  have h1 := (inF_iff h9 h.1).mp h
  refine (inF_iff h9 h.1).mpr ⟨?_, by omega⟩
  rw [begin_eq] at h1 ⊢
  omega
/-- at the first moment at which somebody may, some entry begins -/
theorem may_first {f : List Ent} {who t : Int} {ks : List KeyW} (hf : Lt9 f) (hk : ∀ k ∈ ks, Lt9 k.row ∧ NoLock k.opens) (hw : 0 ≤ who) (h : MayP f who t ks) (hn : ¬ MayP f who (t - 1) ks) : Begins1 f t ∨ ∃ k ∈ ks, Begins1 k.row t := by
  obtain ⟨k, hkk, ⟨s, hs, hp, hh⟩, o, ho, hop⟩ := h
  obtain ⟨kd, hkd, rfl⟩ := opn_iff.mp hop
  obtain ⟨b, hb, hbw⟩ := (mem_mayA hf).mp ho
  have hkd0 := (hk k hkk).2 kd hkd
  cases b with
  | zero =>
    rw [wh_0] at hbw
    have := Option.some.inj hbw
    omega
  | succ b =>
    by_cases hbt : (soonF 0 f).getD b 0 = t
    · exact .inl ⟨b, by have := hb.1; omega, hbt⟩
    · have hb' := inF_back hf hb hbt
      refine .inr ⟨k, hkk, ?_⟩
      obtain ⟨a, ha, haw⟩ : ∃ a, InF k.row s a ∧ (wh k.row a = some who ∨ wh k.row a = none) := by
        rcases hh with hh | hh
        · obtain ⟨a, x, y⟩ := (mem_mayA (hk k hkk).1).mp hh
          exact ⟨a, x, .inl y⟩
        · obtain ⟨a, x, y⟩ := (mem_mayA (hk k hkk).1).mp hh
          exact ⟨a, x, .inr y⟩
      cases a with
      | zero =>
        rw [wh_0] at haw
        rcases haw with haw | haw
        · have := Option.some.inj haw
          omega
        · cases haw
      | succ a =>
        have hal : a < k.row.length := by have := ha.1; omega
        by_cases hat : (soonF 0 k.row).getD a 0 = t
        · exact ⟨a, hal, hat⟩
        · exfalso
          refine hn ⟨k, hkk, ?_, _, (mem_mayA hf).mpr ⟨_, hb', hbw⟩, hop⟩
          have back : ∀ s', InF k.row s' (a + 1) → HasP k.row who s' := fun s' hs' => haw.imp (fun e => (mem_mayA (hk k hkk).1).mpr ⟨_, hs', e⟩) fun e => (mem_mayA (hk k hkk).1).mpr ⟨_, hs', e⟩
          by_cases hst : s = t
          · subst hst
            exact ⟨s - 1, Int.le_refl _, .inr rfl, back _ (inF_back (hk k hkk).1 ha hat)⟩
          · exact ⟨s, by omega, .inl (hp.resolve_right hst), back _ ha⟩
theorem int_least {P : Int → Prop} [DecidablePred P] {t : Int} (h0 : 0 ≤ t) (h : P t) : ∃ m, 0 ≤ m ∧ m ≤ t ∧ P m ∧ ∀ s, 0 ≤ s → s < m → ¬ P s := by
  obtain ⟨n, rfl⟩ : ∃ n : Nat, t = (n : Int) := ⟨t.toNat, by omega⟩
  induction n using Nat.strongRecOn with
  | _ n ih =>
    by_cases hx : ∃ s : Nat, s < n ∧ P (s : Int)
    · obtain ⟨s, hs, hp⟩ := hx
      obtain ⟨m, h1, h2, h3, h4⟩ := ih s hs (by omega) hp
      exact ⟨m, h1, by omega, h3, h4⟩
    · refine ⟨n, by omega, Int.le_refl _, h, fun s hs hsn hp => hx ⟨s.toNat, by omega, ?_⟩⟩
      rw [show ((s.toNat : Nat) : Int) = s by omega]
      exact hp
end KM

/-! KZ: list(zip(a, b)); enumerate(xs, start=k); data of any depth compared. -/
namespace PySem.KZ
open PySem PySem.Calls PyProof.Rows PyProof.V PySem.Spec
namespace F
theorem zip_no_len : typeLookup (.type "zip") "__len__" = pure none := by rw [typeLookup_type, builtinLookup_eq_fast]; kernel_rfl
theorem zip_no_hint : typeLookup (.type "zip") "__length_hint__" = pure none := by rw [typeLookup_type, builtinLookup_eq_fast]; kernel_rfl
end F
/-- the addresses as hold the pairs, in order, as tuples; they lie above lo and rise -/
structure ZlG (xs ys : Array Value) (lo : Addr) (h : Heap) (as : List Addr) : Prop where
  rise : as.Pairwise (· < ·)
  above : ∀ a ∈ as, lo < a
  pairs : ∀ (j : Nat) (a : Addr), as[j]? = some a → ∃ x y, xs[j]? = some x ∧ ys[j]? = some y ∧ h.get? a = some { cls := .type "tuple", data := .seq #[x, y] }
theorem ZlG.there {xs ys : Array Value} {lo : Addr} {h : Heap} {as : List Addr} (g : ZlG xs ys lo h as) {a : Addr} (ha : a ∈ as) : a < h.objs.size := by
  obtain ⟨j, hj⟩ := List.mem_iff_getElem?.mp ha
  obtain ⟨_, _, _, _, e⟩ := g.pairs j a hj
  exact Heap.lt_size e
/-- the iterator's cells behind i turns, S the list that is made -/
structure ZSt (z TI TO i1 i2 l1 l2 S : Addr) (xs ys : Array Value) (i : Nat) (h : Heap) : Prop where
  ti : IsPair h TI (.ref i1) (.ref i2)
  h1 : h.IsListIter i1 l1 i
  h2 : h.IsListIter i2 l2 i
  x1 : h.IsList l1 xs
  x2 : h.IsList l2 ys
  zz : (IsZip h z TI TO .none ∧ ∃ a b, IsPair h TO a b) ∨ ∃ (T : Addr) (f : Bool) (oT : Obj), IsZipHeld h z TI TO T f ∧ h.get? T = some oT ∧ T ≠ z ∧ T ≠ i1 ∧ T ≠ i2 ∧ T ≠ S
theorem ZSt.keep {z TI TO i1 i2 l1 l2 S : Addr} {xs ys : Array Value} {i : Nat} {h h' : Heap} (s : ZSt z TI TO i1 i2 l1 l2 S xs ys i h) (lo : z < S ∧ TI < S ∧ TO < S ∧ i1 < S ∧ i2 < S ∧ l1 < S ∧ l2 < S) (k : ∀ b o, b ≠ S → h.get? b = some o → h'.get? b = some o) : ZSt z TI TO i1 i2 l1 l2 S xs ys i h' := by
  obtain ⟨a, b, c, d, e, f, g⟩ := lo
  refine ⟨k _ _ (Nat.ne_of_lt b) s.ti, s.h1.at fun o => k _ o (Nat.ne_of_lt d), s.h2.at fun o => k _ o (Nat.ne_of_lt e), s.x1.at fun o => k _ o (Nat.ne_of_lt f), s.x2.at fun o => k _ o (Nat.ne_of_lt g), ?_⟩
  rcases s.zz with ⟨hz, x, y, ho⟩ | ⟨T, f, oT, hz, hT, r1, r2, r3, r4⟩
  · exact .inl ⟨k _ _ (Nat.ne_of_lt a) hz, x, y, k _ _ (Nat.ne_of_lt c) ho⟩
  · exact .inr ⟨T, f, oT, k _ _ (Nat.ne_of_lt a) hz, k _ _ r4 hT, r1, r2, r3, r4⟩
section
variable {prog : Program} {w : World} {A : Around} {E : Value → Shared → Prop} {s : Shared} {z TI TO i1 i2 l1 l2 S : Addr} {xs ys : Array Value}
theorem zl_item (D : ZipApart z TI TO i1 i2 l1 l2) {i : Nat} {x y : Value} {Q : Option Value → Shared → Prop} (hst : ZSt z TI TO i1 i2 l1 l2 S xs ys i s.heap) (hS : S < s.heap.objs.size) (ex : xs[i]? = some x) (ey : ys[i]? = some y)
    (hQ : ∀ h', ZSt z TI TO i1 i2 l1 l2 S xs ys (i + 1) h' → h'.get? s.heap.objs.size = some { cls := .type "tuple", data := .seq #[x, y] } → h'.objs.size = s.heap.objs.size + 1 →
      (∀ b o, b ∉ [z, TO, i1, i2] → s.heap.get? b = some o → h'.get? b = some o) → Q (some (.ref s.heap.objs.size)) { s with heap := h' }) :
    wpAny (model prog w) A (pyNext (.ref z)) Q E s := by
  obtain ⟨hTI, h1, h2, hl1, hl2, hz⟩ := hst
  have lt : ∀ {c o}, s.heap.get? c = some o → s.heap.objs.size ≠ c := fun e => Nat.ne_of_gt (Heap.lt_size e)
  have n1 : s.heap.objs.size ≠ i1 := let ⟨_, e, _⟩ := h1; lt e
  have n2 : s.heap.objs.size ≠ i2 := let ⟨_, e, _⟩ := h2; lt e
  rcases hz with ⟨hz, a, b, hTO⟩ | ⟨T, f, oT, hz, hT, r1, r2, r3, r4⟩
  · refine wpAny_pyNext_zip_item D hz hTI hTO h1 h2 hl1 hl2 ex ey fun h' a1 a2 a3 a4 a5 a6 hk => ?_
    exact hQ h' ⟨hk _ _ D.TIz D.TITO D.TIi1 D.TIi2 hTI, a3, a4, hl1.at fun o e => hk _ o D.l1z D.l1TO D.l1i1 D.l1i2 e, hl2.at fun o e => hk _ o D.l2z D.l2TO D.l2i1 D.l2i2 e,
        .inr ⟨s.heap.objs.size, false, _, a1, a5, lt hz, n1, n2, Nat.ne_of_gt hS⟩⟩ a5 a6
      fun c o hc e => hk c o (fun x => hc (by simp [x])) (fun x => hc (by simp [x])) (fun x => hc (by simp [x])) (fun x => hc (by simp [x])) e
  · refine wpAny_pyNext_zip_item_held D hz hT hTI h1 h2 hl1 hl2 ex ey fun h' a1 a3 a4 a5 a6 hk => ?_
    exact hQ h' ⟨hk _ _ D.TIz D.TIi1 D.TIi2 hTI, a3, a4, hl1.at fun o e => hk _ o D.l1z D.l1i1 D.l1i2 e, hl2.at fun o e => hk _ o D.l2z D.l2i1 D.l2i2 e,
        .inr ⟨T, true, oT, a1, hk _ _ r1 r2 r3 hT, r1, r2, r3, r4⟩⟩ a5 a6
      fun c o hc e => hk c o (fun x => hc (by simp [x])) (fun x => hc (by simp [x])) (fun x => hc (by simp [x])) e
theorem zl_done (D : ZipApart z TI TO i1 i2 l1 l2) {i : Nat} {Q : Option Value → Shared → Prop} (hh : A.handled = none) (hst : ZSt z TI TO i1 i2 l1 l2 S xs ys i s.heap) (he : xs[i]? = none ∨ ys[i]? = none)
    (hQ : ∀ h', (∀ b o, b ∉ [z, TO, i1, i2] → s.heap.get? b = some o → h'.get? b = some o) → Q none { s with heap := h' }) : wpAny (model prog w) A (pyNext (.ref z)) Q E s := by
  obtain ⟨hTI, h1, h2, hl1, hl2, hz⟩ := hst
  rcases hz with ⟨hz, a, b, hTO⟩ | ⟨T, f, oT, hz, hT, r1, r2, r3, r4⟩
  · exact wpAny_pyNext_zip_end hh D hz hTI hTO h1 h2 hl1 hl2 he fun h' hk => hQ h' fun c o hc e => hk c o (fun x => hc (by simp [x])) (fun x => hc (by simp [x])) (fun x => hc (by simp [x])) (fun x => hc (by simp [x])) e
  · exact wpAny_pyNext_zip_end_held hh D hz hT hTI h1 h2 hl1 hl2 he fun h' hk => hQ h' fun c o hc e => hk c o (fun x => hc (by simp [x])) (fun x => hc (by simp [x])) (fun x => hc (by simp [x])) e
end
section
variable {prog : Program} {w : World} {A : Around} {s : Shared} {R : Result → Shared → Prop} {z TI TO i1 i2 l1 l2 S : Addr} {xs ys : Array Value}
theorem zl_loop (D : ZipApart z TI TO i1 i2 l1 l2) (hh : A.handled = none) (lo : z < S ∧ TI < S ∧ TO < S ∧ i1 < S ∧ i2 < S ∧ l1 < S ∧ l2 < S) (hxy : xs.size = ys.size) (hn : xs.size ≤ sizeLine) (res : Value) {h₁ : Heap}
    (hR : ∀ h' tk acc c as, (∀ b o, b ≠ S → b ∉ [z, TO, i1, i2] → h₁.get? b = some o → h'.get? b = some o) → h'.get? S = some { cls := .type "list", dict := none, data := .seq acc c, slots := #[] } → as.length = xs.size → ZlG xs ys S h' as →
      acc.toList = as.map Value.ref → R (.ok (.ret res)) { s with heap := h', toks := tk }) :
    ∀ (k i : Nat) (h : Heap) (tk c : Nat) (acc : Array Value) (as : List Addr), xs.size - i = k → i ≤ xs.size → ZSt z TI TO i1 i2 l1 l2 S xs ys i h → (∀ b o, b ≠ S → b ∉ [z, TO, i1, i2] → h₁.get? b = some o → h.get? b = some o) →
      h.get? S = some { cls := .type "list", dict := none, data := .seq acc c, slots := #[] } → acc.toList = as.map Value.ref → as.length = i → ZlG xs ys S h as →
      codeAny (model prog w) A (.builtin "list.extend.loop" ⟨[.ref S, .ref z, res], []⟩) R { s with heap := h, toks := tk } := by
  have nS : S ∉ [z, TO, i1, i2] := fun hm => by
    obtain ⟨a, _, c, d, e, _, _⟩ := lo
    have e' : S = z ∨ S = TO ∨ S = i1 ∨ S = i2 := by simpa using hm
    rcases e' with q | q | q | q
    · exact Nat.ne_of_gt a q
    · exact Nat.ne_of_gt c q
    · exact Nat.ne_of_gt d q
    · exact Nat.ne_of_gt e q
  have nT : ∀ a : Addr, S < a → a ∉ [z, TO, i1, i2] := fun x hx hm => by
    obtain ⟨a, _, c, d, e, _, _⟩ := lo
    have e' : x = z ∨ x = TO ∨ x = i1 ∨ x = i2 := by simpa using hm
    have lt : ∀ {p q : Addr}, p < q → q < p → False := fun {p q} h1 h2 => Nat.lt_irrefl _ (Nat.lt_trans h1 h2)
    rcases e' with q | q | q | q
    · subst q; exact lt hx a
    · subst q; exact lt hx c
    · subst q; exact lt hx d
    · subst q; exact lt hx e
  intro k
  induction k with
  | zero =>
    intro i h tk c acc as hk hi hst hkeep hS hacc hal hG
    have hin : i = xs.size := by omega
    refine codeAny_builtin PySem.F.entry_extend_loop ?_
    rw [Around.under_plainId PySem.F.plain_extend_loop _]
    show wpAny _ A.in1 (pyNext (.ref z) >>= _) _ _ _
    refine wpAny_bind (zl_done (s := { s with heap := h, toks := tk }) (A := A.in1) D hh hst (.inl (Array.getElem?_eq_none (by omega))) fun h' he => ?_)
    refine wpAny_pure (hR h' tk acc c as (fun b o h1 h2 e => he b o h2 (hkeep b o h1 h2 e)) (he S _ nS hS) (by omega) ⟨hG.rise, hG.above, fun j a hj => ?_⟩ hacc)
    obtain ⟨x, y, hx, hy, e3⟩ := hG.pairs j a hj
    exact ⟨x, y, hx, hy, he a _ (nT a (hG.above a (List.mem_of_getElem? hj))) e3⟩
  | succ k ih =>
    intro i h tk c acc as hk hi hst hkeep hS hacc hal hG
    have hlt : i < xs.size := by omega
    have hlt2 : i < ys.size := by omega
    have hsz : acc.size = i := by rw [← Array.length_toList, hacc, List.length_map, hal]
    refine codeAny_builtin PySem.F.entry_extend_loop ?_
    rw [Around.under_plainId PySem.F.plain_extend_loop _]
    show wpAny _ A.in1 (pyNext (.ref z) >>= _) _ _ _
    refine wpAny_bind (zl_item (s := { s with heap := h, toks := tk }) D hst (Heap.lt_size hS) (Array.getElem?_eq_getElem hlt) (Array.getElem?_eq_getElem hlt2) fun h' hst' ht hz hkp => ?_)
    dsimp only at ht hz hkp ⊢
    have hS' := hkp S _ nS hS
    have up : ∀ b o, b ≠ S → h'.get? b = some o → (h'.update S (Obj.mapSeq (·.push (Value.ref h.objs.size)))).get? b = some o := fun b o hb e => (Heap.get?_update_other _ _ (Ne.symm hb)).trans e
    have hSl : S < h.objs.size := Heap.lt_size hS
    show wpAny _ A.in1 (updateSeq S (·.push (Value.ref h.objs.size)) >>= _) _ _ _
    refine wpAny_bind ?_
    refine wpAny_updateSeq hS' rfl (wpAny_pure ⟨plainId_quiet PySem.F.plain_extend_loop _, ih (i + 1) _ tk _ (acc.push (Value.ref h.objs.size)) (as ++ [h.objs.size]) (by omega) hlt (hst'.keep lo up)
      (fun b o h1 h2 e => up b o h1 (hkp b o h2 (hkeep b o h1 h2 e))) (Heap.get?_update_self _ hS' rfl) (by rw [Array.toList_push, hacc, List.map_append]; rfl) (by rw [List.length_append, hal]; rfl) ⟨?_, ?_, ?_⟩⟩) (by rw [hsz]; omega) (by show (acc.push (Value.ref h.objs.size)).size ≤ sizeLine + 1; rw [Array.size_push, hsz]; omega)
    · refine List.pairwise_append.mpr ⟨hG.rise, List.pairwise_singleton _ _, fun a ha b hb => ?_⟩
      rw [List.mem_singleton.mp hb]
      exact hG.there ha
    · intro a ha
      rcases List.mem_append.mp ha with ha | ha
      · exact hG.above a ha
      · rw [List.mem_singleton.mp ha]; exact hSl
    · intro j b hj
      rcases Nat.lt_trichotomy j as.length with h1 | h1 | h1
      · rw [List.getElem?_append_left h1] at hj
        obtain ⟨x, y, hx, hy, e3⟩ := hG.pairs j b hj
        have hb := hG.above b (List.mem_of_getElem? hj)
        exact ⟨x, y, hx, hy, up b _ (Nat.ne_of_gt hb) (hkp b _ (nT b hb) e3)⟩
      · subst h1
        have hb : h.objs.size = b := by simpa using hj
        subst hb
        subst hal
        exact ⟨_, _, Array.getElem?_eq_getElem hlt, Array.getElem?_eq_getElem hlt2, up _ _ (Nat.ne_of_gt hSl) ht⟩
      · have hnone : (as ++ [h.objs.size])[j]? = none := List.getElem?_eq_none (by rw [List.length_append, List.length_singleton]; omega)
        rw [hnone] at hj; cases hj
end
section
variable {prog : Program} {w : World} {A : Around} {E : Value → Shared → Prop} {s : Shared} {z TI TO i1 i2 l1 l2 : Addr} {xs ys : Array Value}
structure ZNew (z TI TO i1 i2 l1 l2 : Addr) (xs ys : Array Value) (h : Heap) : Prop where
  hz : IsZip h z TI TO .none
  hTI : IsPair h TI (.ref i1) (.ref i2)
  hTO : ∃ a b, IsPair h TO a b
  h1 : h.IsListIter i1 l1 0
  h2 : h.IsListIter i2 l2 0
  x1 : h.IsList l1 xs
  x2 : h.IsList l2 ys
theorem ZNew.keep {h h' : Heap} (n : ZNew z TI TO i1 i2 l1 l2 xs ys h) (k : ∀ b ∈ [z, TI, TO, i1, i2, l1, l2], ∀ o, h.get? b = some o → h'.get? b = some o) : ZNew z TI TO i1 i2 l1 l2 xs ys h' := by
  obtain ⟨a, b, ⟨x, y, c⟩, d, e, f, g⟩ := n
  exact ⟨k _ (by simp) _ a, k _ (by simp) _ b, ⟨x, y, k _ (by simp) _ c⟩, d.at fun o => k _ (by simp) o, e.at fun o => k _ (by simp) o, f.at fun o => k _ (by simp) o, g.at fun o => k _ (by simp) o⟩
theorem ZNew.lt {h : Heap} (n : ZNew z TI TO i1 i2 l1 l2 xs ys h) : z < h.objs.size ∧ TI < h.objs.size ∧ TO < h.objs.size ∧ i1 < h.objs.size ∧ i2 < h.objs.size ∧ l1 < h.objs.size ∧ l2 < h.objs.size := by
  obtain ⟨a, b, ⟨x, y, c⟩, ⟨_, d, _⟩, ⟨_, e, _⟩, ⟨_, f, _⟩, ⟨_, g, _⟩⟩ := n
  exact ⟨Heap.lt_size a, Heap.lt_size b, Heap.lt_size c, Heap.lt_size d, Heap.lt_size e, Heap.lt_size f, Heap.lt_size g⟩
theorem zl_extend {R : Result → Shared → Prop} (D : ZipApart z TI TO i1 i2 l1 l2) (hh : A.handled = none) (S : Addr) (lo : z < S ∧ TI < S ∧ TO < S ∧ i1 < S ∧ i2 < S ∧ l1 < S ∧ l2 < S) (hxy : xs.size = ys.size) (hn : xs.size ≤ sizeLine) (hnew : ZNew z TI TO i1 i2 l1 l2 xs ys s.heap) (res : Value) (c₀ : Nat) (hS : s.heap.get? S = some { cls := .type "list", data := .seq #[] c₀ })
    (hR : ∀ h' tk acc c as, (∀ b o, b ≠ S → b ∉ [z, TO, i1, i2] → s.heap.get? b = some o → h'.get? b = some o) → h'.get? S = some { cls := .type "list", dict := none, data := .seq acc c, slots := #[] } → as.length = xs.size → ZlG xs ys S h' as →
      acc.toList = as.map Value.ref → R (.ok (.ret res)) { s with heap := h', toks := tk }) :
    wpAny (model prog w) A.in1 (Builtin.List.listExtendWith (.ref S) (.ref z) res)
      (fun fin s' => match fin with | .done f => R (.ok f) s' | .again c' => c'.quiet = true ∧ codeAny (model prog w) A c' R s') (fun e s' => R (.error e) s') s := by
  have hty : s.TypeIs (.ref z) "zip" := ⟨_, hnew.hz, rfl⟩
  have hSz : S ≠ z := Nat.ne_of_gt lo.1
  unfold Builtin.List.listExtendWith
  refine wpAny_bind (wpAny_typeOf (T := "zip") hty ?_)
  have h1 : Builtin.List.listSameRef (.ref S) (.ref z) = false := by simp [Builtin.List.listSameRef, hSz]
  have h2 : (Value.type "zip" == Value.type "list") = false := by decide
  have h3 : (Value.type "zip" == Value.type "tuple") = false := by decide
  simp only [h1, h2, h3, Bool.or_false, Bool.false_eq_true, if_false]
  refine wpAny_bind (wpAny_pyIter_zip hnew.hz ?_)
  refine wpAny_bind (wpAny_holding ?_)
  unfold Builtin.List.listLengthHint
  refine wpAny_bind (wpAny_specialOf hty F.zip_no_len ?_)
  show wpAny _ A.in1 (specialOf (Value.ref z) (Str.ofString "__length_hint__") >>= _) _ _ _
  refine wpAny_bind (wpAny_specialOf hty F.zip_no_hint ?_)
  refine wpAny_pure ?_
  show wpAny _ A.in1 (rule "list.extend.makes-room" >>= fun _ => Builtin.List.listTouch (.ref S) >>= fun _ =>
    again (.builtin "list.extend.loop" ⟨[.ref S, .ref z, res], []⟩)) _ _ _
  refine wpAny_bind (wpAny_rule ?_)
  refine wpAny_bind ?_
  show wpAny _ A.in1 (updateSeq S (·.push .none) >>= fun _ => updateSeq S (·.pop)) _ _ _
  refine wpAny_bind (wpAny_updateSeq hS rfl ?_)
  have hS₂ := Heap.get?_update_self (Obj.mapSeq (·.push Value.none)) hS rfl
  refine wpAny_updateSeq (hz := by seq_fits) hS₂ rfl ?_
  have hS₃ := Heap.get?_update_self (Obj.mapSeq (·.pop)) hS₂ rfl
  have oth : ∀ b o, b ≠ S → s.heap.get? b = some o → ((s.heap.update S (Obj.mapSeq (·.push Value.none))).update S (Obj.mapSeq (·.pop))).get? b = some o :=
    fun b o hb e => (Heap.get?_update_other _ _ (Ne.symm hb)).trans ((Heap.get?_update_other _ _ (Ne.symm hb)).trans e)
  have hst0 : ZSt z TI TO i1 i2 l1 l2 S xs ys 0 s.heap := ⟨hnew.hTI, hnew.h1, hnew.h2, hnew.x1, hnew.x2, .inl ⟨hnew.hz, hnew.hTO⟩⟩
  refine wpAny_pure ⟨plainId_quiet PySem.F.plain_extend_loop _, zl_loop (s := s) (h₁ := s.heap) D hh lo hxy hn res hR xs.size 0 _ _ _ #[] [] (Nat.sub_zero _) (Nat.zero_le _) (hst0.keep lo oth) (fun b o h1 _ e => oth b o h1 e) hS₃ rfl rfl
    ⟨List.Pairwise.nil, (fun _ ha => nomatch ha), (fun j a hj => by simp at hj)⟩⟩
theorem zl_init {R : Result → Shared → Prop} (D : ZipApart z TI TO i1 i2 l1 l2) (hh : A.handled = none) (S : Addr) (lo : z < S ∧ TI < S ∧ TO < S ∧ i1 < S ∧ i2 < S ∧ l1 < S ∧ l2 < S) (hxy : xs.size = ys.size) (hn : xs.size ≤ sizeLine) (hnew : ZNew z TI TO i1 i2 l1 l2 xs ys s.heap) (hS : s.heap.get? S = some { cls := .type "list", data := .seq #[] })
    (hR : ∀ h' tk acc c as, (∀ b o, b ≠ S → b ∉ [z, TO, i1, i2] → s.heap.get? b = some o → h'.get? b = some o) → h'.get? S = some { cls := .type "list", dict := none, data := .seq acc c, slots := #[] } → as.length = xs.size → ZlG xs ys S h' as →
      acc.toList = as.map Value.ref → R (.ok (.ret .none)) { s with heap := h', toks := tk }) :
    wpAny (model prog w) A.in1 (Builtin.«list.__init__» ⟨[.ref S, .ref z], []⟩)
      (fun fin s' => match fin with | .done f => R (.ok f) s' | .again c' => c'.quiet = true ∧ codeAny (model prog w) A c' R s') (fun e s' => R (.error e) s') s := by
  show wpAny _ _ (do let old ← Builtin.List.listItems (.ref S); Builtin.List.listUpdate (.ref S) (fun _ => #[]); letGo old.toList.reverse; Builtin.List.listExtendWith (.ref S) (.ref z) .none) _ _ s
  refine wpAny_bind ?_
  unfold Builtin.List.listItems
  refine wpAny_bind (wpAny_seqItems hS rfl (wpAny_pure ?_))
  show wpAny _ _ (updateSeq S (fun _ => #[]) >>= fun _ => letGo (#[] : Array Value).toList.reverse >>= fun _ => Builtin.List.listExtendWith (.ref S) (.ref z) .none) _ _ s
  refine wpAny_bind (wpAny_updateSeq hS rfl ?_)
  have hS₂ := Heap.get?_update_self (Obj.mapSeq (fun _ => (#[] : Array Value))) hS rfl
  have oth : ∀ b o, b ≠ S → s.heap.get? b = some o → (s.heap.update S (Obj.mapSeq (fun _ => (#[] : Array Value)))).get? b = some o :=
    fun b o hb e => (Heap.get?_update_other _ _ (Ne.symm hb)).trans e
  refine wpAny_bind (wpAny_letGo ?_)
  have ne : ∀ b ∈ [z, TI, TO, i1, i2, l1, l2], b ≠ S := fun b hb => by
    obtain ⟨q1, q2, q3, q4, q5, q6, q7⟩ := lo
    simp only [List.mem_cons, List.not_mem_nil, or_false] at hb
    rcases hb with rfl | rfl | rfl | rfl | rfl | rfl | rfl
    all_goals exact Nat.ne_of_lt (by assumption)
  refine zl_extend (R := R) (s := { s with heap := s.heap.update S (Obj.mapSeq (fun _ => (#[] : Array Value))) }) D hh S lo hxy hn (hnew.keep fun b hb o e => oth b o (ne b hb) e) .none _ hS₂ (fun h' tk acc c as hk hS' hl hG hacc => ?_)
  exact hR h' tk acc c as (fun b o hb hb2 e => hk b o hb hb2 (oth b o hb e)) hS' hl hG hacc
theorem zl_call {Q : Value → Shared → Prop} (D : ZipApart z TI TO i1 i2 l1 l2) (hh : A.handled = none) (hxy : xs.size = ys.size) (hn : xs.size ≤ sizeLine) (hnew : ZNew z TI TO i1 i2 l1 l2 xs ys s.heap)
    (hQ : ∀ h' tk acc c as, (∀ b o, b ∉ [z, TO, i1, i2] → s.heap.get? b = some o → h'.get? b = some o) → h'.get? s.heap.objs.size = some { cls := .type "list", dict := none, data := .seq acc c, slots := #[] } → as.length = xs.size → ZlG xs ys s.heap.objs.size h' as →
      acc.toList = as.map Value.ref → Q (.ref s.heap.objs.size) { s with heap := h', toks := tk }) :
    wpAny (model prog w) A (call (.type "list") [.ref z]) Q E s := by
  refine callType_codes (Q₁ := fun obj s₁ => obj = .ref s.heap.objs.size ∧ s₁ = { s with heap := s.heap.push { cls := .type "list", data := .seq #[] } }) PySem.F.called_list (PySem.F.typeCall_list_1 _) PySem.F.entry_list_init
    (code_list_new _ ⟨rfl, rfl⟩) fun obj s₁ h₁ => ?_
  obtain ⟨rfl, rfl⟩ := h₁
  have hS : (s.heap.push { cls := .type "list", data := .seq #[] }).get? s.heap.objs.size = some { cls := .type "list", data := .seq #[] } := Heap.get?_push_size _ rfl
  refine ⟨⟨_, hS, rfl⟩, PySem.F.args_list_init_2 _ _, zl_init (A := A.in1) D hh _ hnew.lt hxy hn (hnew.keep fun b _ o e => Heap.get?_push_of_some _ e) hS (fun h' tk acc c as hk hS' hl hG hacc => ?_)⟩
  exact ⟨rfl, hQ h' tk acc c as (fun b o hb e => hk b o (Nat.ne_of_lt (Heap.lt_size e)) hb (Heap.get?_push_of_some _ e)) hS' hl hG hacc⟩
end
end PySem.KZ

/-! KZ2: the rules of KZ over the hand layer. -/
namespace KR
open PySem PySem.Spec PyProof.Rows L2 Evl
open LiI (paired_ix)
/-- the tuples tracked at their addresses -/
def putP : Hp → List Addr → List (V × V) → Hp
  | H, a :: as, p :: ps => putP (upd H a (.tup [p.1, p.2])) as ps
  | H, _, _ => H
theorem putP_off {b : Addr} : ∀ (as : List Addr) (ps : List (V × V)) (H : Hp), b ∉ as → putP H as ps b = H b
  | [], _, _, _ => rfl
  | _ :: _, [], _, _ => rfl
  | a :: as, p :: ps, H, h => by
    show putP (upd H a (.tup [p.1, p.2])) as ps b = H b
    rw [putP_off as ps _ (fun z => h (List.mem_cons_of_mem _ z)), upd_ne (fun z => h (by rw [z]; exact List.mem_cons_self))]
theorem putP_at : ∀ (as : List Addr) (ps : List (V × V)) (H : Hp), as.length = ps.length → as.Nodup → Paired (fun (t : Addr) (p : V × V) => putP H as ps t = some (.tup [p.1, p.2])) as ps
  | [], [], _, _, _ => .nil
  | [], _ :: _, _, h, _ => by cases h
  | _ :: _, [], _, h, _ => by cases h
  | a :: as, p :: ps, H, h, hn => by
    have hn' := List.nodup_cons.mp hn
    refine .cons ?_ (putP_at as ps (upd H a (.tup [p.1, p.2])) (Nat.succ.inj h) hn'.2)
    show putP (upd H a (.tup [p.1, p.2])) as ps a = some (.tup [p.1, p.2])
    rw [putP_off as ps _ hn'.1, upd_same]
def rZipL (H1 : Hp) (xs ys : List V) (Q : VK) : Prop := ∀ (H' : Hp) (p : Addr) (ts : List Addr), (∀ b o, H1 b = some o → H' b = some o) → H1 p = none → (∀ t ∈ ts, H1 t = none) → H' p = some (.lst (ts.map V.ref)) →
  Paired (fun (t : Addr) (q : V × V) => H' t = some (.tup [q.1, q.2])) ts (xs.zip ys) → Q (.ref p) H'
def tListZip (K : PySem.W.Frag) (ta : TA) : TE := fun σ H Q => ta σ H fun vs H1 => ∃ (a b : Addr) (xs ys : List V), vs = [.ref a, .ref b] ∧ SqL K H1 a xs ∧ SqL K H1 b ys ∧ xs.length = ys.length ∧ xs.length ≤ 1000 ∧ rZipL H1 xs ys Q
section
variable {X : Cx}
theorem zip_laid {pins : List (Addr × Obj)} {σ : L2.St} {H : Hp} {s : Shared} {h' : Heap} {tk : Nat} {xs ys : List V} {us ws : List Value} {acc : Array Value} {c : Nat} {as : List Addr} {fp : List Addr} (I : Inv X pins σ H s) (hz : as.length ≤ 1000) (kx : Vals xs us) (ky : Vals ys ws) (hl : as.length = us.length) (hl2 : us.length = ws.length)
    (hk : ∀ b o, b ∉ fp → s.heap.get? b = some o → h'.get? b = some o) (hf : ∀ b ∈ fp, FpOk X pins H b)
    (hS : h'.get? s.heap.objs.size = some { cls := .type "list", dict := none, data := .seq acc c, slots := #[] }) (hG : KZ.ZlG us.toArray ws.toArray s.heap.objs.size h' as) (hacc : acc.toList = as.map Value.ref) :
    ∃ H' : Hp, (∀ b o, H b = some o → H' b = some o) ∧ H s.heap.objs.size = none ∧ (∀ t ∈ as, H t = none) ∧ H' s.heap.objs.size = some (.lst (as.map V.ref)) ∧ Paired (fun (t : Addr) (q : V × V) => H' t = some (.tup [q.1, q.2])) as (xs.zip ys) ∧ Inv X pins σ H' { s with heap := h', toks := tk } := by
  have lx : xs.length = us.length := kx.length
  have ly : ys.length = ws.length := ky.length
  have lz : (xs.zip ys).length = as.length := by rw [List.length_zip, lx, ly, ← hl2, hl]; exact Nat.min_self _
  have hSn : s.heap.objs.size ∉ as := fun z => Nat.lt_irrefl _ (hG.above _ z)
  have nd : as.Nodup := List.Pairwise.imp (fun {a b} (h : a < b) => Nat.ne_of_lt h) hG.rise
  have new : ∀ t ∈ as, H t = none := fun t ht => I.hok.fresh (Nat.le_of_lt (hG.above t ht))
  have newS : H s.heap.objs.size = none := I.hok.fresh (Nat.le_refl _)
  have atP := putP_at as (xs.zip ys) (upd H s.heap.objs.size (.lst (as.map V.ref))) lz.symm nd
  have off : ∀ b, b ∉ as → b ≠ s.heap.objs.size → putP (upd H s.heap.objs.size (.lst (as.map V.ref))) as (xs.zip ys) b = H b := fun b h1 h2 => by rw [putP_off as _ _ h1, upd_ne h2]
  have low : ∀ b o, s.heap.get? b = some o → b ∉ as ∧ b ≠ s.heap.objs.size := fun b o e => ⟨fun z => absurd (Heap.lt_size e) (Nat.not_lt.mpr (Nat.le_of_lt (hG.above b z))), Nat.ne_of_lt (Heap.lt_size e)⟩
  have kp : ∀ b u, H b = some u → (putP (upd H s.heap.objs.size (.lst (as.map V.ref))) as (xs.zip ys)) b = some u := fun b u e => by
    rw [off b (fun z => by rw [new b z] at e; cases e) (fun z => by rw [z, newS] at e; cases e)]
    exact e
  have eS : putP (upd H s.heap.objs.size (.lst (as.map V.ref))) as (xs.zip ys) s.heap.objs.size = some (.lst (as.map V.ref)) := by rw [putP_off as _ _ hSn, upd_same]
  refine ⟨putP (upd H s.heap.objs.size (.lst (as.map V.ref))) as (xs.zip ys), kp, newS, new, eS, atP, ?_⟩
  have nit : ∀ b u, H b = some u → b ∉ fp := fun b u e z => by
    have q := (hf b z).1
    rw [q] at e; cases e
  refine I.step (t' := tk) (g' := s.gens) (d' := s.drawn) (ch := fp) (fun b hb => ⟨(hf b hb).2.2.2.1, (hf b hb).2.1, (hf b hb).2.2.2.2.1, (hf b hb).2.2.2.2.2⟩) (fun b o _ _ hc e _ => hk b o hc e) (fun b o _ _ hc e _ => ⟨o.slots, hk b o hc e⟩)
    (fun b o _ e n => ?_) (fun b o hc e => ⟨o, hk b o hc e⟩) (fun b qs e => kp b _ e) (fun b o u e => kp b _ e) (fun b qs e => ⟨#[], by rw [kp b _ e]; simp⟩) (fun m hm => ?_) (fun b u q => ?_) I.bare
  · obtain ⟨z1, z2⟩ := low b o e
    rw [off b z1 z2]
    exact n
  · obtain ⟨o, es, ep, ho, r⟩ := hm
    exact ⟨o, es, ep, hk _ o (fun z => (hf _ z).2.1 rfl) ho, r⟩
  · by_cases hb : b ∈ as
    · obtain ⟨j, pk, e1, e2, e3⟩ := paired_ix atP hb
      rw [e3] at q
      cases q
      obtain ⟨x, y, f1, f2, f3⟩ := hG.pairs j b e1
      rw [List.getElem?_zip_eq_some] at e2
      obtain ⟨x', gx, rx⟩ := LiI.paired_get kx e2.1
      obtain ⟨y', gy, ry⟩ := LiI.paired_get ky e2.2
      have ex : x' = x := by
        have f1' : us[j]? = some x := by simpa using f1
        rw [gx] at f1'
        exact Option.some.inj f1'
      have ey : y' = y := by
        have f2' : ws[j]? = some y := by simpa using f2
        rw [gy] at f2'
        exact Option.some.inj f2'
      subst ex ey
      exact ⟨by show 2 ≤ sizeLine; decide, [_, _], .cons rx (.cons ry .nil), ⟨_, f3, rfl, _, rfl⟩⟩
    · by_cases hb2 : b = s.heap.objs.size
      · rw [hb2] at q ⊢
        rw [eS] at q
        cases q
        refine ⟨by rw [List.length_map, sizeLine_eq]; omega, acc.toList, c, by rw [hacc]; exact LiI.vals_refs as, ?_⟩
        rw [Array.toArray_toList]
        exact hS
      · rw [off b hb hb2] at q
        refine (I.hok b u q).stay (fun d v hd y => hk d v ?_ y) (fun d y => kp d _ y) fun d xs y => kp d _ y
        rcases hd with z | z
        · rw [z]; exact nit b u q
        · exact nit d _ z
/-- list(zip(a, b)) -/
theorem pe_listZip {e e2 : Expr} {ta : TA} {p p1 pos1 pos : Pos} (hc : X.calm = true) (hg : Gl X "list") (hm : X.mg "list" = none) (hg2 : Gl X "zip") (hm2 : X.mg "zip" = none) (hv : bootBuiltins "list" = some (.type "list")) (ha : PA X [e, e2] ta)
    (hs : starEach [e, e2] X.env = (false, eval e X.env) :: starEach [e2] X.env := by rfl) (hpl : (backTo pos1 (starEach [e2] X.env)).any (·.1) = false := by rfl)
    (hs1 : starEach [.Call (.Name "zip" p1) [e, e2] [] pos1] X.env = (false, eval (.Call (.Name "zip" p1) [e, e2] [] pos1) X.env) :: starEach [] X.env := by rfl) :
    PE X (.Call (.Name "list" p) [.Call (.Name "zip" p1) [e, e2] [] pos1] [] pos) (tListZip X.K ta) := by
  refine ⟨fun pins s σ H Q I hq => ?_⟩
  refine wpAny_Call_Name_kw (ld_blt I hg hm hv ?_)
  refine PyProof.Rows.callWith_type1 ?_ hs1 rfl
  rw [hs1]
  show wpAny _ _ (spliced ((false, eval (.Call (.Name "zip" p1) [e, e2] [] pos1) X.env) :: backTo pos (starEach [] X.env))) _ _ s
  refine Calls.spliced_cons ?_
  refine Call_ (ld_blt I hg2 hm2 PyProof.Rows.boot_zip (PyProof.Rows.callWith_type1 (thn (ha.run pos1 pins s σ H _ I hq) fun us s1 ⟨vs, H1, I1, r1, q1⟩ => ?_) hs hpl))
  obtain ⟨a, b, xs, ys, ex, hqx, hqy, hlen, h1000, q⟩ := q1
  subst ex
  cases r1 with
  | cons r rr =>
    cases rr with
    | cons r' rr =>
      cases rr
      cases r
      cases r'
      obtain ⟨its, rv, pl1, _⟩ := I1.list hqx
      obtain ⟨its2, rv2, pl2, _⟩ := I1.list hqy
      have la : a < s1.heap.objs.size := pl1.lt
      have lb : b < s1.heap.objs.size := pl2.lt
      refine call_zip_2 pl1.isList pl2.isList fun h' hz hTI hTO h1 h2 hsz hk => ?_
      refine Calls.spliced_nil ?_
      have I2 : Inv X pins σ H1 { s1 with heap := h' } := I1.kept (t' := s1.toks) hk
      have l1 := rv.length
      have l2 := rv2.length
      have hx1 : h'.IsList a its.toArray := pl1.isList.at fun o e => hk a o e
      have hx2 : h'.IsList b its2.toArray := pl2.isList.at fun o e => hk b o e
      have fpk : ∀ c ∈ [s1.heap.objs.size + 4, s1.heap.objs.size + 3, s1.heap.objs.size, s1.heap.objs.size + 1], FpOk X pins H1 c := fun c hcm => by
        have e' : c = s1.heap.objs.size + 4 ∨ c = s1.heap.objs.size + 3 ∨ c = s1.heap.objs.size ∨ c = s1.heap.objs.size + 1 := by simpa using hcm
        have hle : s1.heap.objs.size ≤ c := by
          rcases e' with z | z | z | z
          · rw [z]; exact Nat.le_add_right _ _
          · rw [z]; exact Nat.le_add_right _ _
          · rw [z]; exact Nat.le_refl _
          · rw [z]; exact Nat.le_add_right _ _
        exact I1.fpOk hle (I1.hok.fresh hle)
      refine KZ.zl_call (s := { s1 with heap := h' }) (xs := its.toArray) (ys := its2.toArray) (PySem.W.ktu_apart s1.heap.objs.size a b la lb) (I.ok.hd hc) (by simp; omega) (by simp; rw [sizeLine_eq]; omega) ⟨hz, hTI, ⟨_, _, hTO⟩, h1, h2, hx1, hx2⟩ fun h3 tk acc c as hk3 hS hl hG hacc => ?_
      have hl' : as.length = its.length := by simpa using hl
      obtain ⟨H', k1, k2, k3, k4, k5, J⟩ := zip_laid (tk := tk) (fp := [s1.heap.objs.size + 4, s1.heap.objs.size + 3, s1.heap.objs.size, s1.heap.objs.size + 1]) I2 (by omega) rv rv2 hl' (by omega) hk3 fpk hS hG hacc
      exact ⟨.ref _, H', J, rfl, q H' _ as k1 k2 k3 k4 k5⟩
end
/-- the heap grows: what is new stands still -/
theorem StOk.grow {K : PySem.W.Frag} {w : Wd} {m : Store} {H H' : Hp} (h : StOk K w m H) (e : ∀ b o, H b = some o → H' b = some o) : ∃ w', w.le w' ∧ StOk K w' m H' ∧ ∀ b o, H b = none → H' b = some o → w'.Z b = some o := by
  refine ⟨⟨fun b => match w.Z b with
    | some o => some o
    | none => if H b = none then H' b else none, w.al⟩, ⟨fun b o hb => by show (match w.Z b with | some o => some o | none => _) = _; rw [hb], List.prefix_refl _⟩, ⟨fun b o hb => ?_, h.len, h.nd, fun k a c e1 e2 => ?_⟩, fun b o hb ho => ?_⟩
  · have hb : (match w.Z b with | some o => some o | none => if H b = none then H' b else none) = some o := hb
    cases hz : w.Z b with
    | some u =>
      rw [hz] at hb
      rw [← Option.some.inj hb]
      exact e _ _ (h.ex _ _ hz)
    | none =>
      rw [hz] at hb
      dsimp only at hb
      split at hb
      · exact hb
      · cases hb
  · have q := h.cell k a c e1 e2
    obtain ⟨o, ho⟩ := q.there
    refine q.keep ⟨fun b o hb => by show (match w.Z b with | some o => some o | none => _) = _; rw [hb], List.prefix_refl _⟩ (fun z => ?_) ((e _ _ ho).trans ho.symm)
    show (match w.Z a with | some o => some o | none => if H a = none then H' a else none) = none
    rw [z]
    dsimp only
    rw [if_neg (by rw [ho]; simp)]
  · show (match w.Z b with | some o => some o | none => if H b = none then H' b else none) = some o
    cases hz : w.Z b with
    | some u =>
      rw [h.ex _ _ hz] at hb
      cases hb
    | none =>
      dsimp only
      rw [if_pos hb]
      exact ho
section
variable {c : Ct} {ρ : Env} {m : Store} {P : PD}
theorem rep_pairs {K : PySem.W.Frag} {w : Wd} {H' : Hp} : ∀ {ts : List Addr} {xs ys : List V} {ds es : List D}, xs.length = ys.length → Paired (fun (t : Addr) (q : V × V) => H' t = some (.tup [q.1, q.2])) ts (xs.zip ys) → (∀ t ∈ ts, ∀ o, H' t = some o → w.Z t = some o) → RepA K w xs ds → RepA K w ys es →
    RepA K w (ts.map V.ref) ((ds.zip es).map fun p => D.tup [p.1, p.2])
  | [], [], [], _, _, _, _, _, .nil, .nil => .nil
  | t :: ts, x :: xs, y :: ys, d :: ds, e :: es, hl, .cons h r, hz, .cons a as, .cons b bs => .cons (.tup (.inl (.inl (hz t List.mem_cons_self _ h))) (.cons a (.cons b .nil))) (rep_pairs (Nat.succ.inj hl) r (fun u hu => hz u (List.mem_cons_of_mem _ hu)) as bs)
  | [], _ :: _, _ :: _, _, _, _, h, _, _, _ => by cases h
  | _ :: _, [], [], _, _, _, h, _, _, _ => by cases h
  | _, [], _ :: _, _, _, h, _, _, _, _ => by cases h
  | _, _ :: _, [], _, _, h, _, _, _, _ => by cases h
theorem we_listZip {ta : TA} (h : WA c ta ρ m fun zs m1 => ∃ x y ds es, zs = [x, y] ∧ listD m1 x = some ds ∧ listD m1 y = some es ∧ ds.length = es.length ∧ ds.length ≤ 1000 ∧ P (.lst ((ds.zip es).map fun p => D.tup [p.1, p.2])) m1) : WE c (tListZip c.K ta) ρ m P := fun σ w H e s o Q q =>
  h σ w H e s o _ fun vs zs m1 w1 H1 l1 r1 s1 ⟨x, y, ds, es, ez, hx, hy, hl, h1000, p1⟩ => by
    subst ez
    cases r1 with
    | cons rx rr =>
      cases rr with
      | cons ry rr =>
        cases rr
        obtain ⟨a, xs, rfl, hH, rr1⟩ := s1.list rx hx
        obtain ⟨b, ys, rfl, hH2, rr2⟩ := s1.list ry hy
        refine ⟨a, b, xs, ys, rfl, .inl (.inl hH), .inl (.inl hH2), by rw [rr1.length, rr2.length]; exact hl, by rw [rr1.length]; exact h1000, fun H' p ts k1 k2 k3 k4 k5 => ?_⟩
        obtain ⟨w2, l2, s2, hz⟩ := s1.grow k1
        exact q _ _ _ _ _ (l1.trans l2) (.lst (hz p _ k2 k4) (rep_pairs (by rw [rr1.length, rr2.length]; exact hl) k5 (fun t ht o ho => hz t o (k3 t ht) ho) (rr1.mono l2) (rr2.mono l2))) s2 p1
end
end KR

/-! KZ3: enumerate(xs, start=k); data of any depth compared. -/
namespace KR
open PySem PySem.Spec PyProof.Rows L2 Evl
/-- the list at a as it stands at each turn, each item in a new pair with its number from k on -/
def IteK (K : PySem.W.Frag) (a : Addr) (k : Int) : It :=
  ⟨fun i H => ∃ (xs : List V) (x : V), SqL K H a xs ∧ xs[i]? = some x, fun i H v H' => ∃ T x, v = .ref T ∧ H T = none ∧ H' = upd H T (.tup [.int (k + (i : Int)), x]) ∧ ∀ xs, SqL K H a xs → xs[i]? = some x, fun i H => ∃ xs : List V, SqL K H a xs ∧ xs.length = i⟩
theorem turn_enumK {P : Program} {w : World} {K : PySem.W.Frag} {elts : List Expr} {kk : Nat} {tpos : Pos} (a e it : Addr) (k : Int) (hai : a ≠ it) (hae : a ≠ e) :
    Turn P w K (.Tuple elts kk tpos) (IteK K a k) [e, it] e (fun i h => (∃ old, IsEnum h e it (k + (i : Int)) old) ∧ h.IsListIter it a i ∧ e ≠ it) where
  mem := by simp
  obj := fun i h st b hb => by
    obtain ⟨⟨old, he⟩, ⟨o, ho, hc, hd⟩, _⟩ := st
    have e' : b = e ∨ b = it := by simpa using hb
    rcases e' with z | z
    · rw [z]; exact ⟨_, he, fun v q => nomatch q⟩
    · rw [z]; exact ⟨o, ho, fun v q => by rw [hd] at q; cases q⟩
  keep := fun i h h' st k => let ⟨⟨old, he⟩, hi, hne⟩ := st; ⟨⟨old, k e (by simp) _ he⟩, hi.at fun o q => k it (by simp) o q, hne⟩
  item := by
    intro X hP hw hK hc i pins s σ H E I hf st hg
    subst hP hw hK
    obtain ⟨⟨old, he⟩, hit, hne⟩ := st
    obtain ⟨xs, x, hq, hx⟩ := hg
    obtain ⟨its, rv, p, hz⟩ := I.list hq
    obtain ⟨u, hu, ru⟩ := rv.get hx
    have hel : e < s.heap.objs.size := Heap.lt_size he
    have hil : it < s.heap.objs.size := by obtain ⟨_, q, _⟩ := hit; exact Heap.lt_size q
    have hlt : i < its.toArray.size := by
      have := (List.getElem?_eq_some_iff.mp hu).1
      simpa using this
    refine wpAny_pyNext_enum_itemC (Draws.list (A := X.A.in1) (I.ok.hd hc) it a hai its.toArray) he ⟨hit, p.isList⟩ hlt hne (by simp [hne, Ne.symm hae]) fun x' h' tk hx' ho hst' hT hsz hk => ?_
    have exu : x' = u := by
      have : its[i]? = some x' := by simpa using hx'
      rw [hu] at this
      exact (Option.some.inj this).symm
    subst exu
    have hit' := hst'.1
    refine ⟨_, rfl, wpAny_letOwnedTupleGo_enum (s := { s with heap := h', toks := tk + 1 }) ho fun h'' he' sb => ?_⟩
    have hT2 : h''.get? s.heap.objs.size = some { cls := .type "tuple", data := .seq #[.int (k + (i : Int)) tk, x'] } := (sb.2 _ (Nat.ne_of_gt hel)).trans hT
    have new : ObjOk X.prog X.w (upd H s.heap.objs.size (.tup [.int (k + (i : Int)), x])) h'' s.heap.objs.size (.tup [.int (k + (i : Int)), x]) :=
      ⟨by show 2 ≤ sizeLine; decide, [.int (k + (i : Int)) tk, x'], .cons ⟨_, rfl⟩ (.cons ru .nil), ⟨_, hT2, rfl, _, rfl⟩⟩
    have I1 : Inv X pins σ (upd H s.heap.objs.size (.tup [.int (k + (i : Int)), x])) { s with heap := h'', toks := tk + 1 } :=
      I.turnedNew (ch := [e, it]) (fun b ob hb q => (sb.2 b (fun z => hb (by simp [z]))).trans (hk b ob (fun z => hb (by simp [z])) (fun z => hb (by simp [z])) q)) hf (Nat.le_refl _) new
    refine ⟨.ref s.heap.objs.size, _, I1, rfl, ⟨_, x, rfl, I.hok.fresh (Nat.le_refl _), rfl, fun ys hy => by rw [I.list_inj hy hq]; exact hx⟩, ⟨⟨x', ?_⟩, hit'.at fun o q => (sb.2 it (Ne.symm hne)).trans q, hne⟩, fun b hb => ?_⟩
    · have e1 : k + ((i + 1 : Nat) : Int) = k + (i : Int) + 1 := by omega
      rw [e1]; exact he'
    · have hb' : b < s.heap.objs.size := by
        have e' : b = e ∨ b = it := by simpa using hb
        rcases e' with z | z
        · rw [z]; exact hel
        · rw [z]; exact hil
      rw [upd_ne (Nat.ne_of_lt hb')]
      exact (hf b hb).1
  done := by
    intro X hP hw hK hc i pins s σ H E I hf st hg
    subst hP hw hK
    obtain ⟨⟨old, he⟩, hit, hne⟩ := st
    obtain ⟨xs, hq, hx⟩ := hg
    obtain ⟨its, rv, p, hz⟩ := I.list hq
    obtain ⟨f0, f1, f2, f3, f4, f5⟩ := hf it (by simp)
    have hl := rv.length
    subst hx
    refine wpAny_pyNext_enum_endD (Draws.list (A := X.A.in1) (I.ok.hd hc) it a hai its.toArray) he ⟨by rw [List.size_toArray, ← hl]; exact hit, p.isList⟩ fun h' eb => ⟨rfl, I.turned (t' := s.toks) (fun b o hb q => eb b o hb q) f0 f1 f3 f4 f5⟩
  self := fun A i s Q E st h => let ⟨⟨_, he⟩, _⟩ := st; wpAny_pyIter_enum he h
theorem keeper_type {M : Model} (T : String) (h : Heap) (_ : True) : ∃ k, (k = Keeper.frame ∨ k = Keeper.machine ∨ k = Keeper.boundFrame) ∧ PySem.W.Looks M h (keeperOf (.type T)) k := ⟨_, .inr (.inl rfl), PySem.W.Looks.of_pure rfl⟩
def iEnumK (K : PySem.W.Frag) (ta tk : TA) : TI := fun σ H R => ta σ H fun vs H1 => tk σ H1 fun ks H2 => ∃ a xs k, vs = [.ref a] ∧ ks = [.int k] ∧ SqL K H2 a xs ∧ (-(2 ^ 62) ≤ k ∧ k < 2 ^ 62) ∧ R (IteK K a k) H2
theorem pi_enumK' {X : Cx} {e ke : Expr} {ta tk : TA} {p pos tpos kp : Pos} {elts : List Expr} {kk : Nat} (hg : Gl X "enumerate") (hm : X.mg "enumerate" = none) (ha : PA X [e] ta) (hkw : PK X [⟨some "start", ke, kp⟩] tk)
    (hs : starEach [e] X.env = (false, eval e X.env) :: starEach [] X.env := by rfl) (hall : (backToKw pos (keywordEach [⟨some "start", ke, kp⟩] X.env)).all (·.1.isSome) = true := by rfl) (hks : (backToKw pos (keywordEach [⟨some "start", ke, kp⟩] X.env)).filterMap (·.1) = (["start"] : List Str) := by rfl)
    (hpl : ((backTo pos (starEach [e] X.env)).any (·.1) || (backToKw pos (keywordEach [⟨some "start", ke, kp⟩] X.env)).any (·.1.isNone)) = false := by rfl) :
    PI X (.Tuple elts kk tpos) (.Call (.Name "enumerate" p) [e] [⟨some "start", ke, kp⟩] pos) (iEnumK X.K ta tk) := by
  refine ⟨fun pins s σ H R I h => ?_⟩
  refine wpAny_Call_Name_kw (ld_blt I hg hm boot_enumerate ?_)
  refine PySem.W.callWith_of hpl (P := fun _ => True) (fun h ht => keeper_type _ h ht) (PyProof.Rows.evalArgs_kw2 hall (thn (ha.run pos pins s σ H _ I h) fun us s1 ⟨vs, H1, I1, r1, q1⟩ => ?_) hs)
  refine thn (hkw.run pos pins s1 σ H1 _ I1 q1) fun ws s2 ⟨zs, H2, I2, rz, a, xs, k, ex, ez, hq, hk, q⟩ => ⟨trivial, ?_⟩
  subst ex
  subst ez
  rw [hks]
  cases r1 with
  | cons r rr =>
    cases rr
    cases r
    cases rz with
    | cons r2 rr2 =>
      cases rr2
      obtain ⟨tk2, rfl⟩ := r2
      obtain ⟨its, rv, p', hz⟩ := I2.list hq
      have la : a < s2.heap.objs.size := p'.lt
      refine enum_begins_start (begins_list a its.toArray) p'.isList (by omega) (by omega) fun h' he hit hsz hkk => wpAny_pyIter_enum he ?_
      have I3 : Inv X pins σ H2 { s2 with heap := h' } := I2.kept (t' := s2.toks) hkk
      refine ⟨s2.heap.objs.size + 1, [s2.heap.objs.size + 1, s2.heap.objs.size], _, _, H2, rfl, I3, turn_enumK a (s2.heap.objs.size + 1) s2.heap.objs.size k (Nat.ne_of_lt la) (Nat.ne_of_lt (Nat.lt_succ_of_lt la)), ⟨⟨.none, by rw [show k + ((0 : Nat) : Int) = k by omega]; exact he⟩, ⟨_, hit, rfl, rfl⟩, Nat.succ_ne_self _⟩, fun b hb => ?_, q⟩
      have e' : b = s2.heap.objs.size + 1 ∨ b = s2.heap.objs.size := by simpa using hb
      have hle : s2.heap.objs.size ≤ b := by
        rcases e' with z | z
        · rw [z]; exact Nat.le_add_right _ _
        · rw [z]; exact Nat.le_refl _
      exact I2.fpOk hle (I2.hok.fresh hle)
theorem pi_enumKK {X : Cx} {K : PySem.W.Frag} {tg it : Expr} {tx tk : TA} (hp : PI X tg it (iEnumK X.K tx tk)) (h : X.K = K := by rfl) : PI X tg it (iEnumK K tx tk) := h ▸ hp
theorem pe_listZipK {X : Cx} {K : PySem.W.Frag} {e : Expr} {ta : TA} (hp : PE X e (tListZip X.K ta)) (h : X.K = K := by rfl) : PE X e (tListZip K ta) := h ▸ hp
section
variable {c : Ct} {ρ : Env} {m : Store} {P : PD}
theorem wi_enumK {tx tk : TA} {P : Nat → (Nat → D) → Store → Prop} (h : WA c tx ρ m fun xs m1 => ∃ ds, xs = [.lst ds] ∧ WA c tk ρ m1 fun ks m2 => ∃ k, ks = [.int k] ∧ (-(2 ^ 62) ≤ k ∧ k < 2 ^ 62) ∧ P ds.length (fun i => .tup [.int (k + (i : Int)), ds.getD i .non]) m2) : WI c (iEnumK c.K tx tk) ρ m P := fun σ w H e s o R k =>
  h σ w H e s o _ fun v d m1 w1 H1 l1 r1 s1 ⟨ds, ed, p1⟩ => by
    subst ed
    cases r1 with
    | cons r1 r2 =>
      cases r2
      cases r1 with
      | lst a b =>
        refine p1 σ w1 H1 (e.mono l1) s1 (o.mono l1) _ fun v2 d2 m2 w2 H2 l2 r2 s2 ⟨k0, ed2, hk0, p2⟩ => ?_
        subst ed2
        cases r2 with
        | cons r3 r4 =>
          cases r4
          cases r3
          refine ⟨_, _, _, rfl, rfl, .inl (.inl (s2.ex _ _ (l2.ex _ _ a))), hk0, k _ _ _ _ _ _ (l1.trans l2) s2 ⟨fun i w' m' H' hi l s => ?_, fun w' m' H' l s => ⟨_, .inl (.inl (s.ex _ _ (l.ex _ _ (l2.ex _ _ a)))), b.length⟩⟩ p2⟩
          have sq : SqL c.K H' _ _ := .inl (.inl (s.ex _ _ (l.ex _ _ (l2.ex _ _ a))))
          obtain ⟨v, hv, rv⟩ := b.get (i := i) (d := ds.getD i .non) (by rw [List.getD_eq_getElem?_getD, List.getElem?_eq_getElem hi]; rfl)
          refine ⟨⟨_, v, sq, hv⟩, fun x H2 ⟨T, x0, ex, hT, eH, hx⟩ => ?_⟩
          subst eH
          subst ex
          have := hx _ sq
          rw [hv] at this
          obtain ⟨l3, s3⟩ := s.new (o := .tup [.int (k0 + (i : Int)), x0]) hT
          refine ⟨_, l3, s3, .tup (.inl (.inl (by show (upd w'.Z T _) T = _; exact upd_same))) (.cons (.int _) (.cons ?_ .nil))⟩
          have eV := Option.some.inj this
          subst eV
          exact rv.mono ((l2.trans l).trans l3)
end
/-! ### data as they are compared -/
mutual
inductive Py (m : Store) : Nat → D → PyData → Prop
  | non (n : Nat) : Py m n .non .none
  | bl (n : Nat) (b : Bool) : Py m n (.bl b) (.bool b)
  | int (n : Nat) (i : Int) : Py m n (.int i) (.int i)
  | str (n : Nat) (x : Str) (h : PyData.canLay0 (.str x) = true) : Py m n (.str x) (.str x)
  | tup {n : Nat} {ds : List D} {es : List PyData} : PyA m n ds es → Py m (n + 1) (.tup ds) (.tuple es)
  | lst {n : Nat} {ds : List D} {es : List PyData} : PyA m n ds es → Py m (n + 1) (.lst ds) (.list es)
  | hd {n k : Nat} {ds : List D} {es : List PyData} : m[k]? = some (.lst ds) → PyA m n ds es → Py m (n + 1) (.hd k) (.list es)
inductive PyA (m : Store) : Nat → List D → List PyData → Prop
  | nil (n : Nat) : PyA m n [] []
  | cons {n : Nat} {d : D} {ds : List D} {e : PyData} {es : List PyData} : Py m n d e → PyA m n ds es → PyA m n (d :: ds) (e :: es)
end
section
variable {K : PySem.W.Frag} {w : Wd} {m : Store} {H : Hp}
mutual
theorem Py.dp (s : StOk K w m H) : ∀ {n : Nat} {v : V} {d : D} {e : PyData}, Py m n d e → Rep K w v d → Dp K H v e
  | _, _, _, _, .non _, .non => .non
  | _, _, _, _, .bl _ b, .bl _ => .bl b
  | _, _, _, _, .int _ i, .int _ => .int i
  | _, _, _, _, .str _ x _, .str _ => .str x
  | _, _, _, _, .tup h, .tup a r => .tup (ex_t s.ex a) (PyA.dp s h r)
  | _, _, _, _, .lst h, .lst a r => .lst (.inl (.inl (s.ex _ _ a))) (PyA.dp s h r)
  | _, _, _, _, .hd hm h, .hd a => by
    obtain ⟨_, xs, hx, rr⟩ := s.cell _ _ _ a hm
    exact .lst (.inl (.inl hx)) (PyA.dp s h rr)
theorem PyA.dp (s : StOk K w m H) : ∀ {n : Nat} {vs : List V} {ds : List D} {es : List PyData}, PyA m n ds es → RepA K w vs ds → DpAll K H vs es
  | _, _, _, _, .nil _, .nil => .nil
  | _, _, _, _, .cons a b, .cons r t => .cons (Py.dp s a r) (PyA.dp s b t)
end
mutual
theorem Py.lay : ∀ {n : Nat} {d : D} {e : PyData}, Py m n d e → PyData.canLay0 e = true ∧ PyData.depth e ≤ n
  | n, _, _, .non _ => ⟨rfl, Nat.zero_le _⟩
  | n, _, _, .bl _ b => ⟨rfl, Nat.zero_le _⟩
  | n, _, _, .int _ i => ⟨rfl, Nat.zero_le _⟩
  | n, _, _, .str _ x h => ⟨h, Nat.zero_le _⟩
  | _, _, _, .tup h => by
    obtain ⟨a, b⟩ := PyA.lay h
    exact ⟨a, by show PyData.depthAll _ + 1 ≤ _; omega⟩
  | _, _, _, .lst h => by
    obtain ⟨a, b⟩ := PyA.lay h
    exact ⟨a, by show PyData.depthAll _ + 1 ≤ _; omega⟩
  | _, _, _, .hd _ h => by
    obtain ⟨a, b⟩ := PyA.lay h
    exact ⟨a, by show PyData.depthAll _ + 1 ≤ _; omega⟩
theorem PyA.lay : ∀ {n : Nat} {ds : List D} {es : List PyData}, PyA m n ds es → PyData.canLayAll0 es = true ∧ PyData.depthAll es ≤ n
  | _, _, _, .nil _ => ⟨rfl, Nat.zero_le _⟩
  | _, _, _, .cons a b => by
    obtain ⟨a1, a2⟩ := Py.lay a
    obtain ⟨b1, b2⟩ := PyA.lay b
    refine ⟨?_, ?_⟩
    · show (_ && _) = true
      rw [a1, b1]
      rfl
    · show max _ _ ≤ _
      omega
end
theorem Py.shaped {n : Nat} {d : D} {e : PyData} (h : Py m n d e) (hn : n ≤ 60) : SeqAt.shaped e = true := by
  obtain ⟨a, b⟩ := h.lay
  show (PyData.canLay0 e && decide (PyData.depth e ≤ 64)) = true
  rw [a, decide_eq_true (by omega)]
  rfl
theorem PyA.map {n : Nat} {α : Type} {f : α → D} {g : α → PyData} : ∀ {l : List α}, (∀ a ∈ l, Py m n (f a) (g a)) → PyA m n (l.map f) (l.map g)
  | [], _ => .nil n
  | a :: l, h => .cons (h a List.mem_cons_self) (PyA.map fun b hb => h b (List.mem_cons_of_mem _ hb))
end
section
variable {c : Ct} {ρ : Env} {m : Store} {P : PD}
theorem wr_eqD {n k : Nat} {x y : D} {a b : PyData} (hx : Py m n x a) (hy : Py m k y b) (hn : n ≤ 60) (hk : k ≤ 60) (p : P (.bl (PyData.eqv a b)) m) : WR c (rEqD c.K) x y m P := fun vx vy w H rx ry s o Q q =>
  ⟨a, b, hx.dp s rx, hy.dp s ry, hx.shaped hn, hy.shaped hk, q _ _ _ _ _ (.refl w) (.bl _) s p⟩
theorem wr_neD {n k : Nat} {x y : D} {a b : PyData} (hx : Py m n x a) (hy : Py m k y b) (hn : n ≤ 60) (hk : k ≤ 60) (p : P (.bl (!PyData.eqv a b)) m) : WR c (rNeD c.K) x y m P := fun vx vy w H rx ry s o Q q =>
  ⟨a, b, hx.dp s rx, hy.dp s ry, hx.shaped hn, hy.shaped hk, q _ _ _ _ _ (.refl w) (.bl _) s p⟩
theorem wr_eqS {n k : Nat} {x y : D} {a : PyData} (hx : Py m n x a) (hy : Py m k y a) (p : P (.bl true) m) (hn : n ≤ 60 := by decide) (hk : k ≤ 60 := by decide) : WR c (rEqD c.K) x y m P := wr_eqD hx hy hn hk (by rw [SeqAt.eqv_refl a hx.lay.1]; exact p)
theorem wr_neS {n k : Nat} {x y : D} {a : PyData} (hx : Py m n x a) (hy : Py m k y a) (p : P (.bl false) m) (hn : n ≤ 60 := by decide) (hk : k ≤ 60 := by decide) : WR c (rNeD c.K) x y m P := wr_neD hx hy hn hk (by rw [SeqAt.eqv_refl a hx.lay.1]; exact p)
theorem wr_inDp {n k : Nat} {x y : D} {a : PyData} {bs : List PyData} (hx : Py m n x a) (hy : Py m k y (.list bs)) (hn : n ≤ 60) (hk : k ≤ 60) (p : P (.bl (bs.any fun z => PyData.eqv z a)) m) : WR c (rInD c.K) x y m P := fun vx vy w H rx ry s o Q q =>
  ⟨a, bs, hx.dp s rx, hy.dp s ry, hx.shaped hn, hy.shaped hk, q _ _ _ _ _ (.refl w) (.bl _) s p⟩
theorem wr_notInDp {n k : Nat} {x y : D} {a : PyData} {bs : List PyData} (hx : Py m n x a) (hy : Py m k y (.list bs)) (hn : n ≤ 60) (hk : k ≤ 60) (p : P (.bl (!bs.any fun z => PyData.eqv z a)) m) : WR c (rNotInD c.K) x y m P := fun vx vy w H rx ry s o Q q =>
  ⟨a, bs, hx.dp s rx, hy.dp s ry, hx.shaped hn, hy.shaped hk, q _ _ _ _ _ (.refl w) (.bl _) s p⟩
end
section
variable {X : Cx} {K : PySem.W.Frag}
theorem op_inDK (hu : X.A.units + 65 < cLine) (h : X.K = K := by rfl) : OpR X (compareOp .In) (rInD K) := h ▸ op_inD hu
theorem op_notInDK (hu : X.A.units + 65 < cLine) (h : X.K = K := by rfl) : OpR X (compareOp .NotIn) (rNotInD K) := h ▸ op_notInD hu
end
end KR

/-! KZ4: more over the machine: op=, targets of a comprehension in one another, loops that forget. -/
namespace L2
open PySem
theorem Room.u65 {k : Nat} {A : Around} (r : Room k A) : A.units + 65 < cLine := by have := r.un; omega
end L2
namespace KR
open PySem PySem.Spec PyProof.Rows L2 Evl KM
section
variable {c : Ct} {ρ : Env} {m : Store} {P : PD} {B : Ed} {ta te : TE} {t u : TS} {g : TG} {gs : TGs} {r : R2}
theorem ws_aug {i : Nat} {x : D} (hi : ρ[i]? = some (some x)) (h : WE c te ρ m fun y m1 => WR c r x y m1 fun z m2 => B.nx (ρ.set i (some z)) m2) : WS c (tAug i te r) ρ m B := fun σ w H e s o D k => by
  obtain ⟨v, h1, rv⟩ := e.at_ i x hi
  refine ⟨v, h1, h σ w H e s o _ fun vy y m1 w1 H1 l1 r1 s1 p1 => p1 v vy w1 H1 (rv.mono l1) r1 s1 (o.mono l1) _ fun vz z m2 w2 H2 l2 r2 s2 p2 => ?_⟩
  exact k.nx _ _ _ _ _ (l1.trans l2) ((e.mono (l1.trans l2)).set i r2) s2 p2
theorem wr_ext {k : Nat} {xs ys : List D} {y : D} (hm : m[k]? = some (.lst xs)) (hy : listD m y = some ys) (hz : xs.length + ys.length ≤ 10000000) (p : P (.hd k) (m.set k (.lst (xs ++ ys)))) : WR c rExt2 (.hd k) y m P := fun vx vy w H rx ry s o Q q => by
  cases rx with
  | hd ha =>
    obtain ⟨z, us, hx, rr⟩ := s.cell _ _ _ ha hm
    obtain ⟨b, zs, rfl, hb, r3⟩ := s.list ry hy
    have s2 : StOk c.K w (m.set k (.lst (xs ++ ys))) (upd H _ (.lst (us ++ zs))) := s.change ha z (show CellR c.K w _ _ (.lst (xs ++ ys)) from ⟨z, _, upd_same, rr.append r3⟩)
    exact ⟨_, b, us, zs, rfl, rfl, hx, hb, by rw [rr.length, r3.length]; exact Nat.le_trans hz (by decide), q _ _ _ _ _ (.refl w) (.hd ha) s2 p⟩
/-! ### targets of a comprehension -/
def WGsown (c : Ct) (g : TGs) (vs : List Nat) (xs : List D) (ρ : Env) (m : Store) (P : Env → Store → Prop) : Prop :=
  ∀ us σ w H, RepA c.K w us xs → EnvR c.K w σ ρ → StOk c.K w m H → c.ok w → ∀ Q : L2.St → Hp → Prop, (∀ (σ' : L2.St) (ρ' : Env) (m' : Store) (w' : Wd) (H' : Hp), w.le w' → EnvR c.K w' σ' ρ' → StOk c.K w' m' H' → L2.wipe σ' vs = L2.wipe σ vs → P ρ' m' → Q σ' H') → g us σ H Q
theorem wgos_nil {vs : List Nat} {P : Env → Store → Prop} (p : P ρ m) : WGsown c gNil vs [] ρ m P := fun us σ w H r e s o Q q => by
  cases r
  exact ⟨rfl, q _ _ _ _ _ (.refl w) e s rfl p⟩
theorem wgos_cons {vs : List Nat} {x : D} {xs : List D} {P : Env → Store → Prop} (h : WGown c g vs x ρ m fun ρ1 m1 => WGsown c gs vs xs ρ1 m1 P) : WGsown c (gCons g gs) vs (x :: xs) ρ m P := fun us σ w H r e s o Q q => by
  cases r with
  | cons r1 r2 =>
    exact ⟨_, _, rfl, h _ σ w H r1 e s o _ fun σ1 ρ1 m1 w1 H1 l1 e1 s1 hw p1 => p1 _ σ1 w1 H1 (r2.mono l1) e1 s1 (o.mono l1) Q fun σ2 ρ2 m2 w2 H2 l2 e2 s2 hw2 p2 => q σ2 ρ2 m2 w2 H2 (l1.trans l2) e2 s2 (hw2.trans hw) p2⟩
theorem wgo_tupG {n : Nat} {vs : List Nat} {xs : List D} {P : Env → Store → Prop} (hn : xs.length = n) (h : WGsown c gs vs xs ρ m P) : WGown c (gTup c.K n gs) vs (.tup xs) ρ m P := fun v σ w H r e s o Q q => by
  cases r with
  | tup a b => exact ⟨_, _, rfl, ex_t s.ex a, by rw [b.length]; exact hn, h _ σ w H b e s o Q q⟩
/-! ### loops that leave what stood ahead of them as it is, but for their own names, and perhaps cells more -/
theorem sub_refl (ρ : Env) : Sub ρ ρ := ⟨rfl, fun _ _ h => h⟩
theorem sub_tr {a b d : Env} (h : Sub a b) (k : Sub b d) : Sub a d := ⟨h.1.trans k.1, fun i x e => k.2 i x (h.2 i x e)⟩
theorem wipe_sub (ρ : Env) : ∀ vs : List Nat, Sub (wipeD ρ vs) ρ
  | [] => sub_refl ρ
  | v :: vs => by
    have ih := wipe_sub ρ vs
    refine ⟨by show ((wipeD ρ vs).set v none).length = _; rw [List.length_set]; exact ih.1, fun i d e => ?_⟩
    have e' : ((wipeD ρ vs).set v none)[i]? = some (some d) := e
    by_cases hi : i = v
    · subst hi
      rw [List.getElem?_set_self (by
        have := (List.getElem?_eq_some_iff.mp e').1
        rwa [List.length_set] at this)] at e'
      cases e'
    · rw [List.getElem?_set_ne (Ne.symm hi)] at e'
      exact ih.2 i d e'
/-- a loop by what it keeps: E of the names, the cells M ahead of it -/
theorem ws_forK {wi : TI} (E : Env) (M : Store) (h : WI c wi ρ m fun n y m1 => Sub E ρ ∧ (∃ j, m1 = M ++ j) ∧
    (∀ i ρ' j, i < n → Sub E ρ' → WG c g (y i) ρ' (M ++ j) fun ρ2 m2 => WS c t ρ2 m2 { nx := fun ρ3 m3 => Sub E ρ3 ∧ ∃ j, m3 = M ++ j, ct := fun ρ3 m3 => Sub E ρ3 ∧ ∃ j, m3 = M ++ j, bk := B.nx, rt := B.rt }) ∧ ∀ ρ' j, Sub E ρ' → B.nx ρ' (M ++ j)) : WS c (tFor wi g t) ρ m B :=
  ws_for (fun σ w H e s o R k => h σ w H e s o R fun J n y m1 w1 H1 l1 s1 it ⟨hs, ⟨j, hj⟩, step, fin⟩ => k J n y m1 w1 H1 l1 s1 it ⟨fun _ ρ' m' => Sub E ρ' ∧ ∃ j, m' = M ++ j, ⟨hs, j, hj⟩, fun i ρ' m' hi ⟨hs', j', ej⟩ => by subst ej; exact step i ρ' j' hi hs', fun ρ' m' ⟨hs', j', ej⟩ => by subst ej; exact fin ρ' j' hs'⟩)
end
end KR

/-! KZ5: a loop over a range from a start; != []. -/
namespace KR
open PySem PySem.Spec PyProof.Rows L2 Evl
section
variable {c : Ct} {ρ : Env} {m : Store} {P : PD} {B : Ed} {ta tb te : TE} {tc : TT} {t u : TS} {g : TG}
theorem ws_forN2 {tx : TA} (h : WA c tx ρ m fun xs m1 => ∃ (lo : Int) (n : Nat), xs = [.int lo, .int (lo + n)] ∧ (0 ≤ lo ∧ lo ≤ 1000 ∧ n ≤ 1000) ∧ ∃ Iv : Nat → Env → Store → Prop, Iv 0 ρ m1 ∧
    (∀ i ρ' m', i < n → Iv i ρ' m' → WG c g (.int (lo + i)) ρ' m' fun ρ2 m2 => WS c t ρ2 m2 { nx := Iv (i + 1), ct := Iv (i + 1), bk := B.nx, rt := B.rt }) ∧ ∀ ρ' m', Iv n ρ' m' → B.nx ρ' m') :
    WS c (tFor (iRng2 tx) g t) ρ m B := ws_for (wi_rng2 fun σ w H e s o Q q => h σ w H e s o Q fun v d m' w' H' l' r' s' ⟨lo, n, ex, hn, p⟩ => q v d m' w' H' l' r' s' ⟨lo, lo + n, ex, by omega, by
      rw [show (lo + (n : Int) - lo).toNat = n by omega]
      exact p⟩)
theorem wr_neNil {x : D} {ds : List D} {us : List V} (hx : listD m x = some ds) (hu : ds.map D.flat = us.map some) (hp : ∀ u ∈ us, Plain u) (p : P (.bl (!ds.isEmpty)) m) : WR c (rNeD c.K) x (.lst []) m P := fun vx vy w H rx ry s o Q q => by
  obtain ⟨a, xs, rfl, hH, rr⟩ := s.list rx hx
  have e := rr.flat hu
  subst e
  obtain ⟨b, ys, rfl, hH2, rr2⟩ := s.list (d := .lst []) (ds := []) ry rfl
  have e2 : ys = [] := by cases rr2; rfl
  subst e2
  refine ⟨_, .list ([].map pOf), .lst (.inl (.inl hH)) (dp_of hp), .lst (.inl (.inl hH2)) .nil, shaped_of xs, shaped_of [], ?_⟩
  have e3 : PyData.eqv (.list (xs.map pOf)) (.list ([].map pOf)) = ds.isEmpty := by
    have := rr.length
    cases xs with
    | nil => cases ds with
      | nil => rfl
      | cons _ _ => simp at this
    | cons _ _ => cases ds with
      | nil => simp at this
      | cons _ _ => rfl
  rw [e3]
  exact q _ _ _ _ _ (.refl w) (.bl _) s p
end
end KR

/-! KL: rules of this proof's own: an own exception made of any one argument, a base's __init__ found on a class of the text, how often a flat item stands in a list. -/
namespace KR
open PySem PySem.Spec PyProof.Rows L2 Evl
section
variable {X : Cx}
/-- Own(..), an own class without an __init__ -/
def tMkA (C : Addr) (ta : TA) : L2.St → Hp → XK → Prop := fun σ H Q => ta σ H fun ws H1 => ws.length ≤ 1000 ∧ Q (.ref C) none H1
theorem pmk_args {C : Addr} {bmB : List Value} {B newId initId : String} {x : Str} {e : Expr} {es : List Expr} {ta : TA} {p pos : Pos} (F : ExcBaseFacts B newId initId bmB) (ex : PySem.W.excIn X.K C bmB newId = true) (gC : X.mg x = some (.ref C)) (kC : PySem.W.keepIn X.K (.ref C) = true)
    (rC : Raises X (.ref C)) (hg : Gl X x) (args : PA X (e :: es) ta) (ndb : (x == ("__debug__" : Str)) = false := by decide) (hst : starEach (e :: es) X.env = (false, eval e X.env) :: starEach es X.env := by rfl) (plain : (backTo pos (starEach es X.env)).any (·.1) = false := by rfl) :
    PMk X (.Call (.Name x p) (e :: es) [] pos) (tMkA C ta) := by
  intro pins s σ H Q I h
  refine wpAny_Call_Name_kw (ld_glob I hg gC ?_ ndb)
  refine PySem.W.callWith_K (h₀ := X.base) I.ok.mod.kin kC (thn (args.run pos pins s σ H _ I h) fun us s2 told => ?_) hst plain
  obtain ⟨ws, H2, J, rr, few, q⟩ := told
  refine ⟨J.kIn, ?_⟩
  show wpAny _ _ (call (.ref C) us) _ _ _
  obtain ⟨bm, N, nm, qn, bs, hdct, sn, sub, ab, col, dd, k0, k1, k2, k3, k5, mN, oC, nN, noI, tl⟩ := exc_obj J.kIn ex
  refine wpAny_call_exc_subT F tl oC nN noI (fun h2 a made => ?_) (by rw [sizeLine_eq, ← rr.length]; omega)
  exact mk_of J made rC q (J.hok.gone made.new)
/-- Base.__init__(self, ..), Base a class of the text that has ValueError's own -/
theorem pe_baseinit {x : Str} {B : Addr} {mc : Value} {e : Expr} {es : List Expr} {ta : TA} {p1 p2 pos : Pos} {pl : Sem Bool} (hg : Gl X x) (gB : X.mg x = some (.ref B))
    (sp : PySem.W.specialIn X.K (.ref B) "__getattribute__" = some (some (.builtin "type.__getattribute__"))) (rd : PySem.W.readsIn X.K B mc = true)
    (vV : PySem.W.findCls X.K (.ref B) mc "__init__" = some (.val (.builtin "ValueError.__init__"))) (args : PA X (e :: es) ta) (ndb : (x == ("__debug__" : Str)) = false := by decide)
    (hc : eval (.Call (.Attribute (.Name x p1) "__init__" p2) (e :: es) [] pos) X.env = (do
      let ov ← eval (.Name x p1) X.env
      standAt p2.atName
      let (f, first) ← holding [ov] (getMethod ov "__init__" pl)
      callWith pos f first (backTo pos (starEach (e :: es) X.env)) (backToKw pos (keywordEach [] X.env))) := by rfl)
    (hst : starEach (e :: es) X.env = (false, eval e X.env) :: starEach es X.env := by rfl) (plain : (backTo pos (starEach es X.env)).any (·.1) = false := by rfl) :
    PE X (.Call (.Attribute (.Name x p1) "__init__" p2) (e :: es) [] pos) (tVeI X.K ta) := by
  refine ⟨fun pins s σ H Q I h => ?_⟩
  refine PySem.W.methodCall_KW (ld_glob I hg gB ?_ ndb) hc
  refine PySem.W.method_cls I.kIn sp (PySem.W.cls_value I.kIn rd vV (by decide +kernel) ?_)
  refine PyProof.Rows.callWith_method1 (thn (args.run pos pins _ σ H _ (I.tok _) h) fun us s2 told => ?_) hst plain
  obtain ⟨vs, H2, J, rr, a, C, ws, ev, few, oc, ea, q⟩ := told
  subst ev
  cases rr with
  | @cons _ u0 _ ur ra rw' =>
    obtain rfl : u0 = Value.ref a := ra
    refine oinit_ok oc J ea (by rw [← rw'.length, sizeLine_eq]; omega) fun s3 J3 => ?_
    exact ⟨.non, H2, J3, rfl, q⟩
/-- xs.count(y), flat items -/
def rCountF (K : PySem.W.Frag) : V → List V → Hp → VK → Prop := fun x xs H Q => ∃ (a : Addr) (ys : List V) (y : V), x = .ref a ∧ xs = [y] ∧ SqL K H a ys ∧ flatV y = true ∧ ys.all flatV = true ∧ Q (.int ((ys.countP fun z => eqV z y : Nat) : Int)) H
theorem count_flat {y : V} : ∀ {ys : List V} {us : List Value}, Vals ys us → ys.all flatV = true → us.countP (eqU y) = ys.countP fun z => eqV z y
  | _, _, .nil, _ => rfl
  | z :: ys, u :: us, .cons r t, f => by
    rw [List.all_cons, Bool.and_eq_true] at f
    rw [List.countP_cons, List.countP_cons, count_flat t f.2, eqU_of r f.1]
theorem mt_countF : MtR X "list.count" (rCountF X.K) := by
  intro pins s σ H x xs v us Q I rx rxs h
  obtain ⟨a, ys, y, ex, exs, seq, fy, fys, q⟩ := h
  subst ex
  subst exs
  cases rx
  obtain ⟨u, eu, ru⟩ := rxs.one
  subst eu
  obtain ⟨its, rv, ⟨⟨cls, dd, data, sl⟩, n, ho, hcl, hdn, hda⟩, hlen⟩ := I.list seq
  simp only at hcl hda
  subst hcl hda
  refine call_meets PySem.F.slot_list_count ⟨_, ho, rfl⟩ PySem.F.entry_list_count (PySem.F.args_list_count_2 _ _)
    (SeqAt.list_countAt a its.toArray n dd sl u (eqU y)) ⟨ho, fun z hz => mem_eqAt ru fy rv fys z (by simpa using hz), ?_⟩
  refine ⟨.int ((ys.countP fun z => eqV z y : Nat) : Int), H, I.tok _, ⟨s.toks, ?_⟩, q⟩
  show Value.int ((its.toArray.toList.countP (eqU y) : Nat) : Int) s.toks = _
  rw [show its.toArray.toList = its by simp, count_flat rv fys]
end
end KR

/-! KL2: lambdas with names of their own: how one is made, and what its call comes to. -/
namespace KR
open PySem PySem.Spec PyProof.Rows L2 Evl LamX
/-- the table at P holds code objects of the name q alone -/
structure TabOk (H : Hp) (q : Str) (ps : Array Value) : Prop where
  tri : TriplesOk ps.toList
  all : ∀ (pos : Pos) (cv : Value), codeAmong pos ps.toList = some cv → ∃ c, cv = .ref c ∧ H c = some (CodeO c q)
/-- the heap behind the making of a lambda whose code object stands at c -/
inductive Made (H : Hp) (P : Addr) (q : Str) (ps : Array Value) : Addr → Hp → Prop
  | old {c : Addr} {pos : Pos} : H c = some (CodeO c q) → codeAmong pos ps.toList = some (.ref c) → Made H P q ps c H
  | new {c : Addr} {more : Array Value} : H c = none → TriplesOk (ps ++ more).toList → (∀ (pos : Pos) (cv : Value), codeAmong pos (ps ++ more).toList = some cv → codeAmong pos ps.toList = some cv ∨ cv = .ref c) → Made H P q ps c (upd (upd H P (.tbl (ps ++ more))) c (CodeO c q))
theorem Made.code {H : Hp} {P : Addr} {q : Str} {ps : Array Value} {c : Addr} {H1 : Hp} (m : Made H P q ps c H1) : H1 c = some (CodeO c q) := by
  cases m with
  | old h _ => exact h
  | new h t a => exact upd_same
section
variable {X : Cx} {pins : List (Addr × Obj)} {σ : L2.St} {H : Hp} {s : Shared}
theorem fresh_frame (I : Inv X pins σ H s) {f : Addr} (hf : s.heap.objs.size ≤ f) : f ∉ frs X.stack := fun z => by
  rcases List.mem_cons.mp (I.stkSub _ z) with e | e
  · have lo := I.lt
    rw [← e] at lo
    exact absurd hf (Nat.not_le_of_lt lo)
  · exact I.nofs hf e
abbrev lamO (q : Str) (params : Arguments) (body : Expr) (scope : Scope) (cl : List (Str × Addr)) (dV doc pm : Value) (c : Addr) (ctv : Value) : Obj := PySem.W.kdv_obj "<lambda>" q params (.expr body) scope cl dV doc pm c ctv
theorem lam_tail {ps : Array Value} {c P : Addr} {dV : Value} {params : Arguments} {body : Expr} {scope : Scope} {pos : Pos} {E : Value → Shared → Prop} {Q : Value → Shared → Prop} (I : Inv X pins σ H s) (TB : TabB X.base X.mg c P) (hcode : X.env.code = .ref c)
    (hP : H P = some (.tbl ps)) (T : TabOk H (X.env.qual ++ "<lambda>") ps) (free : ∀ y ∈ scope.names, y.2 = .free → ∃ c, X.env.cells.lookup y.1 = some c)
    (h : ∀ (f c' : Addr) (doc pm ctv : Value) (H1 : Hp) (s' : Shared), Inv X pins σ H1 s' → Made H P (X.env.qual ++ "<lambda>") ps c' H1 → (∀ b o, b ≠ P → s.heap.get? b = some o → s'.heap.get? b = some o) →
      s'.heap.get? f = some (lamO (X.env.qual ++ "<lambda>") params body scope (cloFrom X.env.cells scope.names []) dV doc pm c' ctv) → H1 f = none → f ∉ frs X.stack → (∀ b, s.heap.get? b ≠ none → H b = none → H1 b = none) → s.heap.objs.size ≤ f → Q (.ref f) s') :
    wpAny (model X.prog X.w) X.A (makeTail "<lambda>" (X.env.qual ++ "<lambda>") params (.expr body) scope X.env dV .none none pos pos.line) Q E s := by
  have bP : s.heap.BuiltinsAt X.mg P := TB.bm.keeps I.bk
  have gP : s.heap.get? P = some { cls := .none, data := .fields ps } := I.hok P _ hP
  cases hc : codeAmong pos ps.toList with
  | none =>
    refine PySem.W.kdv_makeTail (mg := X.mg) (c := c) (P := P) (ps := ps) (closure_ok free) I.ok.glob (I.mod.glob.keeps I.bk) hcode (TB.code.keeps I.bk) gP T.tri hc TB.gP bP fun c' ctv doc h' tk hx hge hlt hrec htb => ?_
    obtain ⟨c2, oc, vs, t, e2, hoc, hd, hv⟩ := hrec
    cases e2
    have up : s.heap.objs.size ≤ h'.objs.size := by omega
    have nc : H c' = none := I.hok.fresh hge
    have nP : P ≠ c' := ne_of_none hP nc
    have J := inv_table (t' := tk) (more := #[rawInt pos.line, rawInt pos.col, .ref c']) (h' := h'.push (lamO (X.env.qual ++ "<lambda>") params body scope (cloFrom X.env.cells scope.names []) dV doc ((X.mg "__name__").getD .none) c' ctv)) I hP
      (fun b o hb e => Heap.get?_push_of_some _ (hx b o hb e)) (Heap.get?_push_of_some _ htb) hge ⟨oc, vs, t, Heap.get?_push_of_some _ hoc, hd, hv⟩
    have eL : (ps ++ #[rawInt pos.line, rawInt pos.col, .ref c']).toList = ps.toList ++ [rawInt pos.line, rawInt pos.col, .ref c'] := by simp
    refine h h'.objs.size c' doc _ ctv _ _ J (.new nc (by rw [eL]; exact PySem.TriplesOk_snoc _ _ _ _ T.tri) fun p' cv hcv => by rw [eL] at hcv; exact among_app _ T.tri hcv) (fun b o hb e => Heap.get?_push_of_some _ (hx b o hb e)) (Heap.get?_push_size _ rfl) ?_ (fresh_frame I up) (fun b hb e => ?_) up
    · rw [upd_ne (Nat.ne_of_gt hlt), upd_ne (Nat.ne_of_gt (Nat.lt_of_lt_of_le (Heap.lt_size gP) up))]
      exact I.hok.fresh up
    · obtain ⟨o, eo⟩ := Option.ne_none_iff_exists'.mp hb
      have := Heap.lt_size eo
      rw [upd_ne (show b ≠ c' from Nat.ne_of_lt (Nat.lt_of_lt_of_le this hge)), upd_ne (show b ≠ P from fun z => by rw [z, hP] at e; cases e)]
      exact e
  | some cv =>
    obtain ⟨c', e, hco⟩ := T.all pos cv hc
    subst e
    refine PySem.W.kdv_makeTailHit (mg := X.mg) (c := c) (P := P) (ps := ps) (closure_ok free) I.ok.glob (I.mod.glob.keeps I.bk) hcode (TB.code.keeps I.bk) gP T.tri hc bP fun ctv doc h' tk hx up => ?_
    have J : Inv X pins σ H { s with heap := h'.push (lamO (X.env.qual ++ "<lambda>") params body scope (cloFrom X.env.cells scope.names []) dV doc ((X.mg "__name__").getD .none) c' ctv), toks := tk } := I.kept fun b o e => Heap.get?_push_of_some _ (hx b o e)
    exact h h'.objs.size c' doc _ ctv H _ J (.old hco hc) (fun b o _ e => Heap.get?_push_of_some _ (hx b o e)) (Heap.get?_push_size _ rfl) (I.hok.fresh up) (fresh_frame I up) (fun b _ e => e) up
/-- the defaults that a lambda was made with stand at dV -/
def DfIn (h : Heap) : List Value → Value → Prop
  | [], dV => dV = .none
  | dv, dV => ∃ t : Addr, dV = .ref t ∧ h.get? t = some (PySem.W.kdv_tup dv)
def DfAt (stk : List PySem.Env) (H : Hp) (h : Heap) : List Value → Value → Prop
  | [], dV => dV = .none
  | d :: dr, dV => ∃ t : Addr, dV = .ref t ∧ h.get? t = some (PySem.W.kdv_tup (d :: dr)) ∧ H t = none ∧ t ∉ frs stk
theorem DfAt.on {stk : List PySem.Env} {H HZ : Hp} {h h1 : Heap} (un : Un (frs stk) [] H HZ h h1) : ∀ {dv : List Value} {dV : Value}, DfAt stk H h dv dV → DfIn h1 dv dV
  | [], _, e => e
  | _ :: _, _, ⟨t, e, ht, n, nf⟩ => ⟨t, e, un.keep t _ ht n nf (by simp)⟩
theorem lam_makeD {ps : Array Value} {c P : Addr} {dv : List Value} {params : Arguments} {body : Expr} {scope : Scope} {pos : Pos} {E : Value → Shared → Prop} {Q : Value → Shared → Prop} (I : Inv X pins σ H s) (TB : TabB X.base X.mg c P) (hcode : X.env.code = .ref c)
    (hP : H P = some (.tbl ps)) (T : TabOk H (X.env.qual ++ "<lambda>") ps) (free : ∀ y ∈ scope.names, y.2 = .free → ∃ c, X.env.cells.lookup y.1 = some c)
    (h : ∀ (f c' : Addr) (dV doc pm ctv : Value) (H1 : Hp) (s' : Shared), Inv X pins σ H1 s' → Made H P (X.env.qual ++ "<lambda>") ps c' H1 →
      s'.heap.get? f = some (lamO (X.env.qual ++ "<lambda>") params body scope (cloFrom X.env.cells scope.names []) dV doc pm c' ctv) → H1 f = none → f ∉ frs X.stack → DfAt X.stack H1 s'.heap dv dV → s.heap.objs.size ≤ f → Q (.ref f) s') :
    wpAny (model X.prog X.w) X.A (makeFunction "<lambda>" (X.env.qual ++ "<lambda>") params (.expr body) scope X.env dv [] [] pos pos.line) Q E s := by
  rw [makeFunction_eq]
  simp only [List.zip_nil_right, List.filterMap_nil, List.isEmpty_nil, if_true, pure_bind]
  cases dv with
  | nil =>
    simp only [List.isEmpty_nil, if_true]
    exact lam_tail I TB hcode hP T free fun f c' doc pm ctv H1 s' J m k e1 e2 e3 _ e5 => h f c' .none doc pm ctv H1 s' J m e1 e2 e3 rfl e5
  | cons d0 dr =>
    simp only [List.isEmpty_cons, Bool.false_eq_true, if_false]
    refine wpAny_bind (wpAny_newTextTuple ?_)
    have I2 : Inv X pins σ H { s with heap := s.heap.push (PySem.W.kdv_tup (d0 :: dr)) } := I.kept (t' := s.toks) fun b o e => Heap.get?_push_of_some _ e
    have there : (s.heap.push (PySem.W.kdv_tup (d0 :: dr))).get? s.heap.objs.size = some (PySem.W.kdv_tup (d0 :: dr)) := Heap.get?_push_size _ rfl
    have nt : H s.heap.objs.size = none := I.hok.fresh (Nat.le_refl _)
    refine lam_tail I2 TB hcode hP T free fun f c' doc pm ctv H1 s' J m k e1 e2 e3 e4 e5 => h f c' (.ref s.heap.objs.size) doc pm ctv H1 s' J m e1 e2 e3 ⟨_, rfl, k _ _ (ne_of_none hP nt).symm there, e4 _ (by show (s.heap.push (PySem.W.kdv_tup (d0 :: dr))).get? _ ≠ none; rw [there]; exact fun z => by cases z) nt, fresh_frame I (Nat.le_refl _)⟩ (by have e5 : (s.heap.objs.push (PySem.W.kdv_tup (d0 :: dr))).size ≤ f := e5; rw [Array.size_push] at e5; omega)
end
end KR

/-! KL3: the call of a lambda. -/
namespace KR
open PySem PySem.Spec PyProof.Rows L2 Evl LamX
/-- names of its own (parameters), captured ones, globals; nothing of it is captured -/
structure LamN (N : List Str) (sc scope : Scope) (own : List Str) : Prop where
  kind : scope.kind = .function
  co : scope.isCoroutine = false
  gen : scope.isGenerator = false
  loc : ∀ y ∈ scope.names, y.2 ≠ .cell ∧ (y.2 = .local → y.1 ∈ own)
  here : ∀ n ∈ own, scope.names.lookup n = some .local
  new : ∀ n ∈ own, n ∉ N
  free : ∀ y ∈ scope.names, y.2 = .free → sc.names.lookup y.1 = some .cell ∨ sc.names.lookup y.1 = some .free
def lamNB (N : List Str) (sc scope : Scope) (own : List Str) : Bool :=
  decide (scope.kind = .function) && (!scope.isCoroutine && (!scope.isGenerator && ((scope.names.all fun y => !decide (y.2 = .cell) && (!decide (y.2 = .local) || decide (y.1 ∈ own))) && ((own.all fun n => decide (scope.names.lookup n = some .local) && !decide (n ∈ N)) &&
    scope.names.all fun y => !decide (y.2 = .free) || (decide (sc.names.lookup y.1 = some .cell) || decide (sc.names.lookup y.1 = some .free))))))
theorem lamN_by {N : List Str} {sc scope : Scope} {own : List Str} (h : lamNB N sc scope own = true) : LamN N sc scope own := by
  unfold lamNB at h
  simp only [Bool.and_eq_true, Bool.or_eq_true, Bool.not_eq_true', decide_eq_true_eq, decide_eq_false_iff_not, List.all_eq_true] at h
  obtain ⟨a1, a2, a3, a4, a5, a6⟩ := h
  refine ⟨a1, a2, a3, fun y hy => ⟨(a4 y hy).1, fun e => (a4 y hy).2.elim (fun z => absurd e z) id⟩, fun n hn => (a5 n hn).1, fun n hn => (a5 n hn).2, fun y hy e => (a6 y hy).elim (fun z => absurd e z) id⟩
theorem LamN.has {X : Cx} {scope : Scope} {own : List Str} (L : LamN X.N X.env.scope scope own) (ok : X.Ok) : ∀ y ∈ scope.names, y.2 = .free → ∃ c, X.env.cells.lookup y.1 = some c := fun y hy e => (L.free y hy e).elim (fun k => ok.has _ (.inl k)) fun k => ok.has _ (.inr k)
abbrev lamCxN (X : Cx) (A : Around) (outer : List PySem.Env) (s : Shared) (H : Hp) (E : XK) (scope : Scope) (own : List Str) (f c' : Addr) : Cx := { lamCx X A outer s H E scope f c' with N := X.N ++ own }
theorem lookup_put' {k x : Str} {v : Value} {l : List (Str × Value)} : ((k, v) :: l).lookup x = if x = k then some v else l.lookup x := by
  by_cases h : x = k
  · subst h
    simp [List.lookup]
  · rw [if_neg h]
    simp [List.lookup, show (x == k) = false by simpa using h]
theorem rev_zip_lookup : ∀ {own : List Str} {us : List Value} {i : Nat} {x : Str} {u : Value}, own.Nodup → own.length = us.length → own[i]? = some x → us[i]? = some u → (own.zip us).reverse.lookup x = some u := fun {own us i x u} nd hl hx hu => by
  have hm : (x, u) ∈ (own.zip us).reverse := by
    rw [List.mem_reverse]
    exact List.mem_of_getElem? (List.getElem?_zip_eq_some.mpr ⟨hx, hu⟩ : (own.zip us)[i]? = some (x, u))
  have key : ∀ l : List (Str × Value), (l.map (·.1)).Nodup → (x, u) ∈ l → l.lookup x = some u := fun l => by
    induction l with
    | nil => intro _ h; cases h
    | cons p l ih =>
      intro n h
      obtain ⟨k, v⟩ := p
      obtain ⟨n1, n2⟩ := List.nodup_cons.mp n
      rw [lookup_put']
      by_cases e : x = k
      · rw [if_pos e]
        rcases List.mem_cons.mp h with h | h
        · exact congrArg some (Prod.mk.inj h).2.symm
        · exact absurd (by rw [← e]; exact List.mem_map.mpr ⟨_, h, rfl⟩) n1
      · rw [if_neg e]
        rcases List.mem_cons.mp h with h | h
        · exact absurd (Prod.mk.inj h).1 e
        · exact ih n2 h
  refine key _ ?_ hm
  rw [List.map_reverse, List.map_fst_zip (Nat.le_of_eq hl)]
  exact List.pairwise_reverse.mpr (nd.imp fun h => h.symm)
section
variable {X : Cx} {pins : List (Addr × Obj)} {σ : L2.St} {H HZ : Hp} {s s1 : Shared}
theorem lam_begin {A : Around} {outer : List PySem.Env} {E : XK} {scope : Scope} {own : List Str} {f c' : Addr} {h₁ : Heap} {tk : Nat} {vs : List V} {us : List Value} (I : Inv X pins σ H s) (L : LamN X.N X.env.scope scope own) (nd : own.Nodup) (e0 : Env0 X.prog X.w X.K X.mg X.base A outer s1 HZ) (hd : A.handled = none)
    (un : Un (frs X.stack) [] H HZ s.heap s1.heap) (rv : Vals vs us) (hl : vs.length = own.length) (ns : h₁.Ns s1.heap.objs.size fun y => (own.zip us).reverse.lookup y) (kp : ∀ b o, s1.heap.get? b = some o → h₁.get? b = some o) :
    Inv (lamCxN X A outer s1 HZ E scope own f c') [] (σ ++ vs.map some) HZ { s1 with heap := h₁, toks := tk } := by
  have hfree := L.has I.ok
  have back : ∀ {y c}, (cloFrom X.env.cells scope.names []).lookup y = some c → X.env.cells.lookup y = some c := fun {y c} e => by
    rcases cloFrom_mem (PySem.mem_of_lookup e) with m | ⟨m1, m2⟩
    · cases m
    · obtain ⟨c1, k⟩ := hfree _ m1 rfl
      have k : X.env.cells.lookup y = some c1 := k
      rw [k] at m2
      rw [k, show c = c1 from m2]
  have fore : ∀ {y}, scope.names.lookup y = some .free → ∃ c, (cloFrom X.env.cells scope.names []).lookup y = some c := fun {y} k => mem_lookup (cloFrom_has (cells := X.env.cells) (acc := []) (PySem.mem_of_lookup k))
  have cellK : ∀ {c : Addr} {v : Option Value}, H c = none → s.heap.IsCell c v → h₁.IsCell c v := fun {c v} n ⟨o, ho, hv⟩ => by
    obtain ⟨sl, q⟩ := un.any ho n (by simp)
    exact ⟨_, kp _ _ q, hv⟩
  have noA : ∀ b : Addr, b ∉ (lamCxN X A outer s1 HZ E scope own f c').ex := fun b z => absurd (show b ∈ ([] : List Addr) from z) (by simp)
  have len : σ.length = X.N.length := I.len
  refine ⟨⟨e0.mod, L.kind, rfl, rfl, Nat.le_refl _, fun y z c e1 e2 => I.ok.inj y z c (back e1) (back e2), fun y hy => ?_, fun y c z _ => ?_, fun _ => hd, Around.frames_deeper e0.frames, .inr ⟨rfl, rfl⟩, fun b z => absurd z (noA b), e0.bs, e0.bsz, fun b _ _ => noA b,
      fun b z => absurd z (noA b), e0.funs, e0.frf⟩,
    rfl, e0.bare, Un.kept kp, ⟨_, ns, fun i y v e1 e2 e3 => ?_⟩, fun y c e => ?_, e0.hok.fresh (Nat.le_refl _), fun y c e => ?_, fun q hq => absurd (show q ∈ ([] : List (Addr × Obj)) ++ [] from hq) (by simp), e0.hok.kept kp, ?_⟩
  · have hy : scope.names.lookup y = some .cell ∨ scope.names.lookup y = some .free := hy
    rcases hy with hy | hy
    · exact absurd rfl (L.loc _ (PySem.mem_of_lookup hy)).1
    · exact fore hy
  · have z : false = true := z
    cases z
  · have e1 : (X.N ++ own)[i]? = some y := e1
    have e3 : Vis scope y := e3
    by_cases hi : i < X.N.length
    · rw [List.getElem?_append_left hi] at e1
      rw [List.getElem?_append_left (by rw [len]; exact hi)] at e2
      rcases e3 with k | k | k
      · exact absurd (List.mem_of_getElem? e1) (L.new y ((L.loc _ (PySem.mem_of_lookup k)).2 rfl))
      · exact absurd rfl (L.loc _ (PySem.mem_of_lookup k)).1
      · obtain ⟨m, hn, hlk⟩ := I.loc
        have vis : Vis X.env.scope y := (L.free _ (PySem.mem_of_lookup k) rfl).elim (fun k => .inr (.inl k)) fun k => .inr (.inr k)
        obtain ⟨w', r, q⟩ := hlk i y v e1 e2 vis
        obtain ⟨c2, h2⟩ := fore k
        refine ⟨w', r, .inr ⟨.inr k, c2, h2, ?_⟩⟩
        rcases q with ⟨k', _⟩ | ⟨_, c3, e', z⟩
        · have k' : X.env.scope.names.lookup y = some .local := k'
          rcases L.free _ (PySem.mem_of_lookup k) rfl with k2 | k2 <;> rw [show X.env.scope.names.lookup y = _ from k2] at k' <;> cases k'
        · rw [back h2] at e'
          cases e'
          exact cellK (I.freeC y _ (back h2)) z
    · rw [List.getElem?_append_right (by omega)] at e1
      rw [List.getElem?_append_right (by omega), len, List.getElem?_map] at e2
      obtain ⟨v', ev, ev2⟩ := Option.map_eq_some_iff.mp e2
      have ev2 := Option.some.inj ev2
      subst ev2
      obtain ⟨u, hu, ru⟩ := rv.get ev
      exact ⟨u, ru, .inl ⟨L.here y (List.mem_of_getElem? e1), rev_zip_lookup nd (by rw [← rv.length]; exact hl.symm) e1 hu⟩⟩
  · obtain ⟨w', z⟩ := I.cell y c (back e)
    exact ⟨w', cellK (I.freeC y c (back e)) z⟩
  · obtain ⟨v, o, ho, hv⟩ := I.cell y c (back e)
    exact un.free c o ho (I.freeC y c (back e)) (by simp)
  · show (σ ++ vs.map some).length = (X.N ++ own).length
    rw [List.length_append, List.length_append, List.length_map, len, hl]
/-- a lambda is called: s, the state at which it is known; s1, the state of the call -/
theorem lam_run {A : Around} {outer : List PySem.Env} {E : XK} {scope : Scope} {own : List Str} {f c' : Addr} {params : Arguments} {body : Expr} {dV doc pm ctv : Value} {args : Args} {k : Nat} {vs : List V} {us : List Value} {tb : TE} {Q : VK} (I : Inv X pins σ H s) (L : LamN X.N X.env.scope scope own) (nd : own.Nodup)
    (hf : s.heap.get? f = some (lamO (X.env.qual ++ "<lambda>") params body scope (cloFrom X.env.cells scope.names []) dV doc pm c' ctv)) (hfn : H f = none) (hfr : f ∉ frs X.stack) (hr : Room (k + 1) A) (e0 : Env0 X.prog X.w X.K X.mg X.base A outer s1 HZ) (un : Un (frs X.stack) [] H HZ s.heap s1.heap) (hco : HZ c' = some (CodeO c' (X.env.qual ++ "<lambda>")))
    (bind : BindsTo s1 (PySem.W.kdv_fn "<lambda>" (X.env.qual ++ "<lambda>") params (.expr body) scope (cloFrom X.env.cells scope.names []) dV doc pm (.ref c') ctv) args (own.zip us)) (rv : Vals vs us) (hl : vs.length = own.length)
    (hbody : Room k (A.deeper (lamEnv X scope s1.heap.objs.size f c')) → PE (lamCxN X A outer s1 HZ E scope own f c') body tb) (h : tb (σ ++ vs.map some) HZ Q) :
    codeAny (model X.prog X.w) A (.call (.ref f) args) (CR (L2.CX X.prog X.w) outer X.prog X.w HZ s1 Q E) s1 := by
  have of1 := un.keep f _ hf hfn hfr (by simp)
  obtain ⟨⟨oc, ws, t, hoc, hdc, hvc⟩, _, _⟩ := e0.hok c' _ hco
  have lim : s1.heap.NoLimit := e0.mod.nolimit.keeps fun b o e => (e0.bs b o e).1
  have locals : ∀ y ∈ own.zip us, scope.names.lookup y.1 = some .local := fun y hy => L.here _ (List.of_mem_zip hy).1
  refine PySem.W.kla_callFunE hr.depth of1 rfl L.co L.gen rfl ⟨c', oc, ws, t, rfl, hoc, hdc, hvc⟩ (bind _ _ _ _ ?_)
  refine wpAny_newFunctionEnv (fun y hy => (L.loc y hy).1) locals (fun h₁ hns hsb => ⟨lim.fresh _ hsb, ?_⟩) L.kind
  show codeAny _ _ (.expr body (lamEnv X scope s1.heap.objs.size f c')) _ _
  have kp : ∀ b o, s1.heap.get? b = some o → h₁.get? b = some o := fun b o e => hsb.extBut b o (Nat.ne_of_lt (Heap.lt_size e)) (Heap.get?_push_of_some _ e)
  have J : Inv (lamCxN X A outer s1 HZ E scope own f c') [] (σ ++ vs.map some) HZ { s1 with heap := h₁, toks := s1.toks + (own.zip us).length } := lam_begin I L nd e0 hr.hd un rv hl hns kp
  refine PySem.W.kla_codeExpr (wpAny_mono ((hbody (hr.deeper _)).run [] _ _ HZ Q J h) (fun v s' hq => ?_) fun e s' hq => hq)
  obtain ⟨w', H', J', rw', q⟩ := hq
  exact ⟨w', H', J'.os, J'.bare, J'.base, J'.hok, rw', q⟩
end
end KR

/-! KL4: a def that is handed a lambda and calls it within a try. -/
namespace KR
open PySem PySem.Spec PyProof.Rows L2 Evl LamX
/-- f, known at s over the frames stk, may be called without arguments -/
def LamCall (P : Program) (w : World) (K : PySem.W.Frag) (mg : Str → Option Value) (base : Heap) (stk : List PySem.Env) (s : Shared) (H : Hp) (f c' : Addr) (q : Str) (k : Nat) (tl : XK → Hp → VK → Prop) : Prop :=
  ∀ (A : Around) (outer : List PySem.Env) (s1 : Shared) (HZ : Hp) (E : XK) (Q : VK), Room (k + 1) A → Env0 P w K mg base A outer s1 HZ → Un (frs stk) [] H HZ s.heap s1.heap → HZ c' = some (CodeO c' q) → tl E HZ Q →
    PySem.W.FnAt f s1.heap ∧ codeAny (model P w) A (.call (.ref f) ⟨[], []⟩) (CR (L2.CX P w) outer P w HZ s1 Q E) s1
/-- x(), x in slot i, within a def entered at s -/
theorem pe_actN {P : Program} {w : World} {K : PySem.W.Frag} {mg : Str → Option Value} {base : Heap} {CXg : CXT} {Ng : List Str} {qg : Str} {sg : Scope} {g f c' : Addr} {cdg : Value} {A : Around} {outer : List PySem.Env} {s : Shared} {H : Hp} {Eg : XK} {q : Str} {k i : Nat} {tl : XK → Hp → VK → Prop} {a : Str} {pn : List (Addr × Obj)}
    {xe ye : Value → Shared → Prop} {W : WX} {p1 p2 : Pos} (LC : LamCall P w K mg base outer s H f c' q k tl) (hr : Room (k + 1) (A.deeper (envOfC qg sg s.heap.objs.size g cdg)))
    (tk : Takes (((cxOf CXg P w K mg base Ng qg sg g cdg A outer s H Eg).wish ye).tr pn xe) W) (hN : Ng[i]? = some a) (hv : Vis sg a) (hd : (a == ("__debug__" : Str)) = false := by decide) (hcd : (a == ("__classdict__" : Str)) = false := by decide) :
    PE (((cxOf CXg P w K mg base Ng qg sg g cdg A outer s H Eg).wish ye).tr pn xe) (.Call (.Name a p1) [] [] p2)
      (fun σZ HZ Q => σZ[i]? = some (some (.ref f)) ∧ HZ c' = some (CodeO c' q) ∧ ∃ E : XK, (∀ cls d H', E cls d H' → W cls d σZ H') ∧ tl E HZ Q) := by
  refine ⟨fun pinsZ sZ σZ HZ Q IZ h => ?_⟩
  obtain ⟨hs, hc, E, hW, ht⟩ := h
  refine wpAny_Call_Name_kw (thn ((pe_var (pos := p1) (i := i) hN hv hd hcd).run pinsZ sZ σZ HZ (fun v H1 => v = .ref f ∧ H1 = HZ) IZ ⟨.ref f, hs, rfl, rfl⟩) fun u s2 told => ?_)
  obtain ⟨v, H1, J, r1, ev, eH⟩ := told
  subst ev
  subst eH
  obtain rfl : u = Value.ref f := r1
  obtain ⟨fn, run⟩ := LC _ _ s2 H1 E Q hr J.env0 J.base hc ht
  refine PySem.W.callWith_F0 fn ?_
  refine wpAny_call (codeAny_mono run fun r s3 hq => ?_)
  cases r with
  | error e =>
    obtain ⟨a, B, H', cls, d, e1, e2, e3, e4, e5, e6, e7, e8⟩ := hq
    exact passAt tk σZ pinsZ H1 s2 e s3 J ⟨a, B, H', cls, d, e1, e2, e3, e4, e5, e6, e7, hW _ _ _ e8⟩
  | ok fl =>
    cases fl with
    | ret u => exact J.after hq
    | next => exact False.elim hq
    | brk => exact False.elim hq
    | cont => exact False.elim hq
/-- a lambda that stands at f may be called -/
theorem lam_call {X : Cx} {pins : List (Addr × Obj)} {σ : L2.St} {H : Hp} {s : Shared} {scope : Scope} {own : List Str} {f c' : Addr} {params : Arguments} {body : Expr} {dV doc pm ctv : Value} {k : Nat} {vs : List V} {dv : List Value} {tb : XK → TE} (I : Inv X pins σ H s) (L : LamN X.N X.env.scope scope own) (nd : own.Nodup)
    (hf : s.heap.get? f = some (lamO (X.env.qual ++ "<lambda>") params body scope (cloFrom X.env.cells scope.names []) dV doc pm c' ctv)) (hfn : H f = none) (hfr : f ∉ frs X.stack) (df : DfAt X.stack H s.heap dv dV) (rv : Vals vs dv) (hl : vs.length = own.length)
    (bind : ∀ (s1 : Shared) (cl : List (Str × Addr)) (dV doc pm cv ctv : Value) (dv : List Value), Vals vs dv → DfIn s1.heap dv dV → BindsTo s1 (PySem.W.kdv_fn "<lambda>" (X.env.qual ++ "<lambda>") params (.expr body) scope cl dV doc pm cv ctv) ⟨[], []⟩ (own.zip dv))
    (hbody : ∀ (A : Around) (outer : List PySem.Env) (s : Shared) (H : Hp) (E : XK) (f c' : Addr), Room k (A.deeper (lamEnv X scope s.heap.objs.size f c')) → PE (lamCxN X A outer s H E scope own f c') body (tb E)) :
    LamCall X.prog X.w X.K X.mg X.base X.stack s H f c' (X.env.qual ++ "<lambda>") k fun E HZ Q => tb E (σ ++ vs.map some) HZ Q :=
  fun A outer s1 HZ E Q hr e0 un hco h => ⟨⟨_, _, _, _, un.keep f _ hf hfn hfr (by simp)⟩, lam_run I L nd hf hfn hfr hr e0 un hco (bind s1 _ dV doc pm _ ctv dv rv (df.on un)) rv hl (fun hr2 => hbody _ _ _ _ _ _ _ hr2) h⟩
/-- the def at g: it is handed what may be called; what is caught is told as CA says -/
def ToldOk (P : Program) (w : World) (K : PySem.W.Frag) (mg : Str → Option Value) (base : Heap) (g : Addr) (k : Nat) (CA : Value → Option Addr → Hp → VK → Prop) : Prop :=
  ∀ (A : Around) (outer : List PySem.Env) (s : Shared) (H : Hp) (f c' : Addr) (q : Str) (Q : VK) (tl : XK → Hp → VK → Prop), Room (k + 2) A → Env0 P w K mg base A outer s H → LamCall P w K mg base outer s H f c' q k tl → H c' = some (CodeO c' q) →
    (∃ Ech : XK, tl Ech H Q ∧ ∀ cls d H', Ech cls d H' → CA cls d H' Q) → codeAny (model P w) A (.call (.ref g) ⟨[.ref f], []⟩) (CR CX0 outer P w H s Q E0) s
def tTold (P : Addr) (q : Str) (CA : Value → Option Addr → Hp → VK → Prop) (vs : List V) (tb : XK → TE) : TE := fun σ H Q => ∃ ps, H P = some (.tbl ps) ∧ TabOk H q ps ∧
  ∀ c' H1, Made H P q ps c' H1 → ∃ Ech : XK, tb Ech (σ ++ vs.map some) H1 Q ∧ ∀ cls d H', Ech cls d H' → CA cls d H' Q
theorem pe_told {X : Cx} {x : Str} {g c P : Addr} {k : Nat} {CA : Value → Option Addr → Hp → VK → Prop} {own : List Str} {params : Arguments} {body : Expr} {scope : Scope} {tb : XK → TE} {p lpos pos : Pos} (vs : List V) (hg : Gl X x) (hm : X.mg x = some (.ref g)) (hk : PySem.W.keepIn X.K (.ref g) = true)
    (TO : ToldOk X.prog X.w X.K X.mg X.base g k CA) (TB : TabB X.base X.mg c P) (hcode : X.env.code = .ref c) (hr : Room (k + 2) X.A) (L : LamN X.N X.env.scope scope own) (nd : own.Nodup) (hl : vs.length = own.length)
    (hev : ∀ (pins : List (Addr × Obj)) (s : Shared) (σ : L2.St) (H : Hp) (Q : Value → Shared → Prop), Inv X pins σ H s → (∀ (dv : List Value) (s' : Shared), Inv X pins σ H s' → Vals vs dv → wpAny (model X.prog X.w) X.A (makeFunction "<lambda>" (X.env.qual ++ "<lambda>") params (.expr body) scope X.env dv [] [] lpos lpos.line) Q X.xe s') →
      wpAny (model X.prog X.w) X.A (eval (.Lambda params body scope lpos) X.env) Q X.xe s)
    (bind : ∀ (s1 : Shared) (cl : List (Str × Addr)) (dV doc pm cv ctv : Value) (dv : List Value), Vals vs dv → DfIn s1.heap dv dV → BindsTo s1 (PySem.W.kdv_fn "<lambda>" (X.env.qual ++ "<lambda>") params (.expr body) scope cl dV doc pm cv ctv) ⟨[], []⟩ (own.zip dv))
    (hbody : ∀ (A : Around) (outer : List PySem.Env) (s : Shared) (H : Hp) (E : XK) (f c' : Addr), Room k (A.deeper (lamEnv X scope s.heap.objs.size f c')) → PE (lamCxN X A outer s H E scope own f c') body (tb E))
    (ndb : (x == ("__debug__" : Str)) = false := by decide) :
    PE X (.Call (.Name x p) [.Lambda params body scope lpos] [] pos) (tTold P (X.env.qual ++ "<lambda>") CA vs tb) := by
  refine ⟨fun pins s σ H Q I h => ?_⟩
  obtain ⟨ps, hP, T, h⟩ := h
  refine wpAny_Call_Name_kw (ld_glob I hg hm ?_ ndb)
  refine PySem.W.callWith_K (h₀ := X.base) I.ok.mod.kin hk ?_ (by rfl) (by rfl)
  show wpAny _ _ (spliced ((false, eval (.Lambda params body scope lpos) X.env) :: backTo pos (starEach [] X.env))) _ _ s
  refine Calls.spliced_cons (hev pins s σ H _ I fun dv s2 I2 rv => ?_)
  refine lam_makeD I2 TB hcode hP T (L.has I.ok) fun f c' dV doc pm ctv H1 s3 I3 made hf hfn hfr df _ => ?_
  refine Calls.spliced_nil ⟨I3.kIn, ?_⟩
  obtain ⟨Ech, h1, h2⟩ := h c' H1 made
  have run := TO X.A X.stack s3 H1 f c' _ Q _ hr I3.env0 (lam_call (tb := tb) I3 L nd hf hfn hfr df rv hl bind hbody) made.code ⟨Ech, h1, h2⟩
  refine wpAny_call (codeAny_mono run fun r s4 hq => ?_)
  cases r with
  | error e => exact (show False from hq).elim
  | ok fl =>
    cases fl with
    | ret u => exact I3.after hq
    | next => exact False.elim hq
    | brk => exact False.elim hq
    | cont => exact False.elim hq
/-- a lambda without parameters -/
theorem ev_lam0 {X : Cx} {params : Arguments} {body : Expr} {scope : Scope} {lpos : Pos} (hdef : defaultsOf params X.env = ([], [])) :
    ∀ (pins : List (Addr × Obj)) (s : Shared) (σ : L2.St) (H : Hp) (Q : Value → Shared → Prop), Inv X pins σ H s → (∀ (dv : List Value) (s' : Shared), Inv X pins σ H s' → Vals [] dv → wpAny (model X.prog X.w) X.A (makeFunction "<lambda>" (X.env.qual ++ "<lambda>") params (.expr body) scope X.env dv [] [] lpos lpos.line) Q X.xe s') →
      wpAny (model X.prog X.w) X.A (eval (.Lambda params body scope lpos) X.env) Q X.xe s :=
  fun pins s σ H Q I h => PySem.W.kla_eval hdef (h [] s I .nil)
/-- .. with one, which is an int where nothing is handed over -/
theorem ev_lam1 {X : Cx} {params : Arguments} {body : Expr} {scope : Scope} {lpos dp : Pos} {i : Int} {j : Nat} (hd : params.defaults = [.Constant (.int i) j dp]) (hk0 : params.kw_defaults = []) :
    ∀ (pins : List (Addr × Obj)) (s : Shared) (σ : L2.St) (H : Hp) (Q : Value → Shared → Prop), Inv X pins σ H s → (∀ (dv : List Value) (s' : Shared), Inv X pins σ H s' → Vals [.int i] dv → wpAny (model X.prog X.w) X.A (makeFunction "<lambda>" (X.env.qual ++ "<lambda>") params (.expr body) scope X.env dv [] [] lpos lpos.line) Q X.xe s') →
      wpAny (model X.prog X.w) X.A (eval (.Lambda params body scope lpos) X.env) Q X.xe s := fun pins s σ H Q I h => by
  refine PySem.W.kdv_lam (by rw [hd]; rfl) hk0 ?_
  rw [hd]
  refine PySem.W.kdv_all1 (thn ((pe_int (X := X) (i := i) (j := j) (pos := dp)).run pins s σ H (fun v H1 => v = .int i ∧ H1 = H) I ⟨rfl, rfl⟩) fun u s2 told => PySem.W.kdv_all0 ?_)
  obtain ⟨v, H1, J, r1, ev, eH⟩ := told
  subst ev
  subst eH
  exact h [u] s2 J (.cons r1 .nil)
end KR

/-! KX: refusals over data: defs that may raise, what they raise, what is told of it. -/
namespace KR
open PySem PySem.Spec PyProof.Rows L2 Evl LamX
/-! ### defs that may raise -/
def FinX (F : FSp) (g : F.G) (m : Store) : PX := fun cls oi m' => ∃ m1 m2, m' = m1 ++ m2 ∧ m.length ≤ m1.length ∧ Wf m1 ∧ (∀ f x, oi = some (f, x) → x.hb m1.length = true) ∧ F.exc g m cls oi m1
theorem finx_trim {F : FSp} {g : F.G} {m m2 : Store} {cls : Value} {oi : Option (Str × D)} (wf : Wf m) (ho : ∀ f x, oi = some (f, x) → x.hb m.length = true) (p : F.exc g m cls oi m) : FinX F g m cls oi (m ++ m2) := ⟨m, m2, rfl, Nat.le_refl _, wf, ho, p⟩
theorem finx_same {F : FSp} {g : F.G} {m : Store} {cls : Value} {oi : Option (Str × D)} (wf : Wf m) (ho : ∀ f x, oi = some (f, x) → x.hb m.length = true) (p : F.exc g m cls oi m) : FinX F g m cls oi m := ⟨m, [], (List.append_nil m).symm, Nat.le_refl _, wf, ho, p⟩
theorem eok_fin {K : PySem.W.Frag} {E : XK} {F : FSp} {g : F.G} {m : Store} {wd : Wd} (hw : wd.al.length = m.length)
    (h : ∀ (cls : Value) (od : Option Addr) (oi : Option (Str × D)) (m' : Store) (w' : Wd) (H' : Hp), wd.le w' → ExcR K w' H' od oi → StOk K w' m' H' → F.exc g m cls oi m' → E cls od H') : EOk K E (FinX F g m) wd := by
  rintro cls od oi m' w' H' l x s ⟨m1, m2, rfl, hl, wf, ho, p⟩
  refine h cls od oi m1 ⟨w'.Z, w'.al.take m1.length⟩ H' (l.cut (by omega)) ?_ (s.cut wf) p
  match od, oi, x with
  | none, none, _ => trivial
  | some d, some (f, y), ⟨v, e, r⟩ => exact ⟨v, e, r.cut (ho f y rfl)⟩
theorem okx {P : Program} {w : World} {K : PySem.W.Frag} {mg : Str → Option Value} {base : Heap} {x qual : Str} {st : Stmt} {f : Addr} {fd : FuncData} {N ps : List Str} {k : Nat} {F : FSp} (Fn : Fun K x qual st f fd) (S : FnScope N ps (defScope st)) (har : F.ar = ps.length)
    (hb : ∀ (cdv : Value) (A : Around) (outer : List PySem.Env) (s : Shared) (H : Hp) (E : XK), Room k (A.deeper (envOfC qual (defScope st) s.heap.objs.size f cdv)) →
      ∃ t, PSs (cxOf (L2.CX P w) P w K mg base N qual (defScope st) f cdv A outer s H E) (defBody st) t ∧ ∀ g ds m, F.pre g ds m → Wf m → WS ⟨K, E, FinX F g m⟩ t (startD N ds) m { nx := fun _ m' => Fin F g m .non m', rt := Fin F g m }) :
    FnOk P w K mg base (L2.CX P w) (k + 1) f fd ps (spD K F) := by
  refine Fn.okX S (fun vs H Q E h => ?_) (fun cdv A outer s H vs Q E hr h => ?_)
  · obtain ⟨w, m, ds, g, r, _, hl, _⟩ := h
    rw [r.length, hl, har]
  · obtain ⟨wd, m, ds, g, r, so, hl, hp, hq, hx⟩ := h
    obtain ⟨t, ht, hw⟩ := hb cdv A outer s H E hr
    refine ⟨t, ht, hw g ds m hp so.wf _ wd H (EnvR.start r) so (eok_fin so.len hx) _ ?_⟩
    have base : Kt ⟨K, E, FinX F g m⟩ wd (F.post g m) Q := fun v d m' w' H' l r s p => hq v d m' w' H' l r s p
    have fin : Kt ⟨K, E, FinX F g m⟩ wd (Fin F g m) Q := (base.trm (by rw [so.len]; exact Nat.le_refl _)).frz
    exact ⟨fun σ' ρ' m' w' H' l e s p => fin .non .non m' w' H' l .non s p, fin, fun _ _ _ _ _ _ _ _ h => h.elim, fun _ _ _ _ _ _ _ _ h => h.elim⟩
/-- as ok0, the def's code object known -/
theorem ok0C {P : Program} {w : World} {K : PySem.W.Frag} {mg : Str → Option Value} {base : Heap} {x qual : Str} {st : Stmt} {f co : Addr} {fd : FuncData} {N ps : List Str} {k : Nat} {F : FSp}
    (Fn : Fun K x qual st f fd) (hco : fd.code = .ref co) (S : FnScope N ps (defScope st)) (har : F.ar = ps.length) (hx : ∀ g m cls oi m', ¬ F.exc g m cls oi m')
    (hb : ∀ (A : Around) (outer : List PySem.Env) (s : Shared) (H : Hp) (E : XK), Room k (A.deeper (envOfC qual (defScope st) s.heap.objs.size f (.ref co))) →
      ∃ t, PSs (cxOf CX0 P w K mg base N qual (defScope st) f (.ref co) A outer s H E).nox (defBody st) t ∧ ∀ g ds m, F.pre g ds m → Wf m → WS (C0 K) t (startD N ds) m { nx := fun _ m' => Fin F g m .non m', rt := Fin F g m }) :
    FnOk P w K mg base CX0 (k + 1) f fd ps (spD K F) := by
  obtain ⟨oc, od, kV, doc, pm, an, cdv, ct, osl, efd, lk, hcd⟩ := Fn.ex
  have ec : cdv = .ref co := by
    rw [efd] at hco
    exact hco
  subst ec
  subst efd
  refine fn_of lk hcd S (fun vs H Q E h => ?_) fun A outer s H vs Q E hr h => ?_
  · obtain ⟨w, m, ds, g, r, _, hl, _⟩ := h
    rw [r.length, hl, har]
  · obtain ⟨wd, m, ds, g, r, so, hl, hp, hq, _⟩ := h
    obtain ⟨t, ht, hw⟩ := hb A outer s H E hr
    refine ⟨t, ht.nox, hw g ds m hp so.wf _ wd H (EnvR.start r) so (C0.ok K wd) _ ?_⟩
    have base : Kt (C0 K) wd (F.post g m) Q := fun v d m' w' H' l r s p => hq v d m' w' H' l r s p
    have fin : Kt (C0 K) wd (Fin F g m) Q := (base.trm (by rw [so.len]; exact Nat.le_refl _)).frz
    exact ⟨fun σ' ρ' m' w' H' l e s p => fin .non .non m' w' H' l .non s p, fin, fun _ _ _ _ _ _ _ _ h => h.elim, fun _ _ _ _ _ _ _ _ h => h.elim⟩
section
variable {c : Ct} {ρ : Env} {m : Store} {P : PD} {B : Ed} {ta tb te : TE} {t u : TS} {F : FSp}
/-! ### calls of defs that raise nothing, where something may be raised -/
theorem Calls.up {ds : List D} (h : Calls (C0 c.K) F ds m P) : Calls c F ds m P := ⟨h.1, h.2.choose, h.2.choose_spec.1, h.2.choose_spec.2.1, fun cls oi m2 e => (h.2.choose_spec.2.2 cls oi m2 e).elim⟩
theorem spD_E {K : PySem.W.Frag} {vs : List V} {H : Hp} {Q : VK} {E E' : XK} (h : spD K F vs H Q E) (n : ∀ g m cls oi m', ¬ F.exc g m cls oi m') : spD K F vs H Q E' := by
  obtain ⟨w, m, ds, g, a, b, d, e, f, _⟩ := h
  exact ⟨w, m, ds, g, a, b, d, e, f, fun cls od oi m' w' H' _ _ _ x => (n g m cls oi m' x).elim⟩
theorem Calls.sp0 {w : Wd} {vs : List V} {ds : List D} {H : Hp} {Q : VK} (h : Calls (C0 c.K) F ds m P) (r : RepA c.K w vs ds) (s : StOk c.K w m H) (q : Kt c w P Q) : spD c.K F vs H Q E0 :=
  ⟨w, m, ds, h.2.choose, r, s, h.1, h.2.choose_spec.1, fun v d m' w' H' l r' s' p => q v d m' w' H' l r' s' (h.2.choose_spec.2.1 d m' p), fun cls od oi m' w' H' l x s' p => (h.2.choose_spec.2.2 cls oi m' p).elim⟩
theorem we_call0 {tx : TA} (h : WA c tx ρ m fun ds m1 => Calls (C0 c.K) F ds m1 P) : WE c (tCall (spD c.K F) [] E0 tx) ρ m P := fun σ w H e s o Q q =>
  h σ w H e s o _ fun v d m1 w1 H1 l1 r1 s1 p1 => by
    show spD c.K F (v ++ []) H1 Q E0
    rw [List.append_nil]
    exact p1.sp0 r1 s1 (q.mono l1)
theorem we_methC0 {C : Addr} {mn : Str} {tx : TA} (h : WE c ta ρ m fun x m1 => ∃ ns ds, insD m1 x = some (C, ns, ds) ∧ mn ∉ ns ∧ WA c tx ρ m1 fun es m2 => Calls (C0 c.K) F (x :: es) m2 P) : WE c (tMeth C mn (spD c.K F) [] E0 ta tx) ρ m P := fun σ w H e s o Q q =>
  h σ w H e s o _ fun v d m1 w1 H1 l1 r1 s1 ⟨ns, ds, hi, hn, p1⟩ => by
    obtain ⟨a, dx, xs, rfl, ha, ll, rr⟩ := s1.ins r1 hi
    refine ⟨a, dx, _, rfl, ha, lookup_zip_none hn, p1 σ w1 H1 (e.mono l1) s1 (o.mono l1) _ fun v2 d2 m2 w2 H2 l2 r2 s2 p2 => ?_⟩
    show spD c.K F (.ref a :: (v2 ++ [])) H2 Q E0
    rw [List.append_nil]
    exact p2.sp0 (.cons (r1.mono l2) r2) s2 (q.mono (l1.trans l2))
/-! ### raise -/
def tRaise (t : L2.St → Hp → XK → Prop) (E : XK) : TS := fun _ σ H => t σ H fun cls d H' => E cls d H'
theorem ws_raiseA {C : Addr} {tx : TA} (h : WA c tx ρ m fun ds m1 => ds.length ≤ 1000 ∧ c.PE (.ref C) none m1) : WS c (tRaise (tMkA C tx) c.EE) ρ m B := fun σ w H e s o D k =>
  h σ w H e s o (fun ws H1 => ws.length ≤ 1000 ∧ c.EE (.ref C) none H1) fun v d m' w' H' l r s' ⟨hl, p⟩ => ⟨by rw [r.length]; exact hl, o _ none none m' w' H' l trivial s' p⟩
/-- an __init__ of an own exception that keeps what it is handed as the field f -/
def spKeep (C : Addr) (f : Str) : Sp := fun vs H Q _ => ∃ (a : Addr) (i : Int), vs = [.ref a, .int i] ∧ (0 ≤ i ∧ i ≤ 100) ∧ H a = some (exo a C none) ∧ ∀ dx, H dx = none → dx ≠ a → Q .non (upd (upd H dx (exd dx [(f, .int i)])) a (exo a C (some dx)))
theorem ws_raiseO {C : Addr} {f : Str} {tx : TA} (h : WA c tx ρ m fun ds m1 => ∃ i, ds = [.int i] ∧ (0 ≤ i ∧ i ≤ 100) ∧ c.PE (.ref C) (some (f, .int i)) m1) : WS c (tRaise (tMkO C (spKeep C f) [] tx) c.EE) ρ m B := fun σ w H e s o D k =>
  h σ w H e s o _ fun v d m' w' H' l r s' ⟨i, ed, hi, p⟩ => by
    subst ed
    cases r with
    | cons r1 r2 =>
      cases r2
      cases r1
      refine ⟨(by show 1 ≤ 1000; omega), fun a ha => ⟨a, i, rfl, hi, upd_same, fun dx n ne => ⟨rfl, dx, _, upd_same, by rw [upd_ne ne, upd_same], by rw [upd_ne ne] at n; exact n, ?_⟩⟩⟩
      have n' : H' dx = none := by rw [upd_ne ne] at n; exact n
      have eH : upd (del (upd (upd (upd H' a (exo a C none)) dx (exd dx [(f, .int i)])) a (exo a C (some dx))) a) dx (.xd [(f, .int i)]) = upd H' dx (.xd [(f, .int i)]) := by
        funext b
        by_cases h1 : b = dx
        · rw [h1, upd_same, upd_same]
        · rw [upd_ne h1, upd_ne h1]
          by_cases h2 : b = a
          · rw [h2, del_same, ha]
          · rw [del_ne h2, upd_ne h2, upd_ne h1, upd_ne h2]
      rw [eH]
      obtain ⟨l2, s2⟩ := s'.new (o := .xd [(f, .int i)]) n'
      exact o _ (some dx) (some (f, .int i)) m' _ _ (l.trans l2) ⟨.int i, upd_same, .int i⟩ s2 p
/-! ### f-strings -/
def WJ (c : Ct) (ts : List TE) (acc : Str) (ρ : Env) (m : Store) (P : Str → Store → Prop) : Prop := ∀ σ w H, EnvR c.K w σ ρ → StOk c.K w m H → c.ok w → ∀ Q : Str → Hp → Prop, (∀ y m' w' H', w.le w' → StOk c.K w' m' H' → P y m' → Q y H') → tJs ts acc σ H Q
theorem wj_nil {acc : Str} {P : Str → Store → Prop} (p : P acc m) : WJ c [] acc ρ m P := fun σ w H e s o Q q => q acc m w H (.refl w) s p
theorem wj_cons {te : TE} {ts : List TE} {acc : Str} {P : Str → Store → Prop} (h : WE c te ρ m fun x m1 => ∃ y : Str, x = .str y ∧ (acc ++ y).length ≤ sizeLine ∧ WJ c ts (acc ++ y) ρ m1 P) : WJ c (te :: ts) acc ρ m P := fun σ w H e s o Q q =>
  h σ w H e s o _ fun v d m1 w1 H1 l1 r1 s1 ⟨y, ed, hl, p⟩ => by
    subst ed
    cases r1
    exact ⟨y, rfl, hl, p σ w1 H1 (e.mono l1) s1 (o.mono l1) Q fun z m' w' H' l r p' => q z m' w' H' (l1.trans l) r p'⟩
theorem we_joined {ts : List TE} (h : WJ c ts Str.empty ρ m fun y m1 => P (.str y) m1) : WE c (fun σ H Q => tJs ts Str.empty σ H fun out H1 => Q (.str out) H1) ρ m P := fun σ w H e s o Q q =>
  h σ w H e s o _ fun y m' w' H' l s' p => q (.str y) (.str y) m' w' H' l (.str y) s' p
theorem we_fmtI (h : WE c te ρ m fun x m1 => ∃ i : Int, x = .int i ∧ i.natAbs.log2 < 1920 ∧ P (.str (toString i)) m1) : WE c (tFmt te) ρ m P := fun σ w H e s o Q q =>
  h σ w H e s o _ fun v d m1 w1 H1 l1 r1 s1 ⟨i, ed, hi, p⟩ => by
    subst ed
    cases r1
    exact .inr ⟨i, rfl, hi, q (.str _) (.str _) m1 w1 H1 l1 (.str _) s1 p⟩
end
/-! ### what is told of a refusal -/
/-- what is wanted where something of a class is caught: told, it is wd -/
def Caught (K : PySem.W.Frag) (wordOf : Value → Option (Str × D) → D → Prop) : Value → Option Addr → Hp → VK → Prop := fun cls od H' Q => ∃ (w : Wd) (m : Store) (oi : Option (Str × D)) (wd : D), ExcR K w H' od oi ∧ StOk K w m H' ∧ wordOf cls oi wd ∧ Kt (C0 K) w (fun d m' => d = wd ∧ m' = m) Q
theorem EnvR.app {K : PySem.W.Frag} {w : Wd} {σ : L2.St} {ρ : Env} {vs : List V} {ds : List D} (e : EnvR K w σ ρ) (r : RepA K w vs ds) : EnvR K w (σ ++ vs.map some) (ρ ++ ds.map some) := by
  refine ⟨by rw [List.length_append, List.length_append, List.length_map, List.length_map, e.len, r.length], fun i d h => ?_⟩
  by_cases hi : i < ρ.length
  · rw [List.getElem?_append_left hi] at h
    obtain ⟨v, h1, h2⟩ := e.at_ i d h
    exact ⟨v, by rw [List.getElem?_append_left (by rw [e.len]; exact hi)]; exact h1, h2⟩
  · rw [List.getElem?_append_right (by omega), List.getElem?_map] at h
    obtain ⟨d', h1, h2⟩ := Option.map_eq_some_iff.mp h
    have h2 := Option.some.inj h2
    subst h2
    obtain ⟨v, h3, h4⟩ := r.get h1
    exact ⟨v, by rw [List.getElem?_append_right (by rw [e.len]; omega), List.getElem?_map, e.len, h3]; rfl, h4⟩
theorem StOk.made {K : PySem.W.Frag} {w : Wd} {m : Store} {H : Hp} (s : StOk K w m H) {k : Nat} {P c' : Addr} {q : Str} (hm : m[k]? = some (.tab P q)) {ps : Array Value} (hP : H P = some (.tbl ps)) {H1 : Hp} (M : Made H P q ps c' H1) : ∃ w', w.le w' ∧ StOk K w' m H1 ∧ w'.al = w.al ∧ w'.Z c' = some (CodeO c' q) := by
  cases M with
  | old h hc =>
    have hk : k < w.al.length := by rw [s.len]; exact (List.getElem?_eq_some_iff.mp hm).1
    obtain ⟨eP, zP, ps', hP', T⟩ := s.cell k w.al[k] _ (List.getElem?_eq_getElem hk) hm
    rw [eP, hP] at hP'
    cases hP'
    obtain ⟨d, e1, e2⟩ := T.all _ _ hc
    cases e1
    exact ⟨w, .refl w, s, rfl, e2⟩
  | new nc tri all =>
    rename_i more
    have hk : k < w.al.length := by rw [s.len]; exact (List.getElem?_eq_some_iff.mp hm).1
    obtain ⟨eP, zP, ps', hP', T⟩ := s.cell k w.al[k] _ (List.getElem?_eq_getElem hk) hm
    have ak : w.al[k]? = some P := by rw [List.getElem?_eq_getElem hk, eP]
    rw [eP] at zP hP'
    rw [hP] at hP'
    cases hP'
    have nPc : P ≠ c' := fun z => by rw [z, nc] at hP; cases hP
    have l : w.le ⟨upd w.Z c' (CodeO c' q), w.al⟩ := ⟨Ex.new (s.zfree nc), List.prefix_refl _⟩
    refine ⟨_, l, ⟨fun b u e => ?_, s.len, s.nd, fun j b cl e1 e2 => ?_⟩, rfl, upd_same⟩
    · have e' : (upd w.Z c' (CodeO c' q)) b = some u := e
      by_cases hb : b = c'
      · subst hb
        rw [upd_same] at e' ⊢
        exact e'
      · rw [upd_ne hb] at e' ⊢
        rw [upd_ne (fun z => by rw [z, zP] at e'; cases e')]
        exact s.ex b u e'
    · by_cases hj : j = k
      · subst hj
        rw [ak] at e1
        cases e1
        rw [hm] at e2
        cases e2
        refine ⟨rfl, ?_, ps ++ more, ?_, tri, fun pos cv hc => ?_⟩
        · show (upd w.Z c' (CodeO c' q)) P = none
          rw [upd_ne nPc]
          exact zP
        · rw [upd_ne nPc, upd_same]
        · rcases all pos cv hc with z | z
          · obtain ⟨d, d1, d2⟩ := T.all pos cv z
            exact ⟨d, d1, l.ex _ _ d2⟩
          · exact ⟨c', z, upd_same⟩
      · have nbP : b ≠ P := fun z => by
          subst z
          exact hj (nd_one s.nd e1 ak)
        have nbc : b ≠ c' := fun z => by
          obtain ⟨o, ho⟩ := s.there e1
          rw [z, nc] at ho
          cases ho
        exact (s.cell j b cl e1 e2).keep l (fun z => by
          show (upd w.Z c' (CodeO c' q)) b = none
          rw [upd_ne nbc]
          exact z) (by rw [upd_ne nbc, upd_ne nbP])
section
variable {c : Ct} {ρ : Env} {m : Store} {P : PD} {wordOf : Value → Option (Str × D) → D → Prop}
theorem we_told {tb : XK → TE} {TP : Addr} {q : Str} {k : Nat} {vs : List V} {ds : List D} (hm : m[k]? = some (.tab TP q)) (hv : ∀ K w, RepA K w vs ds)
    (h : ∀ E : XK, WE ⟨c.K, E, fun cls oi m' => ∃ wd, wordOf cls oi wd ∧ P wd m'⟩ (tb E) (ρ ++ ds.map some) m P) : WE c (tTold TP q (Caught c.K wordOf) vs tb) ρ m P := fun σ w H e s o Q kq => by
  have hk : k < w.al.length := by rw [s.len]; exact (List.getElem?_eq_some_iff.mp hm).1
  obtain ⟨eP, zP, ps, hP, T⟩ := s.cell k w.al[k] _ (List.getElem?_eq_getElem hk) hm
  rw [eP] at hP
  refine ⟨ps, hP, ⟨T.tri, fun pos cv hc => let ⟨d, d1, d2⟩ := T.all pos cv hc; ⟨d, d1, s.ex _ _ d2⟩⟩, fun c' H1 M => ?_⟩
  obtain ⟨w1, l1, s1, _⟩ := s.made hm hP M
  refine ⟨fun cls od H' => ∃ (w' : Wd) (m' : Store) (oi : Option (Str × D)) (wd : D), w1.le w' ∧ ExcR c.K w' H' od oi ∧ StOk c.K w' m' H' ∧ wordOf cls oi wd ∧ P wd m', ?_, ?_⟩
  · refine h _ _ w1 H1 ((e.mono l1).app (hv _ _)) s1 (fun cls od oi m' w' H' l x s' ⟨wd, e1, p⟩ => ⟨w', m', oi, wd, l, x, s', e1, p⟩) Q (kq.mono l1)
  · rintro cls od H' ⟨w', m', oi, wd, l, x, s', e1, p⟩
    refine ⟨w', m', oi, wd, x, s', e1, fun v d m2 w2 H2 l2 r2 s2 ⟨ed, em⟩ => ?_⟩
    subst ed
    subst em
    exact kq v d m2 w2 H2 (l1.trans (l.trans l2)) r2 s2 p
end
end KR

/-! KX2: within an except suite: isinstance of what was caught, a field of it; counting and finding in lists of flat data; insert. -/
namespace KR
open PySem PySem.Spec PyProof.Rows L2 Evl LamX
/-- isinstance(e, c), e the exception at a, of the class at D, with or without a dict -/
def rIsX (K : PySem.W.Frag) (D a : Addr) (d : Option Addr) : List V → Hp → VK → Prop := fun xs H Q => ∃ (c : V) (cv : Value) (b : Bool), xs = [.ref a, c] ∧ (∀ u, RelV c u → u = cv) ∧ (∀ dd, d = some dd → ∃ fs, H dd = some (.xd fs)) ∧ PySem.W.kitOne K (.ref D) cv = some b ∧ Q (.bl b) H
theorem call_isX {X : Cx} {a D : Addr} {d : Option Addr} {oe : Obj} {pn : List (Addr × Obj)} (C : ExcC X.K D) (hz : Zc (.ref D) d oe) (hf : ∃ vs, oe.data = .fields vs) : CallR (X.suite a ((a, oe) :: pn)) (.builtin "isinstance") (rIsX X.K D a d) := by
  intro pins s σ H xs us Q I r h
  obtain ⟨c, cv, b, ex, hcv, hd, e, q⟩ := h
  subst ex
  cases r with
  | cons rx rr =>
    cases rr with
    | cons rt rr =>
      cases rr
      cases rx
      have ec := hcv _ rt
      subst ec
      obtain ⟨hget, _⟩ := I.pin (a, oe) (List.mem_append_left _ List.mem_cons_self)
      obtain ⟨vs, hv⟩ := hf
      obtain ⟨cd, hc, _⟩ := PySem.W.any_some C.hd
      have isC : (PySem.W.clsIn X.K D).isSome = true := by rw [hc]; rfl
      obtain ⟨od, J⟩ : ∃ od, PySem.W.InstAt s.heap a oe D od := by
        have nc : PySem.W.notCls oe = true := by unfold PySem.W.notCls; rw [hv] <;> rfl
        cases ed : d with
        | none => exact ⟨none, hget, hz.1, nc, by rw [hz.2, ed]; trivial⟩
        | some dd =>
          obtain ⟨fs, hx⟩ := hd dd ed
          obtain ⟨mA, hns, _⟩ := (I.hok dd _ hx : ObjOk _ _ _ _ _ (.xd fs))
          obtain ⟨ob, ho, _⟩ := lookIn_ns hns
          exact ⟨some ob, hget, hz.1, nc, by rw [hz.2, ed]; exact ho⟩
      exact PySem.W.kia_one (PySem.W.kitx_exc isC C.hg C.hk C.hs C.ha C.hn C.ht C.hm) I.kIn J e (fun z => nomatch z) fun tk => ⟨.bl b, H, I.kept (t' := tk) fun _ _ z => z, rfl, q⟩
/-- a suite that never runs -/
theorem pss_falseS {X : Cx} {st : List Stmt} : PSs X st (fun _ _ _ => False) := ⟨fun _ _ _ _ _ _ h => h.elim⟩
theorem mt_countFK {X : Cx} {K : PySem.W.Frag} (h : X.K = K := by rfl) : MtR X "list.count" (rCountF K) := h ▸ mt_countF
theorem mt_indexK {X : Cx} {K : PySem.W.Frag} (h : X.K = K := by rfl) : MtR X "list.index" (rIndex K) := h ▸ mt_index
theorem call_isXK {X : Cx} {K : PySem.W.Frag} {a D : Addr} {d : Option Addr} {oe : Obj} {pn : List (Addr × Obj)} (C : ExcC K D) (hz : Zc (.ref D) d oe) (hf : ∃ vs, oe.data = .fields vs) (h : X.K = K := by rfl) : CallR (X.suite a ((a, oe) :: pn)) (.builtin "isinstance") (rIsX K D a d) := by
  subst h
  exact call_isX C hz hf
/-- an expression that is never reached -/
theorem pe_false {X : Cx} {e : Expr} : PE X e (fun _ _ _ => False) := ⟨fun _ _ _ _ _ _ h => h.elim⟩
theorem pss_or {X : Cx} {st : List Stmt} {t1 t2 : TS} {p1 p2 : Prop} (h1 : p1 → PSs X st t1) (h2 : p2 → PSs X st t2) : PSs X st (fun D σ H => (p1 ∧ t1 D σ H) ∨ (p2 ∧ t2 D σ H)) := ⟨fun pins s σ H D I h => h.elim (fun q => (h1 q.1).run pins s σ H D I q.2) fun q => (h2 q.1).run pins s σ H D I q.2⟩
theorem kit_ne {K : PySem.W.Frag} {a b : Addr} {p : Prop} (h : PySem.W.kitOne K (.ref a) (.ref b) = some false) (_ : p) : a ≠ b := fun e => by
  subst e
  unfold PySem.W.kitOne at h
  rw [if_pos (by simp)] at h
  cases h
section
variable {m : Store} {P : PD}
/-- where a caught exception's dict stands at d -/
abbrev Cd (K : PySem.W.Frag) (d : Option Addr) (oi : Option (Str × V)) : Ct := ⟨K, fun _ _ H => ∀ dd, d = some dd → ∃ f v, oi = some (f, v) ∧ H dd = some (.xd [(f, v)]), fun _ _ _ => True⟩
theorem Cd.of {K : PySem.W.Frag} {d : Option Addr} {oi : Option (Str × V)} {w : Wd} (h : ∀ dd, d = some dd → ∃ f v, oi = some (f, v) ∧ w.Z dd = some (.xd [(f, v)])) : (Cd K d oi).ok w := fun cls od o2 m' w' H' l _ s _ dd e => by
  obtain ⟨f, v, e1, e2⟩ := h dd e
  exact ⟨f, v, e1, s.ex _ _ (l.ex _ _ e2)⟩
theorem Cd.at {K : PySem.W.Frag} {d : Option Addr} {oi : Option (Str × V)} {w : Wd} {H : Hp} (o : (Cd K d oi).ok w) (s : StOk K w m H) : ∀ dd, d = some dd → ∃ f v, oi = some (f, v) ∧ H dd = some (.xd [(f, v)]) := o (.bool true) none none m w H (.refl w) trivial s trivial
theorem wc_isX {K : PySem.W.Frag} {D a : Addr} {d : Option Addr} {oi : Option (Str × V)} {c : V} {cv : Value} {b : Bool} (hc : ∀ u, RelV c u → u = cv) (hk : PySem.W.kitOne K (.ref D) cv = some b) (p : P (.bl b) m) : WC (Cd K d oi) (rIsX K D a d) [.raw (.ref a), .raw c] m P := fun vs w H rs s o Q q => by
  cases rs with
  | cons r1 r2 =>
    cases r2 with
    | cons r2 r3 =>
      cases r3
      cases r1
      cases r2
      exact ⟨c, cv, b, rfl, hc, fun dd e => let ⟨f, v, _, h⟩ := Cd.at o s dd e; ⟨_, h⟩, hk, q _ _ _ _ _ (.refl w) (.bl b) s p⟩
theorem we_xf {K : PySem.W.Frag} {C a d : Addr} {f : Str} {i : Int} {ρ : Env} {te : TE} (h : WE (Cd K (some d) (some (f, .int i))) te ρ m fun x m1 => x = .raw (.ref a) ∧ P (.int i) m1) : WE (Cd K (some d) (some (f, .int i))) (tXf a (.ref C) (some d) C f te) ρ m P := fun σ w H e s o Q q =>
  h σ w H e s o _ fun v x m1 w1 H1 l1 r1 s1 ⟨ex, p⟩ => by
    subst ex
    cases r1
    obtain ⟨f2, v2, e1, e2⟩ := Cd.at (o.mono l1) s1 d rfl
    cases e1
    exact ⟨rfl, rfl, d, _, _, rfl, e2, by simp [List.lookup], q _ _ _ _ _ l1 (.int i) s1 p⟩
end
section
variable {c : Ct} {ρ : Env} {m : Store} {P : PD}
theorem wm_countF {x : D} {ds : List D} {us : List V} {y : D} {v : V} (hx : listD m x = some ds) (hu : ds.map D.flat = us.map some) (hy : y.flat = some v) (p : P (.int ((us.countP fun z => eqV z v : Nat) : Int)) m) : WM c (rCountF c.K) x [y] m P := fun vx vs w H rx rs s o Q q => by
  obtain ⟨a, xs, rfl, hH, rr⟩ := s.list rx hx
  cases rs with
  | cons r1 r2 =>
    cases r2
    have e1 := rr.flat hu
    subst e1
    have e2 := r1.flat hy
    subst e2
    exact ⟨a, xs, _, rfl, rfl, .inl (.inl hH), D.flat_flatV hy, all_flat hu, q _ _ _ _ _ (.refl w) (.int _) s p⟩
theorem wm_indexF {x : D} {ds : List D} {us : List V} {y : D} {v : V} {j : Nat} (hx : listD m x = some ds) (hu : ds.map D.flat = us.map some) (hy : y.flat = some v) (hj : us.findIdx? (fun z => eqV z v) = some j) (p : P (.int (j : Int)) m) : WM c (rIndex c.K) x [y] m P := fun vx vs w H rx rs s o Q q => by
  obtain ⟨a, xs, rfl, hH, rr⟩ := s.list rx hx
  cases rs with
  | cons r1 r2 =>
    cases r2
    have e1 := rr.flat hu
    subst e1
    have e2 := r1.flat hy
    subst e2
    obtain ⟨h1, h2, h3⟩ := List.findIdx?_eq_some_iff_getElem.mp hj
    refine ⟨a, xs, _, j, xs[j], rfl, rfl, .inl (.inl hH), D.flat_flatV hy, all_flat hu, List.getElem?_eq_getElem h1, h2, fun k z hk hz => ?_, q _ _ _ _ _ (.refl w) (.int _) s p⟩
    have := h3 k hk
    rw [List.getElem?_eq_getElem (by omega)] at hz
    rw [← Option.some.inj hz]
    exact Bool.eq_false_iff.mpr this
end
end KR

/-! KX3: insert; a part of a range. -/
namespace KR
open PySem PySem.Spec PyProof.Rows L2 Evl
section
variable {c : Ct} {ρ : Env} {m : Store} {P : PD} {B : Ed} {tb te : TE}
theorem wm_insert {k : Nat} {ds : List D} {i : Int} {y : D} (hm : m[k]? = some (.lst ds)) (hz : ds.length < 10000000) (h0 : 0 ≤ i) (h1 : i < 1000) (p : P .non (m.set k (.lst (ds.take i.toNat ++ [y] ++ ds.drop i.toNat)))) :
    WM c (fun x vs H Q => ∃ (l : Addr) (xs : List V) (i : Int) (y : V), x = .ref l ∧ vs = [.int i, y] ∧ H l = some (.lst xs) ∧ xs.length < sizeLine ∧ 0 ≤ i ∧ i < 2 ^ 63 ∧ Q .non (upd H l (.lst (xs.take i.toNat ++ [y] ++ xs.drop i.toNat)))) (.hd k) [.int i, y] m P := fun vx vs w H rx rs s o Q q => by
  cases rx with
  | hd ha =>
    cases rs with
    | cons r1 r2 =>
      cases r2 with
      | cons r2 r3 =>
        cases r3
        cases r1
        obtain ⟨z, xs, hx, rr⟩ := s.cell _ _ _ ha hm
        have s2 : StOk c.K w (m.set k (.lst (ds.take i.toNat ++ [y] ++ ds.drop i.toNat))) (upd H _ (.lst (xs.take i.toNat ++ [_] ++ xs.drop i.toNat))) := s.change ha z (show CellR c.K w _ _ (.lst (ds.take i.toNat ++ [y] ++ ds.drop i.toNat)) from ⟨z, _, upd_same, ((rr.take _).append (.one r2)).append (rr.drop _)⟩)
        exact ⟨_, xs, i, _, rfl, rfl, hx, by rw [rr.length]; exact Nat.lt_of_lt_of_le hz (by decide), h0, by omega, q _ _ _ _ _ (.refl w) .non s2 p⟩
/-- what a statement comes to, in between -/
theorem ws_mid {t : TS} (N : Env → Store → Prop) (h : WS c t ρ m { B with nx := N }) (k : ∀ ρ' m', N ρ' m' → B.nx ρ' m') : WS c t ρ m B := fun σ w H e s o D ed => h σ w H e s o D ⟨fun σ' ρ' m' w' H' l e' s' p => ed.nx σ' ρ' m' w' H' l e' s' (k ρ' m' p), ed.rt, ed.bk, ed.ct⟩
theorem ws_midW {t : TS} (N : Env → Store → Prop) (h : WS c t ρ m { B with nx := N }) (k : ∀ ρ' m', Wf m' → N ρ' m' → B.nx ρ' m') : WS c t ρ m B := fun σ w H e s o D ed => h σ w H e s o D ⟨fun σ' ρ' m' w' H' l e' s' p => ed.nx σ' ρ' m' w' H' l e' s' (k ρ' m' s'.wf p), ed.rt, ed.bk, ed.ct⟩
/-- [v(a) for a in range(n) if (who knows)]: some part of it -/
theorem we_lcSubR {j : Nat} {tt : TT} {vs : List Nat} {tx : TA} {te : TE} (v : Nat → D) (hv : ∀ a n, (v a).hb n = true) (hj : j ∈ vs)
    (h : WA c tx ρ m fun xs m1 => ∃ n : Nat, xs = [.int n] ∧ n ≤ 1000000 ∧
      (∀ a m', a < n → Grow m1 m' → WT c tt ((wipeD ρ vs).set j (some (.int a))) m' fun b m3 => m3 = m') ∧
      (∀ a m', a < n → Grow m1 m' → WE c te ((wipeD ρ vs).set j (some (.int a))) m' fun d m4 => m4 = m' ∧ d = v a) ∧
      ∀ l' : List Nat, l'.Sublist (List.range n) → P (.lst (l'.map v)) m1) : WE c (tLc (iRng1 tx) (gName j) tt te vs) ρ m P := by
  refine we_lcN (wi_rng1 fun σ w H e s o Q q => h σ w H e s o Q fun x d m1 w1 H1 l1 r1 s1 ⟨n, ex, hl, ht, he, pp⟩ => q x d m1 w1 H1 l1 r1 s1 ⟨n, ex, by omega, ?_⟩)
  rw [Int.toNat_natCast]
  have hb : ∀ (l' : List Nat), hbA m1.length (l'.map v) = true := fun l' => by
    rw [hbA_all]
    intro d hd
    obtain ⟨a, _, rfl⟩ := List.mem_map.mp hd
    exact hv a _
  refine ⟨fun i acc => ∃ l' : List Nat, l'.Sublist (List.range i) ∧ acc = l'.map v, ⟨[], .slnil, rfl⟩, ?_, hl, fun acc _ ⟨l', hs, e⟩ => ⟨by rw [e]; exact hb l', by rw [e]; exact pp l' hs⟩⟩
  rintro i acc m' hi hg wf _ ⟨l', hs, e⟩
  refine wgo_name hj ⟨rfl, (ht i m' hi hg).imp fun b m3 em => ⟨em, fun hbt => (he i m' hi hg).imp fun d m4 ⟨em4, ed⟩ => ⟨em4, ?_⟩, fun hbf => ?_⟩⟩
  · refine ⟨l' ++ [i], ?_, by rw [List.map_append, e, ed]; rfl⟩
    rw [List.range_succ]
    exact hs.append (List.Sublist.refl _)
  · refine ⟨l', ?_, e⟩
    rw [List.range_succ]
    exact hs.trans (List.sublist_append_left _ _)
end
end KR

/-! KX4: pop, parts of tuples. -/
namespace KR
open PySem PySem.Spec PyProof.Rows L2 Evl
section
variable {X : Cx} {K : PySem.W.Frag}
theorem sl_tupK (h : X.K = K := by rfl) : SlR X (rSlT K) := h ▸ sl_tup
end
theorem RepA.eraseIdx {K : PySem.W.Frag} {w : Wd} : ∀ {vs : List V} {ds : List D} (i : Nat), RepA K w vs ds → RepA K w (vs.eraseIdx i) (ds.eraseIdx i)
  | _, _, _, .nil => by
    rw [List.eraseIdx_nil, List.eraseIdx_nil]
    exact .nil
  | _, _, 0, .cons a b => b
  | _, _, i + 1, .cons a b => .cons a (RepA.eraseIdx i b)
section
variable {c : Ct} {ρ : Env} {m : Store} {P : PD} {B : Ed} {tb te : TE}
theorem wsl_tup {ds : List D} {lo hi : Option Int} (hn : ¬ (HT.sIx ds.length 0 lo = 0 ∧ HT.sIx ds.length ds.length hi = ds.length)) (p : P (.tup (cutZ ds lo hi)) m) : WSl c (rSlT c.K) (.tup ds) lo hi m P := fun vx w H rx s o Q q => by
  cases rx with
  | tup a b =>
    refine ⟨_, _, rfl, ex_t s.ex a, by rw [b.length]; exact hn, fun e he => ?_⟩
    obtain ⟨l2, s2⟩ := s.new (o := .tup (L2.cutV _ lo hi)) he
    exact q _ _ _ _ _ l2 (.tup (.inl (.inl (by show (upd w.Z e _) e = _; exact upd_same))) ((b.cutL lo hi).mono l2)) s2 p
theorem wm_popAt {k : Nat} {ds : List D} {i : Nat} {d : D} (hm : m[k]? = some (.lst ds)) (hi : ds[i]? = some d) (hz : i < 1000000) (p : P d (m.set k (.lst (ds.eraseIdx i)))) : WM c rPopAt (.hd k) [.int (i : Int)] m P := fun vx vs w H rx rs s o Q q => by
  cases rx with
  | hd ha =>
    cases rs with
    | cons r1 r2 =>
      cases r2
      cases r1
      obtain ⟨z, xs, hx, rr⟩ := s.cell _ _ _ ha hm
      obtain ⟨v, hv, rv⟩ := rr.get hi
      have hl : i < xs.length := (List.getElem?_eq_some_iff.mp hv).1
      have s2 : StOk c.K w (m.set k (.lst (ds.eraseIdx i))) (upd H _ (.lst (xs.eraseIdx i))) := s.change ha z (show CellR c.K w _ _ (.lst (ds.eraseIdx i)) from ⟨z, _, upd_same, rr.eraseIdx i⟩)
      refine ⟨_, xs, (i : Int), i, v, rfl, rfl, hx, by omega, by omega, ?_, hv, q _ _ _ _ _ (.refl w) rv s2 p⟩
      unfold seqIndex?
      rw [if_neg (by omega : ¬ (i : Int) < 0)]
      dsimp only
      rw [if_pos (by simp; omega), Int.toNat_natCast]
end
end KR

/-! KX5: comprehensions over tuples. -/
namespace KR
open PySem PySem.Spec PyProof.Rows L2 Evl
section
variable {c : Ct} {ρ : Env} {m : Store} {P : PD} {B : Ed} {tb te : TE}
/-- [e(a) for a in t if p(a)] over a tuple -/
theorem we_lcPT {α : Type} {f : α → D} {j : Nat} {tt : TT} {vs : List Nat} (hj : j ∈ vs)
    (h : WE c tb ρ m fun x m1 => ∃ (l : List α) (p : α → Bool) (v : α → D), x = .tup (l.map f) ∧ l.length ≤ 1000000 ∧
      (∀ a m', a ∈ l → Grow m1 m' → WT c tt ((wipeD ρ vs).set j (some (f a))) m' fun b m3 => m3 = m' ∧ b = p a) ∧
      (∀ a m', a ∈ l → Grow m1 m' → p a = true → WE c te ((wipeD ρ vs).set j (some (f a))) m' fun d m4 => m4 = m' ∧ d = v a ∧ d.hb m1.length = true) ∧
      P (.lst ((l.filter p).map v)) m1) : WE c (tLc (iTup c.K tb) (gName j) tt te vs) ρ m P := by
  refine we_lcN (wi_tup (h.imp fun x m1 ⟨l, p, v, ex, hl, ht, he, pp⟩ => ⟨_, ex, ?_⟩))
  rw [List.length_map]
  refine ⟨fun i acc => acc = ((l.take i).filter p).map v ∧ hbA m1.length acc = true, ⟨rfl, rfl⟩, ?_, hl, fun acc _ ⟨e, hb⟩ => ⟨hb, by rw [List.take_length] at e; rw [e]; exact pp⟩⟩
  rintro i acc m' hi hg wf _ ⟨e, hb⟩
  obtain ⟨a, post, h1, h2, h3⟩ := take_step hi
  dsimp only
  rw [getD_map h3]
  have ha := List.mem_of_getElem? h3
  refine wgo_name hj ⟨rfl, (ht a m' ha hg).imp fun b m3 ⟨em, eb⟩ => ⟨em, fun hbt => (he a m' ha hg (by rw [← eb]; exact hbt)).imp fun d m4 ⟨em4, ed, hd⟩ => ⟨em4, ?_, ?_⟩, fun hbf => ⟨?_, hb⟩⟩⟩
  · rw [h2, List.filter_append, List.map_append, e, ed]
    congr 1
    rw [List.filter_cons, if_pos (by rw [← eb]; exact hbt)]
    rfl
  · rw [hbA_all] at hb ⊢
    intro x hx
    rcases List.mem_append.mp hx with h | h
    · exact hb x h
    · rw [List.mem_singleton.mp h]
      exact hd
  · rw [h2, List.filter_append, List.map_append, e]
    rw [List.filter_cons, if_neg (by rw [← eb, hbf]; decide)]
    simp
end
end KR

/-! KX6: lists in cells walked, as long as they don't change. -/
namespace KR
open PySem PySem.Spec PyProof.Rows L2 Evl
structure IterS (c : Ct) (J : It) (w : Wd) (n : Nat) (y : Nat → D) (S : Store → Prop) : Prop where
  go : ∀ i w' m' H', i < n → w.le w' → StOk c.K w' m' H' → S m' → J.go i H' ∧ ∀ x H2, J.yld i H' x H2 → ∃ w2, w'.le w2 ∧ StOk c.K w2 m' H2 ∧ Rep c.K w2 x (y i)
  stop : ∀ w' m' H', w.le w' → StOk c.K w' m' H' → S m' → J.stop n H'
def WIS (c : Ct) (wi : TI) (ρ : Env) (m : Store) (P : Nat → (Nat → D) → (Store → Prop) → Store → Prop) : Prop := ∀ σ w H, EnvR c.K w σ ρ → StOk c.K w m H → c.ok w → ∀ R : It → Hp → Prop,
  (∀ J n y S m' w' H', w.le w' → StOk c.K w' m' H' → IterS c J w' n y S → P n y S m' → R J H') → wi σ H R
section
variable {c : Ct} {ρ : Env} {m : Store} {P : PD} {B : Ed} {ta tb te : TE} {tc : TT} {t u : TS} {g : TG}
theorem ws_par3 {i j l : Nat} {tx : TA} (h : WA c tx ρ m fun ds m1 => ∃ x y z, ds = [x, y, z] ∧ B.nx (((ρ.set i (some x)).set j (some y)).set l (some z)) m1) : WS c (tPar3 i j l tx) ρ m B := fun σ w H e s o D k =>
  h σ w H e s o _ fun vs ds m1 w1 H1 l1 r1 s1 ⟨x, y, z, ed, p1⟩ => by
    subst ed
    cases r1 with
    | cons a r2 =>
      cases r2 with
      | cons b r3 =>
        cases r3 with
        | cons d r4 =>
          cases r4
          exact ⟨_, _, _, rfl, k.nx _ _ _ _ _ l1 ((((e.mono l1).set i a).set j b).set l d) s1 p1⟩
theorem wis_cell {P : Nat → (Nat → D) → (Store → Prop) → Store → Prop} (h : WE c te ρ m fun x m1 => ∃ k ds, x = .hd k ∧ m1[k]? = some (.lst ds) ∧ P ds.length (fun i => ds.getD i .non) (fun m' => m'[k]? = some (.lst ds)) m1) : WIS c (iList c.K te) ρ m P := fun σ w H e s o R q =>
  h σ w H e s o _ fun v d m1 w1 H1 l1 r1 s1 ⟨k, ds, ed, hm, p1⟩ => by
    subst ed
    cases r1 with
    | hd ha =>
      have sq : ∀ w' m' H', w1.le w' → StOk c.K w' m' H' → m'[k]? = some (.lst ds) → ∃ xs, SqL c.K H' _ xs ∧ RepA c.K w' xs ds := fun w' m' H' l s hk => by
        obtain ⟨z, xs, hx, rr⟩ := s.cell k _ _ (l.at ha) hk
        exact ⟨xs, .inl (.inl hx), rr⟩
      obtain ⟨xs0, sq0, _⟩ := sq w1 m1 H1 (.refl _) s1 hm
      refine ⟨_, rfl, ⟨_, sq0⟩, q _ _ _ _ _ _ _ l1 s1 ⟨fun i w' m' H' hi l s hk => ?_, fun w' m' H' l s hk => ?_⟩ p1⟩
      · obtain ⟨xs, sq1, rr⟩ := sq w' m' H' l s hk
        obtain ⟨v, hv, rv⟩ := rr.get (i := i) (d := ds.getD i .non) (by rw [List.getD_eq_getElem?_getD, List.getElem?_eq_getElem hi]; rfl)
        refine ⟨⟨_, v, sq1, hv⟩, fun x H2 ⟨e2, hx⟩ => ?_⟩
        subst e2
        have := hx _ sq1
        rw [hv] at this
        rw [← Option.some.inj this]
        exact ⟨w', .refl _, s, rv⟩
      · obtain ⟨xs, sq1, rr⟩ := sq w' m' H' l s hk
        exact ⟨_, sq1, by rw [rr.length]; exact Nat.le_refl _⟩
theorem ws_forS {wi : TI} (h : WIS c wi ρ m fun n y S m1 => ∃ Iv : Nat → Env → Store → Prop, Iv 0 ρ m1 ∧ (∀ i ρ' m', Iv i ρ' m' → S m') ∧
    (∀ i ρ' m', i < n → Iv i ρ' m' → WG c g (y i) ρ' m' fun ρ2 m2 => WS c t ρ2 m2 { nx := Iv (i + 1), ct := Iv (i + 1), bk := B.nx, rt := B.rt }) ∧ ∀ ρ' m', Iv n ρ' m' → B.nx ρ' m') : WS c (tFor wi g t) ρ m B := fun σ w H e s o D k =>
  h σ w H e s o _ fun J n y S m1 w1 H1 l1 s1 it ⟨Iv, i0, hS, step, fin⟩ => by
    refine ⟨fun i mm σ' H' => mm = n - i ∧ i ≤ n ∧ ∃ ρ' m' w', w1.le w' ∧ EnvR c.K w' σ' ρ' ∧ StOk c.K w' m' H' ∧ Iv i ρ' m', ⟨n, rfl, Nat.zero_le _, ρ, m1, w1, .refl _, e.mono l1, s1, i0⟩, ?_⟩
    rintro i mm σ' H' ⟨rfl, hi, ρ', m', w', l', e', s', p'⟩
    by_cases hn : i = n
    · subst hn
      exact .inl ⟨it.stop w' m' H' l' s' (hS _ _ _ p'), k.nx _ _ _ _ _ (l1.trans l') e' s' (fin _ _ p')⟩
    · obtain ⟨hg, hy⟩ := it.go i w' m' H' (by omega) l' s' (hS _ _ _ p')
      refine .inr ⟨hg, fun σ2 H2 => i + 1 ≤ n ∧ ∃ ρ2 m2 w2, w1.le w2 ∧ EnvR c.K w2 σ2 ρ2 ∧ StOk c.K w2 m2 H2 ∧ Iv (i + 1) ρ2 m2, fun σ2 H2 q2 => ⟨n - (i + 1), by omega, rfl, q2.1, q2.2⟩, fun x H2 hx => ?_⟩
      obtain ⟨w2, l2, s2, r2⟩ := hy x H2 hx
      refine step i ρ' m' (by omega) p' x σ' w2 H2 r2 (e'.mono l2) s2 (o.mono (l1.trans (l'.trans l2))) _ fun σ3 ρ3 m3 w3 H3 l3 e3 s3 p3 => ?_
      have l13 := l'.trans (l2.trans l3)
      exact p3 σ3 w3 H3 e3 s3 (o.mono (l1.trans l13)) _ ⟨fun σ4 ρ4 m4 w4 H4 l4 e4 s4 p4 => ⟨by omega, ρ4, m4, w4, l13.trans l4, e4, s4, p4⟩, k.rt.mono (l1.trans l13), k.nx.mono (l1.trans l13), fun σ4 ρ4 m4 w4 H4 l4 e4 s4 p4 => ⟨by omega, ρ4, m4, w4, l13.trans l4, e4, s4, p4⟩⟩
theorem we_lcS {wi : TI} {tt : TT} {vs : List Nat}
    (h : WIS c wi ρ m fun n y S m1 => ∃ Iv : Nat → List D → Store → Prop, Iv 0 [] (m1 ++ [.lst []]) ∧ (∀ i acc m', Iv i acc m' → S m') ∧
      (∀ i acc m', i < n → m'[m1.length]? = some (.lst acc) → Iv i acc m' → WGown c g vs (y i) (wipeD ρ vs) m' fun ρ2 m2 => m2[m1.length]? = some (.lst acc) ∧
        WT c tt ρ2 m2 fun b m3 => m3[m1.length]? = some (.lst acc) ∧ (b = true → WE c te ρ2 m3 fun d m4 => m4[m1.length]? = some (.lst acc) ∧ acc.length < 10000000 ∧ Iv (i + 1) (acc ++ [d]) (m4.set m1.length (.lst (acc ++ [d])))) ∧ (b = false → Iv (i + 1) acc m3)) ∧
      ∀ acc m', m'[m1.length]? = some (.lst acc) → Iv n acc m' → P (.hd m1.length) m') : WE c (tLc wi g tt te vs) ρ m P := fun σ w H e s o Q q =>
  h σ w H e s o _ fun J n y S m1 w1 H1 l1 s1 it ⟨Iv, i0, hS, step, fin⟩ a ha => by
    obtain ⟨w0, l0, s0, r0⟩ := newL s1 ha (.nil : RepA c.K w1 [] [])
    have a0 : w0.al[m1.length]? = some a := by
      cases r0 with
      | hd h => exact h
    refine ⟨fun i mm H' => mm = n - i ∧ i ≤ n ∧ ∃ acc m' w', w0.le w' ∧ StOk c.K w' m' H' ∧ m'[m1.length]? = some (.lst acc) ∧ Iv i acc m', ⟨n, rfl, Nat.zero_le _, [], _, w0, .refl _, s0, by rw [List.getElem?_append_right (Nat.le_refl _)]; simp, i0⟩, ?_⟩
    rintro i mm H' ⟨rfl, hi, acc, m', w', l', s', hm', p'⟩
    by_cases hn : i = n
    · subst hn
      exact .inl ⟨it.stop w' m' H' (l0.trans l') s' (hS _ _ _ p'), q _ _ _ _ _ (l1.trans (l0.trans l')) (.hd (l'.at a0)) s' (fin _ _ hm' p')⟩
    · obtain ⟨hg, hy⟩ := it.go i w' m' H' (by omega) (l0.trans l') s' (hS _ _ _ p')
      refine .inr ⟨hg, fun H2 => i + 1 ≤ n ∧ ∃ acc m2 w2, w0.le w2 ∧ StOk c.K w2 m2 H2 ∧ m2[m1.length]? = some (.lst acc) ∧ Iv (i + 1) acc m2, fun H2 q2 => ⟨n - (i + 1), by omega, rfl, q2.1, q2.2⟩, fun x H2 hx => ?_⟩
      obtain ⟨w2, l2, s2, r2⟩ := hy x H2 hx
      have ll2 := l1.trans (l0.trans (l'.trans l2))
      refine step i acc m' (by omega) hm' p' x (L2.wipe σ vs) w2 H2 r2 ((e.mono ll2).wipe vs) s2 (o.mono ll2) _ fun σ3 ρ3 m3 w3 H3 l3 e3 s3 hw ⟨hm3, p3⟩ => ?_
      have ll3 := ll2.trans l3
      refine ⟨hw.trans (wipe_wipe fun u hu => hu), p3 σ3 w3 H3 e3 s3 (o.mono ll3) _ fun b m4 w4 H4 l4 s4 ⟨hm4, py, pn⟩ => ?_⟩
      have ll4 := ll3.trans l4
      cases b with
      | true =>
        show te σ3 H4 _
        refine py rfl σ3 w4 H4 (e3.mono l4) s4 (o.mono ll4) _ fun v d m5 w5 H5 l5 r5 s5 ⟨hm5, hz, p5⟩ => ?_
        have a5 : w5.al[m1.length]? = some a := (l'.trans (l2.trans (l3.trans (l4.trans l5)))).at a0
        obtain ⟨z5, xs, hx5, rr5⟩ := s5.cell _ _ _ a5 hm5
        refine ⟨xs, hx5, by rw [rr5.length]; exact Nat.lt_of_lt_of_le hz (by decide), by omega, acc ++ [d], _, w5, l'.trans (l2.trans (l3.trans (l4.trans l5))), s5.change (c := .lst (acc ++ [d])) a5 z5 ⟨z5, _, upd_same, rr5.append (.one r5)⟩, List.getElem?_set_self (List.getElem?_eq_some_iff.mp hm5).1, p5⟩
      | false =>
        exact ⟨by omega, acc, m4, w4, l'.trans (l2.trans (l3.trans l4)), s4, hm4, pn rfl⟩
/-- [e(a) for a in l if p(a)] over a list in a cell -/
theorem we_lcC {α : Type} {f : α → D} {j : Nat} {tt : TT} {vs : List Nat} (hj : j ∈ vs)
    (h : WE c tb ρ m fun x m1 => ∃ (k : Nat) (l : List α) (p : α → Bool) (v : α → D), x = .hd k ∧ m1 = m ∧ m[k]? = some (.lst (l.map f)) ∧ l.length ≤ 1000000 ∧
      (∀ a m', a ∈ l → Grow m m' → WT c tt ((wipeD ρ vs).set j (some (f a))) m' fun b m3 => m3 = m' ∧ b = p a) ∧
      (∀ a m', a ∈ l → Grow m m' → p a = true → WE c te ((wipeD ρ vs).set j (some (f a))) m' fun d m4 => m4 = m' ∧ d = v a ∧ d.hb m.length = true) ∧
      P (.lst ((l.filter p).map v)) m) : WE c (tLc (iList c.K tb) (gName j) tt te vs) ρ m P := by
  refine we_wf fun wf0 => we_trm (we_frz (we_lcS (wis_cell (h.imp fun x m1 ⟨k, l, p, v, ex, em, hk, hl, ht, he, pp⟩ => ⟨k, l.map f, ex, by rw [em]; exact hk, ?_⟩))))
  subst em
  rw [List.length_map]
  have hlt := (List.getElem?_eq_some_iff.mp hk).1
  refine ⟨fun i acc m' => m' = m1 ++ [.lst acc] ∧ i ≤ l.length ∧ acc = ((l.take i).filter p).map v ∧ hbA m1.length acc = true, ⟨rfl, Nat.zero_le _, rfl, rfl⟩, fun i acc m' ⟨em, _⟩ => ?_, ?_, ?_⟩
  · dsimp only
    rw [em]
    exact Grow.app _ _ _ _ hk
  · rintro i acc m' hi hm ⟨rfl, _, e, hb⟩
    obtain ⟨a, post, h1, h2, h3⟩ := take_step hi
    dsimp only
    rw [getD_map h3]
    have ha := List.mem_of_getElem? h3
    refine wgo_name hj ⟨hm, (ht a _ ha (Grow.app _ _)).imp fun b m3 ⟨em, eb⟩ => ?_⟩
    subst em
    refine ⟨hm, fun hbt => (he a _ ha (Grow.app _ _) (by rw [← eb]; exact hbt)).imp fun d m4 ⟨em4, ed, hd⟩ => ?_, fun hbf => ?_⟩
    · subst em4
      refine ⟨hm, ?_, ?_, by omega, ?_, ?_⟩
      · rw [e, List.length_map]
        refine Nat.lt_of_le_of_lt (List.length_filter_le _ _) ?_
        rw [List.length_take]
        omega
      · rw [List.set_append_right _ _ (Nat.le_refl _)]
        simp
      · rw [h2, List.filter_append, List.map_append, e, ed]
        congr 1
        rw [List.filter_cons, if_pos (by rw [← eb]; exact hbt)]
        rfl
      · rw [hbA_all] at hb ⊢
        intro x hx
        rcases List.mem_append.mp hx with h | h
        · exact hb x h
        · rw [List.mem_singleton.mp h]
          exact hd
    · refine ⟨rfl, by omega, ?_, hb⟩
      rw [h2, List.filter_append, List.map_append, e]
      rw [List.filter_cons, if_neg (by rw [← eb, hbf]; decide)]
      simp
  · rintro acc m' hm ⟨rfl, _, e, hb⟩
    refine .inr ⟨m1.length, acc, rfl, hm, m1, [.dead], ?_, Nat.le_refl _, wf0, hb, ?_⟩
    · rw [List.set_append_right _ _ (Nat.le_refl _)]
      simp
    · rw [List.take_length] at e
      rw [e]
      exact pp
end
end KR

/-! KO2: len(set(xs)) for a list of keys of any kind, that may tell some more than once. -/
namespace KR
open PySem PySem.Spec PyProof.Rows L2 Evl KM
def addG {β : Type} [DecidableEq β] (acc : List β) (o : β) : List β := if o ∈ acc then acc else acc ++ [o]
def cntG {β : Type} [DecidableEq β] (l : List β) : Nat := (l.foldl addG []).length
theorem mem_foldG {β : Type} [DecidableEq β] {l : List β} : ∀ {acc : List β} {o : β}, o ∈ l.foldl addG acc ↔ o ∈ acc ∨ o ∈ l := by
  induction l with
  | nil => intro acc o; simp
  | cons x l ih =>
    intro acc o
    show o ∈ l.foldl addG (addG acc x) ↔ _
    rw [ih]
    unfold addG
    split
    · rename_i h
      rw [List.mem_cons]
      exact ⟨fun q => q.elim .inl fun q => .inr (.inr q), fun q => q.elim .inl fun q => q.elim (fun e => .inl (e ▸ h)) .inr⟩
    · rw [List.mem_append, List.mem_singleton, List.mem_cons]
      exact or_assoc
theorem cntG_snoc {β : Type} [DecidableEq β] (l : List β) (o : β) : cntG (l ++ [o]) = if o ∈ l then cntG l else cntG l + 1 := by
  unfold cntG
  rw [List.foldl_append]
  show (addG (l.foldl addG []) o).length = _
  have hm : o ∈ l.foldl addG [] ↔ o ∈ l := by
    rw [mem_foldG]
    simp
  generalize l.foldl addG [] = F at hm ⊢
  unfold addG
  by_cases h : o ∈ l
  · rw [if_pos (hm.mpr h), if_pos h]
  · rw [if_neg (fun e => h (hm.mp e)), if_neg h, List.length_append]
    rfl
theorem cntG_le {β : Type} [DecidableEq β] (l : List β) : cntG l ≤ l.length := snocI (p := fun l => cntG l ≤ l.length) (Nat.le_refl 0) (fun l a ih => by
  rw [cntG_snoc, List.length_append, List.length_singleton]
  split <;> omega) l
theorem cntG_one {β : Type} [DecidableEq β] {l : List β} {a : β} (h : ∀ x ∈ l, x = a) (h0 : 0 < l.length) : cntG l = 1 := by
  refine snocI (p := fun l => (∀ x ∈ l, x = a) → 0 < l.length → cntG l = 1) (fun _ h => by simp at h) (fun l b ih h _ => ?_) l h h0
  rw [cntG_snoc]
  have hb := h b (by simp)
  cases l with
  | nil => rfl
  | cons x l =>
    have hx := h x (by simp)
    rw [if_pos (by rw [hb, ← hx]; exact List.mem_cons_self)]
    exact ih (fun y hy => h y (List.mem_append_left _ hy)) (by simp)
/-- v is what o says -/
def IsG {P : Program} {w : World} {β : Type} [DecidableEq β] (knd : PySem.KeyKind P w β) (o : β) (v : Value) : Prop := knd.is o v = true ∧ v.scannable = true
abbrev SetsG {P : Program} {w : World} {β : Type} [DecidableEq β] (knd : PySem.KeyKind P w β) (h : Heap) (a : Addr) (os : List β) : Prop := h.SetOf knd a (fun j => os.any fun o => decide (j = o)) (cntG os)
section
variable {P : Program} {w : World} {β : Type} [DecidableEq β] {knd : PySem.KeyKind P w β} {A : Around} {E : Value → Shared → Prop} {s : Shared}
theorem setOf_atG {h h' : Heap} {a : Addr} {S : β → Bool} {n : Nat} (R : h.SetOf knd a S n) (k : ∀ o, h.get? a = some o → h'.get? a = some o) : h'.SetOf knd a S n := by
  obtain ⟨o, es, ep, t, ho, r⟩ := R
  exact ⟨o, es, ep, t, k o ho, r⟩
theorem set_updateG {I : Addr} {fp wr : List Addr} {G : Array GenState → Array GenState → Prop} {n : Nat} {Pv : Nat → Value → Prop} {St : Nat → Shared → Prop} {R : Result → Shared → Prop}
    (W : WalksS P w A.in1 I fp wr G n Pv St) (S : Addr) (out : S ∉ fp) (os : List β) (hn : n = os.length) (few : n + 1 < scanBound) (vals : ∀ i v, Pv i v → ∃ o, os[i]? = some o ∧ IsG knd o v) :
    ∀ (k i : Nat) (s : Shared), n - i = k → i ≤ n → St i s → SetsG knd s.heap S (os.take i) →
      (∀ s', Moved (S :: wr) G s s' → SetsG knd s'.heap S os → R (.ok (.ret .none)) s') →
      codeAny (model P w) A (.builtin "set.update.loop" ⟨[.ref S, .ref I], []⟩) R s := by
  have outW : S ∉ wr := fun h => out (W.sub _ h)
  have more : ∀ b ∈ wr, b ∈ S :: wr := fun b hb => List.mem_cons_of_mem _ hb
  intro k
  induction k with
  | zero =>
    intro i s hk hi st now done
    obtain rfl : i = n := by omega
    refine codeAny_builtin F.entry_set_update_loop ?_
    rw [Around.under_plainId F.plain_set_update_loop _]
    refine wpAny_bind (m := pyNext (.ref I)) (W.done s _ _ st fun s' mv => wpAny_pure (done s' (mv.mono more) ?_))
    rw [List.take_of_length_le (by omega)] at now
    exact setOf_atG now fun o e => mv.heap S o outW e
  | succ k ih =>
    intro i s hk hi st now done
    have lt : i < n := by omega
    refine codeAny_builtin F.entry_set_update_loop ?_
    rw [Around.under_plainId F.plain_set_update_loop _]
    refine wpAny_bind (m := pyNext (.ref I)) (W.item i s _ _ lt st fun v s' pv st' mv => ?_)
    obtain ⟨o, ho, hv⟩ := vals i v pv
    obtain ⟨v1, v2⟩ := hv
    have now' := setOf_atG now fun o e => mv.heap S o outW e
    refine wpAny_bind (m := holding [v] (setAdd S v)) (wpAny_holding ?_)
    unfold setAdd
    refine wpAny_holding (wpAny_bind (knd.pyHash (k := o) v1 ?_))
    have room : cntG (os.take i) + 1 < scanBound := by
      have := cntG_le (os.take i)
      rw [List.length_take] at this
      omega
    refine wpAny_setAddHashed_of (knd := knd) (s := { s' with toks := s'.toks + 1 }) v1 v2 now' room fun h' sb now2 => ?_
    have next : SetsG knd h' S (os.take (i + 1)) := by
      have e1 : os.take (i + 1) = os.take i ++ [o] := by
        rw [List.take_add_one, ho]
        rfl
      show Heap.SetOf _ _ _ _ _
      rw [e1]
      have e2 : (fun j => (os.take i ++ [o]).any fun o => decide (j = o)) = fun j => ((os.take i).any fun o => decide (j = o)) || decide (j = o) := funext fun j => by
        rw [List.any_append, List.any_cons, List.any_nil, Bool.or_false]
      have e3 : (if ((os.take i).any fun x => decide (o = x)) = true then cntG (os.take i) else cntG (os.take i) + 1) = cntG (os.take i ++ [o]) := by
        rw [cntG_snoc]
        have e4 : ((os.take i).any fun x => decide (o = x)) = true ↔ o ∈ os.take i := by
          rw [List.any_eq_true]
          exact ⟨fun ⟨x, hx, q⟩ => (of_decide_eq_true q) ▸ hx, fun q => ⟨o, q, decide_eq_true rfl⟩⟩
        by_cases c : o ∈ os.take i
        · rw [if_pos c, if_pos (e4.mpr c)]
        · rw [if_neg c, if_neg fun q => c (e4.mp q)]
      rw [e2, ← e3]
      exact now2
    refine wpAny_pure ⟨plainId_quiet F.plain_set_update_loop _, ih (i + 1) _ (by omega) lt (W.frame _ s' _ _ st' (Nat.le_succ _) fun b hb o e => ?_) next fun s'' mv2 fin => ?_⟩
    · rw [sb.2 b fun h : b = S => out (h ▸ hb)]
      exact e
    · refine done s'' (Moved.trans W.gtrans ((mv.mono more).then_heap (Nat.le_succ _) fun b o hb e => ?_) mv2) fin
      rw [sb.2 b fun h : b = S => hb (h ▸ List.mem_cons_self)]
      exact e
theorem setsG_new {h : Heap} {a : Addr} {os : List β} (ho : h.get? a = some (s0 w)) : SetsG knd h a (os.take 0) :=
  ⟨_, #[], 0, _, ho, ⟨rfl, rfl, rfl⟩, rfl, (fun e he => by simp at he), (fun k => by simp), (by decide), (by rfl), rfl⟩
def SetEndG {P : Program} {w : World} {β : Type} [DecidableEq β] (knd : PySem.KeyKind P w β) (s : Shared) (os : List β) (h' : Heap) : Prop :=
  SetsG knd h' s.heap.objs.size os ∧ ∀ b o, s.heap.get? b = some o → h'.get? b = some o
theorem set_ofG {l : Addr} {us : Array Value} (os : List β) {Q : Value → Shared → Prop} (hA : A.handled = none) (il : s.heap.IsList l us) (sz : us.size = os.length) (iu : ∀ (i : Nat) (v : Value), us[i]? = some v → ∃ o, os[i]? = some o ∧ IsG knd o v) (few : os.length + 1 < scanBound)
    (k : ∀ (h' : Heap) (tk : Nat), SetEndG knd s os h' → Q (.ref s.heap.objs.size) { s with heap := h', toks := tk }) :
    wpAny (model P w) A (call (.type "set") [.ref l]) Q E s := by
  obtain ⟨c, tl, hmro⟩ := F.called_set.mro
  have m1 := F.called_set.made
  have m2 := F.called_set.sub
  refine wpAny_call (codeAny_of_tree (?_ : wpAny _ _ (callAny (.type "set") _) _ _ _))
  refine wpAny_pure ⟨Code.quiet_builtin _ (by decide +kernel), codeAny_builtin F.entry_type_call ?_⟩
  rw [Around.under_plain (weight_type_call_type "set" [.ref l] []) rfl]
  have m3 := F.called_set.notType
  have m4 := F.called_set.canCreate
  have m5 := F.typeCall_set_1 (.ref l)
  repeat (any_goals (first | assumption | wp_step))
  refine codeAny_mono (code_set_led1 (.ref l) (E := E) (Q₁ := fun z t => z = .ref s.heap.objs.size ∧ t = { s with heap := s.heap.push (s0 w) }) ⟨rfl, rfl⟩) fun z t hz => ?_
  rcases z with e | fl
  · exact hz
  cases fl with
  | ret z =>
    obtain ⟨rfl, rfl⟩ := hz
    have at0 : (s.heap.push (s0 w)).get? s.heap.objs.size = some (s0 w) := Heap.get?_push_size _ rfl
    have ty0 : Shared.TypeIs { s with heap := s.heap.push (s0 w) } (.ref s.heap.objs.size) "set" := ⟨_, at0, rfl⟩
    have b1 := F.called_set.init.lookup
    have b2 := F.called_set.init.bind (.ref s.heap.objs.size)
    repeat (any_goals (first | assumption | wp_step))
    refine codeAny_mono (codeAny_call_builtin (R := wants (fun z t => z = .none ∧ ∃ h' tk, t = { s with heap := h', toks := tk } ∧ SetEndG knd s os h') E) F.called_set.init.plain F.entry_set_init (check_set_init_1 ty0 ?_)) fun z2 t2 hz2 => ?_
    · obtain ⟨⟨cls, dict, data, slots⟩, ol, oc, n, od⟩ := il
      dsimp only at oc od
      subst oc
      subst od
      have at1 : (s.heap.push (s0 w)).get? l = some ⟨.type "list", dict, .seq us n, slots⟩ := Heap.get?_push_of_some _ ol
      have sub1 := F.sub_list_set
      have sub2 := F.sub_list_frozenset
      have other : (Value.type "list" == Value.type "dict") = false := by decide
      have il1 : (s.heap.push (s0 w)).IsList l us := ⟨_, at1, rfl, n, rfl⟩
      have lt1 : l < s.heap.objs.size := Heap.lt_size ol
      have z1 : (s.heap.push (s0 w)).objs.size = s.heap.objs.size + 1 := Heap.size_push ..
      unfold Builtin.«set.__init__» noKeywords Builtin.Frozenset.updateFrom
      generalize hit : pyIter = IT
      wp_walk
      subst hit
      refine wpAny_pyIter_list il1 (wpAny_bind (wpAny_runValue ?_))
      have hA3 : A.in1.in1.in1.handled = none := by simp [hA]
      have notI : l ≠ (s.heap.push (s0 w)).objs.size := fun h => by
        have h : @Eq Nat l (s.heap.push (s0 w)).objs.size := h
        have lt1 : @LT.lt Nat _ l s.heap.objs.size := lt1
        omega
      have notS : s.heap.objs.size ∉ [(s.heap.push (s0 w)).objs.size, l] := fun h => by
        rcases List.mem_cons.mp h with h | h
        · have h : @Eq Nat s.heap.objs.size (s.heap.push (s0 w)).objs.size := h
          omega
        · have h : @Eq Nat s.heap.objs.size l := List.mem_singleton.mp h
          have lt1 : @LT.lt Nat _ l s.heap.objs.size := lt1
          omega
      have W := Walks.list (prog := P) (w := w) hA3 (s.heap.push (s0 w)).objs.size l notI us
      refine set_updateG W.toS s.heap.objs.size notS os sz (by omega) iu us.size 0 _ (Nat.sub_zero _) (Nat.zero_le _) ⟨⟨_, Heap.get?_push_size _ rfl, rfl, rfl⟩, il1.push _⟩ (setsG_new (Heap.get?_push_of_some _ at0)) ?_
      rintro ⟨h', g, d, tk, os'⟩ mv R'
      obtain rfl : g = s.gens := mv.gens
      obtain rfl : d = s.drawn := mv.drawn
      obtain rfl : os' = s.os := mv.os
      refine wpAny_pure (wpAny_pure ⟨rfl, h', tk, rfl, R', fun b o e => ?_⟩)
      have lb : @LT.lt Nat _ b s.heap.objs.size := Heap.lt_size e
      refine mv.heap b o (fun hb => ?_) (Heap.get?_push_of_some _ (Heap.get?_push_of_some _ e))
      rcases List.mem_cons.mp hb with hb | hb
      · have hb : @Eq Nat b s.heap.objs.size := hb
        omega
      · have hb : @Eq Nat b (s.heap.push (s0 w)).objs.size := List.mem_singleton.mp hb
        omega
    · rcases z2 with e | fl2
      · exact hz2
      cases fl2 with
      | ret z =>
        obtain ⟨rfl, h', tk, rfl, hE⟩ := hz2
        repeat (any_goals (first | assumption | wp_step))
        exact k _ _ hE
      | _ => exact hz2.elim
  | _ => exact hz.elim
end
end KR
namespace KR
open PySem PySem.Spec PyProof.Rows L2 Evl KM
def SetGO {P : Program} {w : World} {β : Type} [DecidableEq β] (knd : PySem.KeyKind P w β) (a : Addr) (os : List β) : HO := .ext fun h => SetsG knd h a os
theorem setGO_new {w : World} {P : Program} {β : Type} [DecidableEq β] {knd : PySem.KeyKind P w β} {H : Hp} {h : Heap} {a : Addr} {os : List β} (R : SetsG knd h a os) : ObjOk P w H h a (SetGO knd a os) := by
  have ⟨o, _, _, _, ho, _⟩ := R
  exact ⟨R, ⟨o, ho⟩, fun h1 h2 p k => setOf_atG p k⟩
section
variable {X : Cx}
/-- a set of bools -/
def rSetB (K : PySem.W.Frag) (P : Program) (w : World) : List V → Hp → VK → Prop := fun xs H Q => ∃ (l : Addr) (os : List Bool), xs = [V.ref l] ∧ SqL K H l (os.map V.bl) ∧ os.length < 4000 ∧
  ∀ a, H a = none → Q (.ref a) (upd H a (SetGO (PpSet.boolK P w) a os))
theorem cr_setB (hc : X.calm = true) : CallR X (.type "set") (rSetB X.K X.prog X.w) := by
  intro pins s σ H xs us Q I r h
  obtain ⟨l, os, rfl, hl, hf, q⟩ := h
  rw [Vals.ref1 r]
  obtain ⟨its, rv, pl, hz⟩ := I.list hl
  have hn : H s.heap.objs.size = none := I.hok.fresh (Nat.le_refl _)
  have sz : its.toArray.size = os.length := by rw [List.size_toArray, ← rv.length, List.length_map]
  refine set_ofG (knd := PpSet.boolK X.prog X.w) os (I.ok.hd hc) pl.isList sz (fun i v hv => ?_) (by unfold scanBound; omega) fun h' tk hE => ?_
  · have hi : i < os.length := sz ▸ (Array.getElem?_eq_some_iff.mp hv).1
    have hv' : its[i]? = some v := by simpa using hv
    refine ⟨os[i], List.getElem?_eq_getElem hi, ?_⟩
    obtain ⟨u, hu, ru⟩ := rv.get (i := i) (x := V.bl os[i]) (by rw [List.getElem?_map, List.getElem?_eq_getElem hi]; rfl)
    rw [hv'] at hu
    cases hu
    have ru : v = .bool os[i] := ru
    rw [ru]
    exact ⟨PpSet.boolK_is _ _ _, rfl⟩
  · exact ⟨.ref s.heap.objs.size, upd H s.heap.objs.size (SetGO (PpSet.boolK X.prog X.w) s.heap.objs.size os), I.laid (t' := tk) hE.2 (Nat.le_refl _) (setGO_new hE.1), rfl, q _ hn⟩
def rLenB (P : Program) (w : World) : List V → Hp → VK → Prop := fun xs H Q => ∃ (a : Addr) (os : List Bool), xs = [V.ref a] ∧ H a = some (SetGO (PpSet.boolK P w) a os) ∧ os.length < 4000 ∧ Q (.int (cntG os : Nat)) H
theorem cr_lenB : CallR X (.builtin "len") (rLenB X.prog X.w) := by
  intro pins s σ H xs us Q I r h
  obtain ⟨a, os, rfl, ha, hl, q⟩ := h
  rw [Vals.ref1 r]
  have R : SetsG (PpSet.boolK X.prog X.w) s.heap a os := (I.hok a _ ha).1
  obtain ⟨o, es, ep, t, ho, hex, hd, _, _, _, hf, hn⟩ := R
  have := cntG_le os
  exact call_len_set ho hex hd hf (by rw [hn]; omega) ⟨.int (cntG os : Nat), H, I.tok _, ⟨_, by rw [hn]⟩, q⟩
theorem cr_setBK {K : PySem.W.Frag} {P : Program} {w : World} (hc : X.calm = true) (h : X.K = K := by rfl) (hp : X.prog = P := by rfl) (hw : X.w = w := by rfl) : CallR X (.type "set") (rSetB K P w) := h ▸ hp ▸ hw ▸ cr_setB hc
theorem cr_lenBK {P : Program} {w : World} (hp : X.prog = P := by rfl) (hw : X.w = w := by rfl) : CallR X (.builtin "len") (rLenB P w) := hp ▸ hw ▸ cr_lenB
end
section
variable {c : Ct} {ρ : Env} {m : Store} {P : PD} {te : TE}
theorem we_lenSetB {P0 : Program} {w0 : World} (h : WE c te ρ m fun x m1 => ∃ (ds : List D) (os : List Bool), listD m1 x = some ds ∧ ds.map D.flat = (os.map V.bl).map some ∧ os.length < 4000 ∧
    P (.int (cntG os : Nat)) m1) : WE c (tCB (rLenB P0 w0) (tCons (tCB (rSetB c.K P0 w0) (tCons te tNil)) tNil)) ρ m P := fun σ w H e s o Q q =>
  h σ w H e s o (fun x H1 => rSetB c.K P0 w0 [x] H1 fun y H2 => rLenB P0 w0 [y] H2 Q) fun v d m1 w1 H1 l1 r1 s1 ⟨ds, os, hx, hf, hl, p⟩ => by
    obtain ⟨a, xs, rfl, hH, rr⟩ := s1.list r1 hx
    have ex : xs = os.map V.bl := rr.flat hf
    subst ex
    refine ⟨a, os, rfl, .inl (.inl hH), hl, fun b hb => ?_⟩
    refine ⟨b, os, rfl, upd_set, hl, ?_⟩
    obtain ⟨l2, s2⟩ := s1.new (o := SetGO (PpSet.boolK P0 w0) b os) hb
    exact q _ _ _ _ _ (l1.trans l2) (.int _) s2 p
end
end KR

/-! KX7: comprehensions that unpack; ranges with a step. -/
namespace KR
open PySem PySem.Spec PyProof.Rows L2 Evl
section
variable {c : Ct} {ρ : Env} {m : Store} {P : PD} {B : Ed} {ta tb te : TE} {tc : TT} {t u : TS} {g : TG}
/-- [e for x, y, z in l if p] over a list that stands still -/
theorem we_lcPU {α : Type} {f : α → D} {fs : α → List D} {js : List Nat} {n : Nat} {tt : TT} {vs : List Nat} (hf : ∀ a, f a = .tup (fs a)) (hn : ∀ a, (fs a).length = n) (hjl : js.length = n) (hj : ∀ j ∈ js, j ∈ vs)
    (h : WE c tb ρ m fun x m1 => ∃ (l : List α) (p : α → Bool) (v : α → D), x = .lst (l.map f) ∧ l.length ≤ 1000000 ∧
      (∀ a m', a ∈ l → Grow m1 m' → WT c tt (setAll (wipeD ρ vs) js (fs a)) m' fun b m3 => m3 = m' ∧ b = p a) ∧
      (∀ a m', a ∈ l → Grow m1 m' → p a = true → WE c te (setAll (wipeD ρ vs) js (fs a)) m' fun d m4 => m4 = m' ∧ d = v a ∧ d.hb m1.length = true) ∧
      P (.lst ((l.filter p).map v)) m1) : WE c (tLc (iList c.K tb) (gTup c.K n (gNs js)) tt te vs) ρ m P := by
  refine we_lcN (wi_list (h.imp fun x m1 ⟨l, p, v, ex, hl, ht, he, pp⟩ => ⟨_, ex, ?_⟩))
  rw [List.length_map]
  refine ⟨fun i acc => acc = ((l.take i).filter p).map v ∧ hbA m1.length acc = true, ⟨rfl, rfl⟩, ?_, hl, fun acc _ ⟨e, hb⟩ => ⟨hb, by rw [List.take_length] at e; rw [e]; exact pp⟩⟩
  rintro i acc m' hi hg wf _ ⟨e, hb⟩
  obtain ⟨a, post, h1, h2, h3⟩ := take_step hi
  dsimp only
  rw [getD_map h3, hf]
  have ha := List.mem_of_getElem? h3
  refine wgo_tup (hn a) hjl hj ⟨rfl, (ht a m' ha hg).imp fun b m3 ⟨em, eb⟩ => ⟨em, fun hbt => (he a m' ha hg (by rw [← eb]; exact hbt)).imp fun d m4 ⟨em4, ed, hd⟩ => ⟨em4, ?_, ?_⟩, fun hbf => ⟨?_, hb⟩⟩⟩
  · rw [h2, List.filter_append, List.map_append, e, ed]
    congr 1
    rw [List.filter_cons, if_pos (by rw [← eb]; exact hbt)]
    rfl
  · rw [hbA_all] at hb ⊢
    intro x hx
    rcases List.mem_append.mp hx with h | h
    · exact hb x h
    · rw [List.mem_singleton.mp h]
      exact hd
  · rw [h2, List.filter_append, List.map_append, e]
    rw [List.filter_cons, if_neg (by rw [← eb, hbf]; decide)]
    simp
theorem wi_rng3 {tx : TA} {P : Nat → (Nat → D) → Store → Prop} (h : WA c tx ρ m fun xs m1 => ∃ (i j s : Int) (n : Nat), xs = [.int i, .int j, .int s] ∧ RgC i j s n ∧ P n (fun k => .int (i + (k : Nat) * s)) m1) : WI c (iRng3 tx) ρ m P := fun σ w H e s o R k =>
  h σ w H e s o _ fun v d m1 w1 H1 l1 r1 s1 ⟨i, j, st, n, ed, hn, p1⟩ => by
    subst ed
    cases r1 with
    | cons r1 r2 => cases r2 with
      | cons r2 r3 => cases r3 with
        | cons r3 r4 =>
          cases r4
          cases r1
          cases r2
          cases r3
          refine ⟨i, j, st, n, rfl, hn, k _ _ _ _ _ _ l1 s1 ⟨fun a w' m' H' ha l s => ⟨ha, fun x H2 ⟨e2, hx⟩ => ?_⟩, fun w' m' H' l s => Nat.le_refl _⟩ p1⟩
          subst e2
          subst hx
          exact ⟨w', .refl _, s, .int _⟩
end
end KR

/-! KX8: a dict whose keys are tuples of ints. -/
namespace L2
open PySem
theorem Room.u1 {k : Nat} {A : Around} (r : Room k A) : A.units + 1 < cLine := by have := r.un; omega
end L2
namespace KR
open PySem PySem.Spec PyProof.Rows L2 Evl
def kI (ns : List Int) : List Key := ns.map Sum.inl
theorem kI_V (ns : List Int) : (kI ns).map kV = ns.map V.int := by
  unfold kI
  rw [List.map_map]
  rfl
theorem RepA.intsV {K : PySem.W.Frag} {w : Wd} : ∀ {ns : List Int} {vs : List V}, RepA K w vs (ns.map D.int) → vs = ns.map V.int
  | [], _, .nil => rfl
  | n :: ns, _, .cons a b => by
    cases a
    rw [RepA.intsV b]
    rfl
section
variable {c : Ct} {ρ : Env} {m : Store} {P : PD} {B : Ed} {ta tb te tv : TE} {tc : TT} {t u : TS} {g : TG} {tx : TA}
theorem we_dnew (p : P (.hd m.length) (m ++ [.obj (.dT [])])) : WE c tDNewT ρ m P := fun σ w H e s o Q q => fun a ha => by
  obtain ⟨l2, s2⟩ := s.newCell (p := a) (o := .dT []) (c := .obj (.dT [])) ha (fun w' l ez => ⟨by rw [ez]; exact s.zfree ha, upd_same⟩)
  refine q _ _ _ _ _ l2 (.hd ?_) s2 p
  show (w.al ++ [a])[m.length]? = some a
  rw [← s.len, List.getElem?_append_right (Nat.le_refl _)]
  simp
/-- the tuple that is made, and the dict, as they stand -/
theorem StOk.dict {K : PySem.W.Frag} {w : Wd} {H : Hp} (s : StOk K w m H) {v : V} {k : Nat} {kvs : List (List Key × V)} (r : Rep K w v (.hd k)) (e : m[k]? = some (.obj (.dT kvs))) : ∃ a, v = .ref a ∧ w.al[k]? = some a ∧ w.Z a = none ∧ H a = some (.dT kvs) := by
  cases r with
  | hd h =>
    obtain ⟨z, x⟩ := s.cell _ _ _ h e
    exact ⟨_, rfl, h, z, x⟩
theorem we_dnotin {i : Nat} (h : WA c tx ρ m fun xs m1 => ∃ (ns : List Int) (k : Nat) (kvs : List (List Key × V)), xs = ns.map .int ∧ ns.length ≤ 1000 ∧ ρ[i]? = some (some (.hd k)) ∧ m1[k]? = some (.obj (.dT kvs)) ∧ P (.bl (!(valV kvs (kI ns)).isSome)) m1) : WE c (tDNotIn (tTup tx) (tVar i)) ρ m P := fun σ w H e s o Q q =>
  h σ w H e s o _ fun v ds m1 w1 H1 l1 r1 s1 ⟨ns, k, kvs, ed, hn, hi, hm, p⟩ => by
    subst ed
    have ev := r1.intsV
    subst ev
    refine ⟨by rw [List.length_map]; exact Nat.le_trans hn (by decide), fun b hb => ?_⟩
    obtain ⟨l2, s2⟩ := s1.new (o := .tup (ns.map V.int)) hb
    obtain ⟨vd, hv, rd⟩ := e.at_ i _ hi
    obtain ⟨a, rfl, ha, hz, hH⟩ := s2.dict (rd.mono (l1.trans l2)) hm
    refine ⟨_, hv, a, valV kvs (kI ns), rfl, DGet.t hH (by rw [kI_V]; exact upd_same), ?_⟩
    exact q _ _ _ _ _ (l1.trans l2) (.bl _) s2 p
theorem we_din {i : Nat} (h : WA c tx ρ m fun xs m1 => ∃ (ns : List Int) (k : Nat) (kvs : List (List Key × V)), xs = ns.map .int ∧ ns.length ≤ 1000 ∧ ρ[i]? = some (some (.hd k)) ∧ m1[k]? = some (.obj (.dT kvs)) ∧ P (.bl (valV kvs (kI ns)).isSome) m1) : WE c (tDIn (tTup tx) (tVar i)) ρ m P := fun σ w H e s o Q q =>
  h σ w H e s o _ fun v ds m1 w1 H1 l1 r1 s1 ⟨ns, k, kvs, ed, hn, hi, hm, p⟩ => by
    subst ed
    have ev := r1.intsV
    subst ev
    refine ⟨by rw [List.length_map]; exact Nat.le_trans hn (by decide), fun b hb => ?_⟩
    obtain ⟨l2, s2⟩ := s1.new (o := .tup (ns.map V.int)) hb
    obtain ⟨vd, hv, rd⟩ := e.at_ i _ hi
    obtain ⟨a, rfl, ha, hz, hH⟩ := s2.dict (rd.mono (l1.trans l2)) hm
    refine ⟨_, hv, a, valV kvs (kI ns), rfl, DGet.t hH (by rw [kI_V]; exact upd_same), ?_⟩
    exact q _ _ _ _ _ (l1.trans l2) (.bl _) s2 p
theorem we_dget {i k : Nat} (hi : ρ[i]? = some (some (.hd k))) (h : WA c tx ρ m fun xs m1 => ∃ (ns : List Int) (kvs : List (List Key × V)) (x : Int), xs = ns.map .int ∧ ns.length ≤ 1000 ∧ m1[k]? = some (.obj (.dT kvs)) ∧ valV kvs (kI ns) = some (.int x) ∧ P (.int x) m1) : WE c (tDGet (tVar i) (tTup tx)) ρ m P := fun σ w H e s o Q q => by
  obtain ⟨vd, hv, rd⟩ := e.at_ i _ hi
  refine ⟨_, hv, h σ w H e s o _ fun v ds m1 w1 H1 l1 r1 s1 ⟨ns, kvs, x, ed, hn, hm, hx, p⟩ => ?_⟩
  subst ed
  have ev := r1.intsV
  subst ev
  refine ⟨by rw [List.length_map]; exact Nat.le_trans hn (by decide), fun b hb => ?_⟩
  obtain ⟨l2, s2⟩ := s1.new (o := .tup (ns.map V.int)) hb
  obtain ⟨a, rfl, ha, hz, hH⟩ := s2.dict (rd.mono (l1.trans l2)) hm
  refine ⟨a, .int x, rfl, ?_, q _ _ _ _ _ (l1.trans l2) (.int _) s2 p⟩
  have := DGet.t (k := kI ns) hH (by rw [kI_V]; exact upd_same (a := b))
  rw [hx] at this
  exact this
theorem ws_dput {i : Nat} (h : WE c tv ρ m fun y m1 => ∃ (x : Int) (k : Nat), y = .int x ∧ ρ[i]? = some (some (.hd k)) ∧ WA c tx ρ m1 fun xs m2 => ∃ (ns : List Int) (kvs : List (List Key × V)), xs = ns.map .int ∧ ns.length ≤ 1000 ∧ m2[k]? = some (.obj (.dT kvs)) ∧ kvs.length < 1000000 ∧
    B.nx ρ (m2.set k (.obj (.dT (putK kvs (kI ns) (.int x)))))) : WS c (sDPut (tVar i) (tTup tx) tv) ρ m B := fun σ w H e s o D q =>
  h σ w H e s o _ fun v d m1 w1 H1 l1 r1 s1 ⟨x, k, ed, hi, h2⟩ => by
    subst ed
    obtain ⟨vd, hv, rd⟩ := e.at_ i _ hi
    cases r1
    refine ⟨_, hv, h2 σ w1 H1 (e.mono l1) s1 (o.mono l1) _ fun vs ds m2 w2 H2 l2 r2 s2 ⟨ns, kvs, ed, hn, hm, hl, p⟩ => ?_⟩
    subst ed
    have ev := r2.intsV
    subst ev
    refine ⟨by rw [List.length_map]; exact Nat.le_trans hn (by decide), fun b hb => ?_⟩
    obtain ⟨l3, s3⟩ := s2.new (o := .tup (ns.map V.int)) hb
    obtain ⟨a, rfl, ha, hz, hH⟩ := s3.dict (rd.mono ((l1.trans l2).trans l3)) hm
    refine ⟨a, _, rfl, DPut.t (k := kI ns) hH (by rw [kI_V]; exact upd_same) (Nat.lt_of_lt_of_le hl (by decide)), ?_⟩
    exact q.nx _ _ _ _ _ ((l1.trans l2).trans l3) (e.mono ((l1.trans l2).trans l3)) (s3.change (c := .obj (.dT (putK kvs (kI ns) (.int x)))) ha hz ⟨hz, upd_same⟩) p
end
theorem kI_inj : ∀ {a b : List Int}, kI a = kI b → a = b
  | [], [], _ => rfl
  | [], _ :: _, h => by cases h
  | _ :: _, [], h => by cases h
  | x :: a, y :: b, h => by
    have h : (Sum.inl x : Key) :: kI a = Sum.inl y :: kI b := h
    injection h with h1 h2
    rw [Sum.inl.inj h1, kI_inj h2]
end KR

/-! KXE: the end of a law in which one def holds lambdas. -/
namespace KR
open PySem PySem.Spec PyProof.Rows L2 Evl LamX
/-- the law's promise, the table at P empty -/
def spLawT (K : PySem.W.Frag) (P : Addr) : Sp := fun vs H Q _ => ∃ (a : Addr) (ns : List Int), vs = [.ref a] ∧ SqL K H a (ns.map V.int) ∧ ns.length ≤ 63 ∧ H P = some (.tbl #[]) ∧ ∀ H', Q (.bl true) H'
theorem walk_tab {l : PySem.W.OpenLaw} {q : Program} {loose : List Str} {XP : (Str → Option Value) → Heap → Prop} {YP : World → Heap → Prop} {d dx : DefRec} {K : Params → PySem.W.Frag} {k : Nat} {x : Str} (hn : l.most = some 63) (hdf : d.params.defaults = []) (hr : Room k callerA)
    (hY : ∀ (w : World) (h : Heap), YP w h → (K w.params).In h) (hx : (recsOf q).find? (fun e => e.name == x) = some dx)
    (F : ∀ (w : World) (mg : Str → Option Value) (fa : Addr) (h : Heap), (K w.params).In h → h.Ns mainGlobals mg → mg d.name = some (.ref fa) → ∃ c P : Addr, PySem.W.tabIn (K w.params) x = some (c, P) ∧ (K w.params).lookup P = none ∧
      ∃ fd : FuncData, (∀ (s : Shared) (u : Value), BindsTo s fd ⟨[u], []⟩ [("_law_script", u)]) ∧ ∀ base : Heap, (K w.params).In base → base.Ns mainGlobals mg → TabB base mg c P → FnOk l.prog w (K w.params) mg base CX0 k fa fd ["_law_script"] (spLawT (K w.params) P)) :
    PySem.W.WalkO q loose XP YP l.row.toRowW d [] (fun f vs => PySem.call f vs) := by
  refine Att.attach_callB hn hdf fun w s₀ s₁ mg mb fa o pm cd doc a vs ns G Y ho hd hcd hmg hobj hints hlen hbits hg => ?_
  have KY := hY w _ Y
  obtain ⟨c, P, tb, np, fd, hb, hF⟩ := F w mg fa _ KY G.T.g hmg
  obtain ⟨hC, hT⟩ := PySem.W.tab_of G.T KY hx tb
  exact law_callTs (cs := [(c, P)]) (CX := CX0) (sp := spLawT (K w.params) P) KY G.T.g G.T.b G.T.builtins G.T.nolimit hg (fun p hp => by rw [List.mem_singleton.mp hp]; exact hT) (fun p hp => by rw [List.mem_singleton.mp hp]; exact np) (fun p hp => by rw [List.mem_singleton.mp hp]; exact hC) G.T.bmain hobj hints (Nat.le_trans hlen (by decide)) hr
    (fun base b1 b2 b3 => hF base b1 b2 (b3 (c, P) List.mem_cons_self)) hb (fun H hH hS => ⟨a, ns, rfl, hS, hlen, hH (c, P) List.mem_cons_self, fun _ => rfl⟩) fun H e s' z => z
end KR

/-! KXS: many cells frozen at once. -/
namespace KR
open PySem PySem.Spec PyProof.Rows L2 Evl
def Subs (P : PD) : List (Nat × List D) → PD
  | [], d, m => P d m
  | x :: l, d, m => m[x.1]? = some (.lst x.2) ∧ Subs P l (d.sub x.1 x.2) (m.set x.1 .dead)
def subsD (l : List (Nat × List D)) (d : D) : D := l.foldl (fun d x => d.sub x.1 x.2) d
def deads (l : List (Nat × List D)) (m : Store) : Store := l.foldl (fun m x => m.set x.1 .dead) m
section
variable {c : Ct} {ρ : Env} {m : Store} {P : PD} {te : TE}
theorem Kt.subs {Q : VK} : ∀ {l : List (Nat × List D)} {w : Wd}, Kt c w P Q → Kt c w (Subs P l) Q
  | [], _, q => q
  | (k, xs) :: l, w, q => fun v d m' w' H' l1 r s' ⟨hm, p⟩ => by
    have hk := (List.getElem?_eq_some_iff.mp hm).1
    rw [← s'.len] at hk
    obtain ⟨w2, l2, al2, s2, r2⟩ := s'.freeze (List.getElem?_eq_getElem hk) hm
    exact Kt.subs (l := l) q _ _ _ _ _ (l1.trans l2) (Rep.sub (by rw [al2]; exact List.getElem?_eq_getElem hk) r2 (r.mono l2)) s2 p
theorem we_subs (h : WE c te ρ m fun d m' => ∃ l, Subs P l d m') : WE c te ρ m P := fun σ w H e s o Q q => h σ w H e s o Q fun v d m' w' H' l r s' ⟨l2, p⟩ => Kt.subs q v d m' w' H' l r s' p
theorem subs_intro : ∀ {l : List (Nat × List D)} {d : D} {m : Store}, (l.map (·.1)).Nodup → (∀ x ∈ l, m[x.1]? = some (.lst x.2)) → P (subsD l d) (deads l m) → Subs P l d m
  | [], _, _, _, _, p => p
  | x :: l, d, m, n, h, p => by
    have n := List.nodup_cons.mp n
    refine ⟨h x List.mem_cons_self, subs_intro n.2 (fun y hy => ?_) p⟩
    rw [List.getElem?_set_ne (fun e => n.1 (List.mem_map.mpr ⟨y, hy, e.symm⟩))]
    exact h y (List.mem_cons_of_mem _ hy)
theorem subA_map {k : Nat} {xs : List D} : ∀ {ds : List D}, subA k xs ds = ds.map (D.sub k xs)
  | [] => rfl
  | d :: ds => congrArg (D.sub k xs d :: ·) subA_map
theorem subsD_tup : ∀ {l : List (Nat × List D)} {ds : List D}, subsD l (.tup ds) = .tup (ds.map (subsD l))
  | [], ds => by
    show D.tup ds = .tup (ds.map fun d => d)
    rw [List.map_id']
  | x :: l, ds => by
    show subsD l (.tup (subA x.1 x.2 ds)) = _
    rw [subsD_tup, subA_map, List.map_map]
    rfl
theorem subsD_lst : ∀ {l : List (Nat × List D)} {ds : List D}, subsD l (.lst ds) = .lst (ds.map (subsD l))
  | [], ds => by
    show D.lst ds = .lst (ds.map fun d => d)
    rw [List.map_id']
  | x :: l, ds => by
    show subsD l (.lst (subA x.1 x.2 ds)) = _
    rw [subsD_lst, subA_map, List.map_map]
    rfl
theorem subsD_int {i : Int} : ∀ {l : List (Nat × List D)}, subsD l (.int i) = .int i
  | [] => rfl
  | x :: l => subsD_int (l := l)
theorem subsD_bl {i : Bool} : ∀ {l : List (Nat × List D)}, subsD l (.bl i) = .bl i
  | [] => rfl
  | x :: l => subsD_bl (l := l)
theorem subsD_non : ∀ {l : List (Nat × List D)}, subsD l .non = .non
  | [] => rfl
  | x :: l => subsD_non (l := l)
theorem sub_hd {k j : Nat} {xs : List D} (h : j ≠ k) : D.sub k xs (.hd j) = .hd j := if_neg h
theorem sub_hdS {k : Nat} {xs : List D} : D.sub k xs (.hd k) = .lst xs := if_pos rfl
theorem subsD_hd {k : Nat} {xs : List D} (hx : ∀ y ∈ xs, ∀ l, subsD l y = y) : ∀ {l : List (Nat × List D)}, (k, xs) ∈ l → (l.map (·.1)).Nodup → subsD l (.hd k) = .lst xs
  | x :: l, h, n => by
    have n := List.nodup_cons.mp n
    show subsD l (D.sub x.1 x.2 (.hd k)) = _
    rcases List.mem_cons.mp h with e | h
    · rw [← e, sub_hdS, subsD_lst]
      congr 1
      exact (List.map_congr_left fun y hy => hx y hy l).trans (List.map_id' xs)
    · rw [sub_hd fun e => n.1 (List.mem_map.mpr ⟨_, h, e⟩)]
      exact subsD_hd hx h n.2
theorem deads_len : ∀ {l : List (Nat × List D)} {m : Store}, (deads l m).length = m.length
  | [], _ => rfl
  | x :: l, m => by
    show (deads l (m.set x.1 .dead)).length = _
    rw [deads_len, List.length_set]
theorem deads_get {j : Nat} : ∀ {l : List (Nat × List D)} {m : Store}, (∀ x ∈ l, j ≠ x.1) → (deads l m)[j]? = m[j]?
  | [], _, _ => rfl
  | x :: l, m, h => by
    show (deads l (m.set x.1 .dead))[j]? = _
    rw [deads_get fun y hy => h y (List.mem_cons_of_mem _ hy), List.getElem?_set_ne fun e => h x List.mem_cons_self e.symm]
theorem take_same {m m' : Store} (hl : m.length ≤ m'.length) (h : ∀ j, j < m.length → m'[j]? = m[j]?) : m' = m ++ m'.drop m.length := by
  apply List.ext_getElem?
  intro j
  by_cases hj : j < m.length
  · rw [h j hj, List.getElem?_append_left hj]
  · rw [List.getElem?_append_right (by omega), List.getElem?_drop]
    congr 1
    omega
end
end KR

/-! KX9: a for loop over a list in a cell, which doesn't change. -/
namespace KR
open PySem PySem.Spec PyProof.Rows L2 Evl
section
variable {c : Ct} {ρ : Env} {m : Store} {P : PD} {B : Ed} {ta tb te : TE} {tc : TT} {t u : TS} {g : TG}
theorem ws_forC {α : Type} {f : α → D} (h : WE c te ρ m fun x m1 => ∃ (k : Nat) (l : List α), x = .hd k ∧ m1[k]? = some (.lst (l.map f)) ∧ ∃ Iv : List α → Env → Store → Prop, Iv [] ρ m1 ∧ (∀ pre ρ' m', Iv pre ρ' m' → m'[k]? = some (.lst (l.map f))) ∧
    (∀ pre a post ρ' m', l = pre ++ a :: post → Iv pre ρ' m' → WG c g (f a) ρ' m' fun ρ2 m2 => WS c t ρ2 m2 { nx := Iv (pre ++ [a]), ct := Iv (pre ++ [a]), bk := B.nx, rt := B.rt }) ∧ ∀ ρ' m', Iv l ρ' m' → B.nx ρ' m') :
    WS c (tFor (iList c.K te) g t) ρ m B := by
  refine ws_forS (wis_cell (h.imp fun x m1 ⟨k, l, ex, hk, Iv, i0, hS, step, fin⟩ => ⟨k, _, ex, hk, fun i => Iv (l.take i), i0, fun i ρ' m' hv => hS _ _ _ hv, ?_, ?_⟩))
  · rintro i ρ' m' hi hv
    rw [List.length_map] at hi
    obtain ⟨a, post, h1, h2, h3⟩ := take_step hi
    dsimp only
    rw [getD_map h3, h2]
    exact step _ _ _ _ _ h1 hv
  · rintro ρ' m' hv
    rw [List.length_map, List.take_length] at hv
    exact fin _ _ hv
end
end KR

/-! KXD: a dict whose keys and values are ints or None; while. -/
namespace KR
open PySem PySem.Spec PyProof.Rows L2 Evl
/-- what is told last of a key -/
def lastO (kvs : List (Option Int × Option Int)) (k : Option Int) : Option (Option Int) := (kvs.reverse.find? fun p => decide (p.1 = k)).map (·.2)
def DicO (P : Program) (w : World) (kvs : List (Option Int × Option Int)) (a : Addr) : HO := .ext fun h => ∃ vs : List (Option Key × Value), h.DictOf (noneKind P w) a vs ∧ ∀ k x, lastO kvs k = some x → ∃ u, valueAt vs (kO k) = some u ∧ RelV (vO x) u
section
variable {X : Cx}
def rDictO (K : PySem.W.Frag) (P : Program) (w : World) : List V → Hp → VK → Prop := fun xs H Q => ∃ (a : Addr) (ps : List Addr) (kvs : List (Option Int × Option Int)), xs = [.ref a] ∧ SqL K H a (ps.map V.ref) ∧ Paired (fun p kv => SqT K H p [vO kv.1, vO kv.2]) ps kvs ∧
  ∀ p, H p = none → Q (.ref p) (upd H p (DicO P w kvs p))
theorem pairs_ofO {pins : List (Addr × Obj)} {σ : L2.St} {H : Hp} {s : Shared} (I : Inv X pins σ H s) : ∀ {ps : List Addr} {kvs : List (Option Int × Option Int)}, Paired (fun p kv => SqT X.K H p [vO kv.1, vO kv.2]) ps kvs →
    ∃ prs : List (Value × Value), prs.length = ps.length ∧ Paired (fun kv q => IsO kv.1 q.1 ∧ RelV (vO kv.2) q.2) kvs prs ∧ ∀ (j : Nat) (q : Value × Value), prs[j]? = some q → ∃ b : Addr, ps[j]? = some b ∧ IsTup s.heap b #[q.1, q.2]
  | _, _, .nil => ⟨[], rfl, .nil, fun j q e => by simp at e⟩
  | _, _, .cons (a := p) (b := kv) h t => by
    obtain ⟨prs, hl, hp, hb⟩ := pairs_ofO I t
    obtain ⟨its, rv, ht, _⟩ := I.tuple h
    obtain ⟨u, y, ei, ru, ry⟩ := vals2 rv
    subst ei
    refine ⟨(u, y) :: prs, by rw [List.length_cons, List.length_cons, hl], .cons ⟨isO_rel ru, ry⟩ hp, fun j q e => ?_⟩
    cases j with
    | zero =>
      have e' : (u, y) = q := Option.some.inj e
      subst e'
      exact ⟨p, rfl, ht⟩
    | succ j =>
      obtain ⟨b, e1, e2⟩ := hb j q (by simpa using e)
      exact ⟨b, by simpa using e1, e2⟩
theorem value_last : ∀ {kvs : List (Option Int × Option Int)} {prs : List (Value × Value)}, Paired (fun kv q => IsO kv.1 q.1 ∧ RelV (vO kv.2) q.2) kvs prs → ∀ (k x : Option Int), (kvs.find? fun p => decide (p.1 = k)).map (·.2) = some x →
    ∃ u, valueAt ((kvs.zip prs).map fun z => (kO z.1.1, z.2.2)) (kO k) = some u ∧ RelV (vO x) u
  | _, _, .nil, k, x, e => by cases e
  | _, _, .cons (a := kv) (b := q) h t, k, x, e => by
    rw [List.zip_cons_cons, List.map_cons, valueAt_cons]
    rw [List.find?_cons] at e
    by_cases hk : kv.1 = k
    · rw [decide_eq_true hk] at e
      have e := Option.some.inj e
      subst e
      subst hk
      exact ⟨q.2, by simp, h.2⟩
    · rw [decide_eq_false hk] at e
      have nk : ¬ kO kv.1 = kO k := fun z => hk (kO_inj z)
      obtain ⟨u, h1, h2⟩ := value_last t k x e
      exact ⟨u, by simp [nk, h1], h2⟩
theorem paired_get {α β : Type} {R : α → β → Prop} : ∀ {xs : List α} {ys : List β}, Paired R xs ys → ∀ {i : Nat} {x : α}, xs[i]? = some x → ∃ y, ys[i]? = some y ∧ R x y
  | _, _, .nil, i, x, e => by simp at e
  | _, _, .cons (b := b) h t, 0, x, e => by
    have e := Option.some.inj e
    subst e
    exact ⟨b, rfl, h⟩
  | _, _, .cons h t, i + 1, x, e => by
    obtain ⟨y, e1, e2⟩ := paired_get t (i := i) (x := x) (by simpa using e)
    exact ⟨y, by simpa using e1, e2⟩
theorem rev_zip {α β : Type} {xs : List α} {ys : List β} (h : xs.length = ys.length) : xs.reverse.zip ys.reverse = (xs.zip ys).reverse := by
  induction xs generalizing ys with
  | nil => simp
  | cons x xs ih =>
    cases ys with
    | nil => cases h
    | cons y ys =>
      have h' : xs.length = ys.length := Nat.succ.inj h
      rw [List.reverse_cons, List.reverse_cons, List.zip_cons_cons, List.reverse_cons, ← ih h', List.zip_append (by simpa using h')]
      rfl
theorem Paired.rev {α β : Type} {R : α → β → Prop} : ∀ {xs : List α} {ys : List β}, Paired R xs ys → Paired R xs.reverse ys.reverse := by
  have app : ∀ {xs : List α} {ys : List β} {x : α} {y : β}, Paired R xs ys → R x y → Paired R (xs ++ [x]) (ys ++ [y]) := fun {xs ys x y} h r => by
    induction h with
    | nil => exact .cons r .nil
    | cons a t ih => exact .cons a ih
  intro xs ys h
  induction h with
  | nil => exact .nil
  | cons a t ih =>
    rw [List.reverse_cons, List.reverse_cons]
    exact app ih a
theorem cr_dictO (hc : X.calm = true) : CallR X (.type "dict") (rDictO X.K X.prog X.w) := by
  intro pins s σ H xs us Q I r q
  obtain ⟨a, ps, kvs, ex, hq, hp, q⟩ := q
  subst ex
  obtain ⟨u, eu, rx⟩ := vals1 r
  subst eu
  cases rx
  obtain ⟨its, rv, pl, hz⟩ := I.list hq
  have ei := refs_at rv
  subst ei
  rw [List.length_map] at hz
  obtain ⟨prs, hl, hpr, hb⟩ := pairs_ofO I hp
  have hkl : kvs.length = prs.length := Paired.length hpr
  obtain ⟨o, n, ho, hcl, hd, hdat⟩ := pl
  refine PySem.call_dict_pairs (knd := noneKind X.prog X.w) (kvs := (kvs.zip prs).map fun z => (kO z.1.1, z.2.2)) (PairArg.list a (ps.map Value.ref).toArray (fun j => ps.getD j 0) prs) (I.ok.hd hc) ⟨⟨o, n, ho, hcl, hd, hdat⟩, ⟨by simp [hl], fun j k v e => ?_⟩⟩ ⟨by rw [List.length_map, List.length_zip, hkl, Nat.min_self], fun i key v e => ?_⟩ (by rw [hl]; exact hz) fun h' tk hd' k => ?_
  · obtain ⟨b, e1, e2⟩ := hb j (k, v) e
    refine ⟨by simp [e1], ?_⟩
    show PairAt s.heap (ps.getD j 0) k v
    rw [List.getD_eq_getElem?_getD, e1]
    obtain ⟨o', ho', hc', n', hd'⟩ := e2
    exact .inl ⟨o', ho', hc', n', hd'⟩
  · have e : prs[i]? = some (key, v) := e
    have hi : i < kvs.length := by rw [hkl]; exact (List.getElem?_eq_some_iff.mp e).1
    have hrel := paired_get hpr (List.getElem?_eq_getElem hi)
    obtain ⟨q', e1, e2, e3⟩ := hrel
    rw [e] at e1
    cases e1
    refine ⟨kO kvs[i].1, ?_, (isO_is e2).1⟩
    have ez : (kvs.zip prs)[i]? = some (kvs[i], (key, v)) := List.getElem?_zip_eq_some.mpr ⟨List.getElem?_eq_getElem hi, e⟩
    rw [List.getElem?_map, ez]
    rfl
  · have hk : ∀ b o, s.heap.get? b = some o → h'.get? b = some o := fun b o e => k b o (by simp) e
    refine ⟨.ref s.heap.objs.size, upd H s.heap.objs.size (DicO X.prog X.w kvs s.heap.objs.size), I.laid (t' := tk) hk (Nat.le_refl _) ?_, rfl, q _ (I.hok.fresh (Nat.le_refl _))⟩
    obtain ⟨ob, es, ep, h1, h2⟩ := id hd'
    refine ⟨⟨_, hd', fun k0 x e => ?_⟩, ⟨ob, h1⟩, fun h1 h2 ⟨vs, a1, a2⟩ st => ⟨vs, a1.at st, a2⟩⟩
    rw [valueAt_merged]
    have hr := value_last (Paired.rev hpr) k0 x e
    have ez : (kvs.reverse.zip prs.reverse).map (fun z : (Option Int × Option Int) × (Value × Value) => (kO z.1.1, z.2.2)) = ((kvs.zip prs).map fun z => (kO z.1.1, z.2.2)).reverse := by
      rw [← List.map_reverse]
      congr 1
      exact rev_zip hkl
    rw [ez] at hr
    obtain ⟨u, e1, e2⟩ := hr
    exact ⟨u, by rw [e1], e2⟩
theorem cr_dictOK {K : PySem.W.Frag} {P : Program} {w : World} (hc : X.calm = true) (h : X.K = K := by rfl) (hp : X.prog = P := by rfl) (hw : X.w = w := by rfl) : CallR X (.type "dict") (rDictO K P w) := h ▸ hp ▸ hw ▸ cr_dictO hc
/-- d[y] -/
def tDGetO (P : Program) (w : World) (td ty : TE) : TE := fun σ H Q => td σ H fun x H1 => ty σ H1 fun y H2 => ∃ a kvs k v, x = .ref a ∧ H2 a = some (DicO P w kvs a) ∧ y = vO k ∧ lastO kvs k = some v ∧ Q (vO v) H2
theorem pe_dgetO {o i : Expr} {pos : Pos} {td ty : TE} (ho : PE X o td) (hi : PE X i ty) (hs : NoSl i) : PE X (.Subscript o i pos) (tDGetO X.prog X.w td ty) := by
  refine ⟨fun pins s σ H Q I h => ?_⟩
  refine subD_of PySem.F.slot_dict_getitem.lookup hs (thn (ho.run pins s σ H _ I h) fun u s1 ⟨x, H1, I1, rx, q1⟩ => thn (hi.run pins s1 σ H1 _ I1 q1) fun iv s2 ⟨y, H2, I2, ry, a, kvs, k, v, ex, e, ey, l, q2⟩ => ?_)
  subst ex
  subst ey
  obtain rfl : u = Value.ref a := rx
  obtain ⟨⟨vs, dd, hl⟩, _, _⟩ := I2.hok a _ e
  obtain ⟨w', hw, rw'⟩ := hl k v l
  refine ⟨dd.typeIs, wpAny_getItem_of (isO_is (isO_rel ry)).1 dd.mapOf hw ⟨vO v, H2, I2.tok _, rw', q2⟩⟩
theorem pe_dgetOK {P : Program} {w : World} {e : Expr} {td ty : TE} (hp : PE X e (tDGetO X.prog X.w td ty)) (h1 : X.prog = P := by rfl) (h2 : X.w = w := by rfl) : PE X e (tDGetO P w td ty) := h1 ▸ h2 ▸ hp
end
/-! ### over data -/
def whatO : Option Int → D
  | none => .non
  | some i => .int i
theorem rep_whatO {K : PySem.W.Frag} {w : Wd} (o : Option Int) : Rep K w (vO o) (whatO o) := by
  cases o with
  | none => exact .non
  | some i => exact .int i
theorem rep_whatO_inv {K : PySem.W.Frag} {w : Wd} {v : V} {o : Option Int} (r : Rep K w v (whatO o)) : v = vO o := by
  cases o with
  | none => cases r; rfl
  | some i => cases r; rfl
section
variable {c : Ct} {ρ : Env} {m : Store} {P : PD} {B : Ed} {td ty : TE} {tc : TT} {tb : TS}
theorem wc_dictO {P0 : Program} {w0 : World} {kvs : List (Option Int × Option Int)} (p : P (.hd m.length) (m ++ [.adr (DicO P0 w0 kvs)])) : WC c (rDictO c.K P0 w0) [.lst (kvs.map fun kv => .tup [whatO kv.1, whatO kv.2])] m P := fun vs w H rs s o Q q => by
  cases rs with
  | cons r1 r2 =>
    cases r2
    cases r1 with
    | lst hz rr =>
      have key : ∀ (kvs : List (Option Int × Option Int)) (xs : List V), RepA c.K w xs (kvs.map fun kv => .tup [whatO kv.1, whatO kv.2]) → ∃ ps : List Addr, xs = ps.map V.ref ∧ Paired (fun p kv => SqT c.K H p [vO kv.1, vO kv.2]) ps kvs := fun kvs => by
        induction kvs with
        | nil =>
          intro xs r
          cases r
          exact ⟨[], rfl, .nil⟩
        | cons kv kvs ih =>
          intro xs r
          cases r with
          | cons a b =>
            obtain ⟨ps, e1, e2⟩ := ih _ b
            cases a with
            | tup st ra =>
              cases ra with
              | cons a1 ra =>
                cases ra with
                | cons a2 ra =>
                  cases ra
                  rw [rep_whatO_inv a1, rep_whatO_inv a2] at st
                  exact ⟨_ :: ps, by rw [e1]; rfl, .cons (ex_t s.ex st) e2⟩
      obtain ⟨ps, e1, e2⟩ := key kvs _ rr
      subst e1
      refine ⟨_, ps, kvs, rfl, .inl (.inl (s.ex _ _ hz)), e2, fun b hb => ?_⟩
      obtain ⟨l2, s2⟩ := s.newCell (p := b) (o := DicO P0 w0 kvs b) (c := .adr (DicO P0 w0 kvs)) hb (fun w' l ez => ⟨by rw [ez]; exact s.zfree hb, upd_same⟩)
      refine q _ _ _ _ _ l2 (.hd ?_) s2 p
      show (w.al ++ [b])[m.length]? = some b
      rw [← s.len, List.getElem?_append_right (Nat.le_refl _)]
      simp
theorem we_dgetO {P0 : Program} {w0 : World} (h : WE c td ρ m fun x m1 => WE c ty ρ m1 fun y m2 => ∃ (k : Nat) (kvs : List (Option Int × Option Int)) (a b : Option Int), x = .hd k ∧ m2[k]? = some (.adr (DicO P0 w0 kvs)) ∧ y = whatO a ∧ lastO kvs a = some b ∧ P (whatO b) m2) : WE c (tDGetO P0 w0 td ty) ρ m P := fun σ w H e s o Q q =>
  h σ w H e s o _ fun vx dx m1 w1 H1 l1 r1 s1 p1 => p1 σ w1 H1 (e.mono l1) s1 (o.mono l1) _ fun vy dy m2 w2 H2 l2 r2 s2 ⟨k, kvs, a, b, ex, hm, ey, hl, p⟩ => by
    subst ex
    subst ey
    have r1' := r1.mono l2
    cases r1' with
    | hd ha =>
      obtain ⟨z, hH⟩ := s2.cell _ _ _ ha hm
      exact ⟨_, kvs, a, b, rfl, hH, rep_whatO_inv r2, hl, q _ _ _ _ _ (l1.trans l2) (rep_whatO b) s2 p⟩
/-- while, by what goes down -/
theorem ws_while (Iv : Nat → Env → Store → Prop) (h0 : ∃ n, Iv n ρ m) (h : ∀ n ρ' m', Iv n ρ' m' → WT c tc ρ' m' fun b m1 => (b = true → WS c tb ρ' m1 { nx := fun ρ2 m2 => ∃ n', n' < n ∧ Iv n' ρ2 m2, ct := fun ρ2 m2 => ∃ n', n' < n ∧ Iv n' ρ2 m2, bk := B.nx, rt := B.rt }) ∧ (b = false → B.nx ρ' m1)) : WS c (tWhile tc tb) ρ m B := fun σ w H e s o D k => by
  obtain ⟨n0, i0⟩ := h0
  refine ⟨fun n σ' H' => ∃ ρ' m' w', w.le w' ∧ EnvR c.K w' σ' ρ' ∧ StOk c.K w' m' H' ∧ Iv n ρ' m', ⟨n0, ρ, m, w, .refl _, e, s, i0⟩, ?_⟩
  rintro n σ' H' ⟨ρ', m', w', l', e', s', p'⟩
  refine h n ρ' m' p' σ' w' H' e' s' (o.mono l') _ fun b m1 w1 H1 l1 s1 ⟨pt, pf⟩ => ?_
  have l01 := l'.trans l1
  cases b with
  | true =>
    rw [if_pos rfl]
    refine ⟨fun σ2 H2 => ∃ m', m' < n ∧ ∃ ρ' m'' w', w.le w' ∧ EnvR c.K w' σ2 ρ' ∧ StOk c.K w' m'' H2 ∧ Iv m' ρ' m'', fun σ2 H2 h => h, pt rfl σ' w1 H1 (e'.mono l1) s1 (o.mono l01) _ ⟨?_, k.rt.mono l01, k.nx.mono l01, ?_⟩⟩
    · exact fun σ2 ρ2 m2 w2 H2 l2 e2 s2 ⟨n', hn, hi⟩ => ⟨n', hn, ρ2, m2, w2, l01.trans l2, e2, s2, hi⟩
    · exact fun σ2 ρ2 m2 w2 H2 l2 e2 s2 ⟨n', hn, hi⟩ => ⟨n', hn, ρ2, m2, w2, l01.trans l2, e2, s2, hi⟩
  | false =>
    rw [if_neg (by decide)]
    exact k.nx _ _ _ _ _ l01 (e'.mono l1) s1 (pf rfl)
end
end KR

/-! KX10: a comprehension of which some members are known. -/
namespace KR
open PySem PySem.Spec PyProof.Rows L2 Evl
section
variable {c : Ct} {ρ : Env} {m : Store} {P : PD}
/-- [v(a) for a in range(n) if must(a) or (who knows)]: all that must, and some more -/
theorem we_lcSupR {j : Nat} {tt : TT} {vs : List Nat} {tx : TA} {te : TE} (v : Nat → D) (must : Nat → Bool) (hv : ∀ a n, (v a).hb n = true) (hj : j ∈ vs)
    (h : WA c tx ρ m fun xs m1 => ∃ n : Nat, xs = [.int n] ∧ n ≤ 1000000 ∧
      (∀ a m', a < n → Grow m1 m' → WT c tt ((wipeD ρ vs).set j (some (.int a))) m' fun b m3 => m3 = m' ∧ (must a = true → b = true)) ∧
      (∀ a m', a < n → Grow m1 m' → WE c te ((wipeD ρ vs).set j (some (.int a))) m' fun d m4 => m4 = m' ∧ d = v a) ∧
      ∀ l' : List Nat, l'.Sublist (List.range n) → (∀ a < n, must a = true → a ∈ l') → P (.lst (l'.map v)) m1) : WE c (tLc (iRng1 tx) (gName j) tt te vs) ρ m P := by
  refine we_lcN (wi_rng1 fun σ w H e s o Q q => h σ w H e s o Q fun x d m1 w1 H1 l1 r1 s1 ⟨n, ex, hl, ht, he, pp⟩ => q x d m1 w1 H1 l1 r1 s1 ⟨n, ex, by omega, ?_⟩)
  rw [Int.toNat_natCast]
  have hb : ∀ (l' : List Nat), hbA m1.length (l'.map v) = true := fun l' => by
    rw [hbA_all]
    intro d hd
    obtain ⟨a, _, rfl⟩ := List.mem_map.mp hd
    exact hv a _
  refine ⟨fun i acc => ∃ l' : List Nat, l'.Sublist (List.range i) ∧ (∀ a < i, must a = true → a ∈ l') ∧ acc = l'.map v, ⟨[], .slnil, fun a ha => absurd ha (Nat.not_lt_zero a), rfl⟩, ?_, hl, fun acc _ ⟨l', hs, hm, e⟩ => ⟨by rw [e]; exact hb l', by rw [e]; exact pp l' hs hm⟩⟩
  rintro i acc m' hi hg wf _ ⟨l', hs, hm, e⟩
  refine wgo_name hj ⟨rfl, (ht i m' hi hg).imp fun b m3 ⟨em, hmb⟩ => ⟨em, fun hbt => (he i m' hi hg).imp fun d m4 ⟨em4, ed⟩ => ⟨em4, ?_⟩, fun hbf => ?_⟩⟩
  · refine ⟨l' ++ [i], ?_, fun a ha hx => ?_, by rw [List.map_append, e, ed]; rfl⟩
    · rw [List.range_succ]
      exact hs.append (List.Sublist.refl _)
    · rcases Nat.lt_succ_iff_lt_or_eq.mp ha with h | rfl
      · exact List.mem_append_left _ (hm a h hx)
      · exact List.mem_append_right _ (List.mem_singleton.mpr rfl)
  · refine ⟨l', ?_, fun a ha hx => ?_, e⟩
    · rw [List.range_succ]
      exact hs.trans (List.sublist_append_left _ _)
    · rcases Nat.lt_succ_iff_lt_or_eq.mp ha with h | rfl
      · exact hm a h hx
      · rw [hmb hx] at hbf
        cases hbf
end
end KR

/-! KG: str() of plain data, where no repr is under way. -/
namespace KR
open PySem PySem.Spec PyProof.Rows L2 Evl
section
variable {X : Cx}
def rStrT (K : PySem.W.Frag) : List V → Hp → VK → Prop := fun xs H Q => ∃ (a : Addr) (d : PyData), xs = [.ref a] ∧ Dp K H (.ref a) d ∧ d.showable = true ∧ d.hasDict = false ∧ d.depth ≤ 8 ∧ d.shown.length ≤ sizeLine ∧ Q (.str d.shown) H
theorem cr_str (hg : X.A.guards = some []) (hu : X.A.units + 32 < cLine) : CallR X (.type "str") (rStrT X.K) := by
  intro pins s σ H xs us Q I r q
  obtain ⟨a, d, ex, hd, h1, h2, h3, h4, q⟩ := q
  subst ex
  obtain ⟨u, eu, rx⟩ := vals1 r
  subst eu
  cases rx
  obtain ⟨as, hr⟩ := Dp.reads I d _ _ hd rfl
  refine str_of_reads hr h1 (fun z => by rw [h2] at z; cases z) hg (by omega) (fun _ _ h => h) (fun h' u tk k => ⟨.str d.shown, H, I.kept k, ⟨_, rfl⟩, q⟩) h4
end
/-- a def's run at one place -/
def RunAt (P : Program) (w : World) (K : PySem.W.Frag) (mg : Str → Option Value) (base : Heap) (CX : CXT) (f : Addr) (fd : FuncData) (ps : List Str) (sp : Sp) (A : Around) : Prop :=
  ∀ (outer : List PySem.Env) (s : Shared) (H : Hp) (args : Args) (us : List Value) (vs : List V) (Q : VK) (E : XK), Env0 P w K mg base A outer s H → BindsTo s fd args (ps.zip us) → Vals vs us → sp vs H Q E →
    codeAny (model P w) A (.call (.ref f) args) (CR CX outer P w H s Q E) s
theorem run_of {CX : CXT} {P : Program} {w : World} {K : PySem.W.Frag} {mg : Str → Option Value} {base : Heap} {k : Nat} {x qual : Str} {st : Stmt} {f : Addr} {fd : FuncData} {N ps : List Str} {sp : Sp} {A : Around} (Fn : Fun K x qual st f fd) (S : FnScope N ps (defScope st)) (hr : Room (k + 1) A)
    (len : ∀ vs H Q E, sp vs H Q E → vs.length = ps.length)
    (hb : ∀ (cdv : Value) (outer : List PySem.Env) (s : Shared) (H : Hp) (vs : List V) (Q : VK) (E : XK), Room k (A.deeper (envOfC qual (defScope st) s.heap.objs.size f cdv)) → sp vs H Q E →
      ∃ t, PSs (cxOf CX P w K mg base N qual (defScope st) f cdv A outer s H E) (defBody st) t ∧ t { nx := fun _ H' => Q .non H', rt := Q } (start N vs) H) : RunAt P w K mg base CX f fd ps sp A := by
  intro outer s H args us vs Q E e0 bind rv hsp
  obtain ⟨oc, od, kV, doc, pm, an, cdv, ct, osl, efd, lk, hcd⟩ := Fn.ex
  subst efd
  have keepB : ∀ b o, base.get? b = some o → s.heap.get? b = some o := fun b o e => (e0.bs b o e).1
  have inH : K.In s.heap := e0.mod.kin.keeps keepB
  have parK : ∀ y ∈ ps.zip us, (defScope st).names.lookup y.1 = some .local ∨ ((defScope st).names.lookup y.1 = some .cell ∧ ((cellsFrom (s.heap.objs.size + 1) (defScope st).names []).lookup y.1).isSome = true) := by
    rintro ⟨n, v⟩ hy
    exact (S.par n (List.of_mem_zip hy).1).imp id fun q => ⟨q, PySem.W.cellsFrom_some _ _ _ (.inl q)⟩
  refine codeAny_call_function hr.depth (inH _ _ lk) rfl S.co S.gen rfl (PySem.W.codeRec_of inH hcd) (bind _ _ _ _ ?_)
  refine wpAny_newFunctionEnv_cells S.kind parK fun env he s1 x => ?_
  subst he
  refine ⟨(e0.mod.nolimit.keeps keepB).keeps x.toInCall.keep, codeAny_func ?_⟩
  obtain ⟨t, ht, hq⟩ := hb cdv outer s H vs Q E (hr.deeper _) hsp
  refine wpAny_mono (ht.run [] s1 (start N vs) H _ (inv_start S hr.hd e0 (len _ _ _ _ hsp) rv x) hq) (fun fl s' hs => ?_) fun e s' hs => hs
  cases fl with
  | ret u =>
    obtain ⟨v, σ', H', J, r', q⟩ := hs
    exact ⟨v, H', J.os, J.bare, J.base, J.hok, r', q⟩
  | next =>
    obtain ⟨σ', H', J, q⟩ := hs
    exact ⟨V.non, H', J.os, J.bare, J.base, J.hok, rfl, q⟩
  | brk =>
    obtain ⟨_, _, _, q⟩ := hs
    exact q.elim
  | cont =>
    obtain ⟨_, _, _, q⟩ := hs
    exact q.elim
end KR

/-! KGE: the end of a law with one table, run at the caller's own place alone. -/
namespace KR
open PySem PySem.Spec PyProof.Rows L2 Evl LamX
/-- what is tracked as the law begins: the table, and the script where the head does not hold it -/
def viewL (K : PySem.W.Frag) (Pt a : Addr) (vs : List Value) (ns : List Int) : Hp := fun b =>
  if b = Pt then some (.tbl #[]) else if b = a ∧ K.lookup a = none then some (.frz { cls := .type "list", data := .seq vs.toArray } (.lst (ns.map V.int))) else none
theorem viewL_in {K : PySem.W.Frag} {Pt a : Addr} {vs : List Value} {ns : List Int} {b : Addr} {u : HO} (h : viewL K Pt a vs ns b = some u) :
    (b = Pt ∧ u = .tbl #[]) ∨ (b = a ∧ K.lookup a = none ∧ u = .frz { cls := .type "list", data := .seq vs.toArray } (.lst (ns.map V.int))) := by
  unfold viewL at h
  by_cases h1 : b = Pt
  · rw [if_pos h1] at h
    exact .inl ⟨h1, (Option.some.inj h).symm⟩
  · rw [if_neg h1] at h
    by_cases h2 : b = a ∧ K.lookup a = none
    · rw [if_pos h2] at h
      exact .inr ⟨h2.1, h2.2, (Option.some.inj h).symm⟩
    · rw [if_neg h2] at h
      cases h
theorem law_at {P : Program} {w : World} {K : PySem.W.Frag} {mg mb : Str → Option Value} {CX : CXT} {fa a c Pt : Addr} {fd : FuncData} {x : Str} {sp : Sp} {s₁ : Shared} {vs : List Value} {ns : List Int}
    (inK : K.In s₁.heap) (gns : s₁.heap.Ns mainGlobals mg) (bns : s₁.heap.Ns builtinsNs mb) (hbb : ∀ x : Str, x ≠ "__name__" → mb x = bootBuiltins x) (hlim : s₁.heap.NoLimit) (hg : s₁.gens = #[])
    (hT : s₁.heap.get? Pt = some { cls := .none, data := .fields #[] }) (nT : K.lookup Pt = none) (hC : PySem.W.CodeHd s₁.heap c Pt)
    (hbm : ∃ (bm : Addr) (ob : Obj), mg "__builtins__" = some (.ref bm) ∧ bm ≠ builtinsNs ∧ s₁.heap.get? bm = some ob ∧ ob.cls = .type "module" ∧ ob.dict = some builtinsNs ∧ ob.data = .plain)
    (ha : s₁.heap.get? a = some { cls := .type "list", data := .seq vs.toArray }) (hi : IntsAre vs ns) (hl : ns.length ≤ sizeLine)
    (F : ∀ base : Heap, K.In base → base.Ns mainGlobals mg → TabB base mg c Pt → RunAt P w K mg base CX fa fd [x] sp callerA) (hbind : ∀ (s : Shared) (u : Value), BindsTo s fd ⟨[u], []⟩ [(x, u)])
    (hsp : ∀ H : Hp, H Pt = some (.tbl #[]) → SqL K H a (ns.map V.int) → sp [.ref a] H (fun v _ => v = .bl true) fun _ _ _ => False)
    (hCX : ∀ H e s', CX [] H s₁ (fun _ _ _ => False) e s' → False) :
    codeAny (model P w) callerA (.call (.ref fa) ⟨[.ref a], []⟩) (fun r s' => r = .ok (.ret (.bool true)) ∧ OldK s₁.heap s'.heap ∧ s'.os = s₁.os ∧ AllBare s'.gens) s₁ := by
  have rv := vals_ints hi
  have aP : a ≠ Pt := fun z => by
    rw [z, hT] at ha
    cases ha
  have hP : viewL K Pt a vs ns Pt = some (.tbl #[]) := if_pos rfl
  -- what is neither a list nor an empty table is not tracked
  have free : ∀ {b : Addr} {o : Obj}, s₁.heap.get? b = some o → (∀ v n, o.data ≠ .seq v n) → o.data ≠ .fields #[] → viewL K Pt a vs ns b = none := fun {b o} e h1 h2 => by
    cases q : viewL K Pt a vs ns b with
    | none => rfl
    | some u =>
      rcases viewL_in q with ⟨rfl, _⟩ | ⟨rfl, _, _⟩
      · rw [hT] at e
        cases e
        exact (h2 rfl).elim
      · rw [ha] at e
        cases e
        exact (h1 _ _ rfl).elim
  have hok : HOk P w (viewL K Pt a vs ns) s₁.heap := fun b u z => by
    rcases viewL_in z with ⟨rfl, rfl⟩ | ⟨rfl, _, rfl⟩
    · exact hT
    · exact ⟨ha, by rw [List.length_map]; exact hl, vs, _, rv, ha⟩
  have hS : SqL K (viewL K Pt a vs ns) a (ns.map V.int) := by
    cases hk : K.lookup a with
    | none => exact .inl (.inr ⟨_, (if_neg aP).trans (if_pos ⟨rfl, hk⟩)⟩)
    | some o =>
      have e := inK a o hk
      rw [ha] at e
      cases e
      exact .inr ⟨_, vs.toArray, _, hk, rfl, rfl, rfl, by rw [List.size_toArray, hi.length]; exact hl, by simpa using rv⟩
  have up : ∀ {b : Addr} {o : Obj}, s₁.heap.get? b = some o → viewL K Pt a vs ns b = none → (hidT s₁.heap (viewL K Pt a vs ns)).get? b = some o := fun e n => hidT_get e n
  have inB : K.In (hidT s₁.heap (viewL K Pt a vs ns)) := fun b o e => by
    refine up (inK b o e) ?_
    cases q : viewL K Pt a vs ns b with
    | none => rfl
    | some u =>
      rcases viewL_in q with ⟨rfl, _⟩ | ⟨rfl, hk, _⟩
      · rw [nT] at e
        cases e
      · rw [hk] at e
        cases e
  have nsB : ∀ {b : Addr} {m : Str → Option Value}, s₁.heap.Ns b m → (hidT s₁.heap (viewL K Pt a vs ns)).Ns b m := fun {b m} ⟨o, es, ep, e, d, r⟩ => ⟨o, es, ep, up e (free e (fun v n z => by rw [d] at z; cases z) fun z => by rw [d] at z; cases z), d, r⟩
  have tb : TabB (hidT s₁.heap (viewL K Pt a vs ns)) mg c Pt := by
    refine ⟨?_, ?_, fun z => ?_⟩
    · obtain ⟨o, us, file, tf, flags, tg, inF, text, tt, e1, r1, r2, r3, r4, r5, r6, r7, r8, hne⟩ := hC
      refine ⟨o, us, file, tf, flags, tg, inF, text, tt, up e1 (free e1 (fun v n z => ?_) fun z => ?_), r1, r2, r3, r4, r5, r6, r7, r8, hne⟩
      · rw [r2] at z
        cases z
      · rw [r2] at z
        cases z
        simp at r3
    · obtain ⟨bm, ob, b1, b2, b3, b4, b5, b6⟩ := hbm
      refine ⟨bm, ob, b1, b2, fun q => ?_, fun q => ?_, up b3 (free b3 (fun v n z => ?_) fun z => ?_), b4, b5, b6⟩
      · obtain ⟨o, es, ep, e, hd, _⟩ := gns
        rw [q, e] at b3
        cases b3
        rw [hd] at b6
        cases b6
      · rw [q, hT] at b3
        cases b3
        cases b6
      · rw [b6] at z
        cases z
      · rw [b6] at z
        cases z
    · obtain ⟨o, es, ep, e, hd, _⟩ := gns
      rw [z, hT] at e
      cases e
      cases hd
  obtain ⟨ml, l1, l2⟩ := hlim
  have e0 : Env0 P w K mg (hidT s₁.heap (viewL K Pt a vs ns)) callerA [] s₁ (viewL K Pt a vs ns) :=
    ⟨rfl, ⟨inB, nsB gns, ⟨mb, nsB bns, hbb⟩, ⟨ml, nsB l1, l2⟩⟩, fun b o e => of_hidT e, Nat.le_of_eq (hidT_size _ _), trivial, fun b hb => absurd (show b ∈ ([] : List Addr) from hb) (by simp), hok, .of_eq hg⟩
  refine codeAny_mono (F _ inB (nsB gns) tb [] s₁ _ ⟨[.ref a], []⟩ [.ref a] [.ref a] _ _ e0 (hbind s₁ (.ref a)) (.cons rfl .nil) (hsp _ hP hS)) fun r s' h => ?_
  match r, h with
  | .error e, h => exact (hCX _ e s' h).elim
  | .ok .next, h => exact False.elim h
  | .ok .brk, h => exact False.elim h
  | .ok .cont, h => exact False.elim h
  | .ok (.ret u), h =>
    obtain ⟨v, H', os, bare, un, hok', r', q⟩ := h
    obtain rfl : v = .bl true := q
    obtain rfl : u = Value.bool true := r'
    obtain ⟨more, z⟩ := un.tbls Pt #[] hP
    have grown : s'.heap.get? Pt = some { cls := .none, data := .fields (#[] ++ more) } := hok' Pt _ z
    have key : ∀ b o, b ≠ Pt → s₁.heap.get? b = some o → s'.heap.get? b = some o := fun b o nb e => by
      cases q : viewL K Pt a vs ns b with
      | none => exact un.keep b o e q (by intro z; exact absurd (show b ∈ ([] : List Addr) from z) (by simp)) (by simp)
      | some u =>
        rcases viewL_in q with ⟨z, _⟩ | ⟨_, _, z⟩
        · exact absurd z nb
        · rw [z] at q
          have e2 := (hok' b _ (un.frzs b _ _ q)).1
          have e1 := (hok b _ q).1
          rw [e] at e1
          cases e1
          exact e2
    refine ⟨rfl, ⟨fun b o e => ?_, fun b o e => ?_⟩, os, bare⟩
    · by_cases hb : b = Pt
      · subst hb
        rw [hT] at e
        cases e
        exact .inr (.inl ⟨(hC.tab hT).isCodeTable, rfl, #[], more, rfl, grown⟩)
      · exact .inl (key b o hb e)
    · by_cases hb : b = Pt
      · subst hb
        exact ⟨_, grown⟩
      · exact ⟨o, key b o hb e⟩
/-- the law's walk, its def run where no guard stands -/
theorem walk_at {l : PySem.W.OpenLaw} {q : Program} {loose : List Str} {XP : (Str → Option Value) → Heap → Prop} {YP : World → Heap → Prop} {d dx : DefRec} {K : Params → PySem.W.Frag} {x : Str} (hn : l.most = some 63) (hdf : d.params.defaults = [])
    (hY : ∀ (w : World) (h : Heap), YP w h → (K w.params).In h) (hx : (recsOf q).find? (fun e => e.name == x) = some dx)
    (F : ∀ (w : World) (mg : Str → Option Value) (fa : Addr) (h : Heap), (K w.params).In h → h.Ns mainGlobals mg → mg d.name = some (.ref fa) → ∃ c P : Addr, PySem.W.tabIn (K w.params) x = some (c, P) ∧ (K w.params).lookup P = none ∧
      ∃ fd : FuncData, (∀ (s : Shared) (u : Value), BindsTo s fd ⟨[u], []⟩ [("_law_script", u)]) ∧ ∀ base : Heap, (K w.params).In base → base.Ns mainGlobals mg → TabB base mg c P → RunAt l.prog w (K w.params) mg base CX0 fa fd ["_law_script"] (spLawT (K w.params) P) callerA) :
    PySem.W.WalkO q loose XP YP l.row.toRowW d [] (fun f vs => PySem.call f vs) := by
  refine Att.attach_callB hn hdf fun w s₀ s₁ mg mb fa o pm cd doc a vs ns G Y ho hd hcd hmg hobj hints hlen hbits hg => ?_
  have KY := hY w _ Y
  obtain ⟨c, P, tb, np, fd, hb, hF⟩ := F w mg fa _ KY G.T.g hmg
  obtain ⟨hC, hT⟩ := PySem.W.tab_of G.T KY hx tb
  exact law_at KY G.T.g G.T.b G.T.builtins G.T.nolimit hg hT np hC G.T.bmain hobj hints (Nat.le_trans hlen (by decide)) hF hb (fun H hH hS => ⟨a, ns, rfl, hS, hlen, hH, fun _ => rfl⟩) fun H e s' z => z
theorem callerA_guards : callerA.guards = some [] := rfl
end KR

/-! KG2: str() over data; a def over data, run at one place. -/
namespace KR
open PySem PySem.Spec PyProof.Rows L2 Evl
theorem cr_strK {X : Cx} {K : PySem.W.Frag} (hg : X.A.guards = some []) (hu : X.A.units + 32 < cLine) (h : X.K = K := by rfl) : CallR X (.type "str") (rStrT K) := h ▸ cr_str hg hu
section
variable {c : Ct} {m : Store} {P : PD}
/-- str of a tuple or a list that is plain data -/
theorem wc_strT {n : Nat} {x : D} {d : PyData} (hp : Py m n x d) (hx : (∃ ds, x = .tup ds) ∨ ∃ ds, x = .lst ds) (hn : n ≤ 8) (h1 : d.showable = true) (h2 : d.hasDict = false) (h3 : d.shown.length ≤ sizeLine) (p : P (.str d.shown) m) : WC c (rStrT c.K) [x] m P := fun vs w H rs s o Q q => by
  cases rs with
  | cons r1 r2 =>
    cases r2
    have hd := hp.dp s r1
    have hl := hp.lay
    rcases hx with ⟨ds, rfl⟩ | ⟨ds, rfl⟩
    · cases r1 with
      | tup a b => exact ⟨_, d, rfl, hd, h1, h2, Nat.le_trans hl.2 hn, h3, q _ _ _ _ _ (.refl w) (.str _) s p⟩
    · cases r1 with
      | lst a b => exact ⟨_, d, rfl, hd, h1, h2, Nat.le_trans hl.2 hn, h3, q _ _ _ _ _ (.refl w) (.str _) s p⟩
end
/-- a def over data, run at one place -/
theorem ok0At {P : Program} {w : World} {K : PySem.W.Frag} {mg : Str → Option Value} {base : Heap} {x qual : Str} {st : Stmt} {f : Addr} {fd : FuncData} {N ps : List Str} {k : Nat} {F : FSp} {A : Around}
    (Fn : Fun K x qual st f fd) (S : FnScope N ps (defScope st)) (har : F.ar = ps.length) (hr : Room (k + 1) A) (hg : A.guards = some [])
    (hb : ∀ (cdv : Value) (outer : List PySem.Env) (s : Shared) (H : Hp) (E : XK), Room k (A.deeper (envOfC qual (defScope st) s.heap.objs.size f cdv)) → (A.deeper (envOfC qual (defScope st) s.heap.objs.size f cdv)).guards = some [] →
      ∃ t, PSs (cxOf CX0 P w K mg base N qual (defScope st) f cdv A outer s H E).nox (defBody st) t ∧ ∀ g ds m, F.pre g ds m → Wf m → WS (C0 K) t (startD N ds) m { nx := fun _ m' => Fin F g m .non m', rt := Fin F g m }) :
    RunAt P w K mg base CX0 f fd ps (spD K F) A := by
  refine run_of Fn S hr (fun vs H Q E h => ?_) fun cdv outer s H vs Q E hr' h => ?_
  · obtain ⟨w, m, ds, g, r, _, hl, _⟩ := h
    rw [r.length, hl, har]
  · obtain ⟨wd, m, ds, g, r, so, hl, hp, hq, _⟩ := h
    obtain ⟨t, ht, hw⟩ := hb cdv outer s H E hr' hg
    refine ⟨t, ht.nox, hw g ds m hp so.wf _ wd H (EnvR.start r) so (C0.ok K wd) _ ?_⟩
    have base : Kt (C0 K) wd (F.post g m) Q := fun v d m' w' H' l r s p => hq v d m' w' H' l r s p
    have fin : Kt (C0 K) wd (Fin F g m) Q := (base.trm (by rw [so.len]; exact Nat.le_refl _)).frz
    exact ⟨fun σ' ρ' m' w' H' l e s p => fin .non .non m' w' H' l .non s p, fin, fun _ _ _ _ _ _ _ _ h => h.elim, fun _ _ _ _ _ _ _ _ h => h.elim⟩
end KR

/-! KG3: len(set(texts)). -/
namespace KR
open PySem PySem.Spec PyProof.Rows L2 Evl
section
variable {X : Cx}
/-- a set of texts -/
def rSetS (K : PySem.W.Frag) (P : Program) (w : World) : List V → Hp → VK → Prop := fun xs H Q => ∃ (l : Addr) (os : List Str), xs = [V.ref l] ∧ SqL K H l (os.map V.str) ∧ os.length < 4000 ∧
  ∀ a, H a = none → Q (.ref a) (upd H a (SetGO (PySem.strKind P w) a os))
theorem cr_setS (hc : X.calm = true) : CallR X (.type "set") (rSetS X.K X.prog X.w) := by
  intro pins s σ H xs us Q I r h
  obtain ⟨l, os, ex, hl, hf, q⟩ := h
  subst ex
  rw [Vals.ref1 r]
  obtain ⟨its, rv, pl, hz⟩ := I.list hl
  have hn : H s.heap.objs.size = none := I.hok.fresh (Nat.le_refl _)
  refine set_ofG (knd := PySem.strKind X.prog X.w) os (I.ok.hd hc) pl.isList (by rw [List.size_toArray, ← rv.length, List.length_map]) (fun i v hv => ?_) (by unfold scanBound; omega) fun h' tk hE =>
    ⟨.ref s.heap.objs.size, upd H s.heap.objs.size (SetGO (PySem.strKind X.prog X.w) s.heap.objs.size os), I.laid (t' := tk) hE.2 (Nat.le_refl _) (setGO_new hE.1), rfl, q _ hn⟩
  have hv' : its[i]? = some v := by simpa using hv
  obtain ⟨hi', _⟩ := List.getElem?_eq_some_iff.mp hv'
  have hi : i < os.length := by
    have := rv.length
    rw [List.length_map] at this
    omega
  refine ⟨os[i], List.getElem?_eq_getElem hi, ?_⟩
  obtain ⟨u, hu, t, ru⟩ := rv.get (i := i) (x := V.str os[i]) (by rw [List.getElem?_map, List.getElem?_eq_getElem hi]; rfl)
  rw [hv'] at hu
  cases hu
  rw [ru]
  exact ⟨by simp [PySem.strKind, Value.isStrOf], rfl⟩
def rLenS (P : Program) (w : World) : List V → Hp → VK → Prop := fun xs H Q => ∃ (a : Addr) (os : List Str), xs = [V.ref a] ∧ H a = some (SetGO (PySem.strKind P w) a os) ∧ os.length < 4000 ∧ Q (.int (cntG os : Nat)) H
theorem cr_lenS : CallR X (.builtin "len") (rLenS X.prog X.w) := by
  intro pins s σ H xs us Q I r h
  obtain ⟨a, os, ex, ha, hl, q⟩ := h
  subst ex
  rw [Vals.ref1 r]
  obtain ⟨o, es, ep, t, ho, hex, hd, _, _, _, hf, hn⟩ := (I.hok a _ ha).1
  have := cntG_le os
  exact call_len_set ho hex hd hf (by rw [hn]; omega) ⟨.int (cntG os : Nat), H, I.tok _, ⟨_, by rw [hn]⟩, q⟩
theorem cr_setSK {K : PySem.W.Frag} {P : Program} {w : World} (hc : X.calm = true) (h : X.K = K := by rfl) (hp : X.prog = P := by rfl) (hw : X.w = w := by rfl) : CallR X (.type "set") (rSetS K P w) := h ▸ hp ▸ hw ▸ cr_setS hc
theorem cr_lenSK {P : Program} {w : World} (hp : X.prog = P := by rfl) (hw : X.w = w := by rfl) : CallR X (.builtin "len") (rLenS P w) := hp ▸ hw ▸ cr_lenS
end
section
variable {c : Ct} {ρ : Env} {m : Store} {P : PD} {te : TE}
theorem we_lenSetS {P0 : Program} {w0 : World} (h : WE c te ρ m fun x m1 => ∃ (ds : List D) (os : List Str), listD m1 x = some ds ∧ ds.map D.flat = (os.map V.str).map some ∧ os.length < 4000 ∧
    P (.int (cntG os : Nat)) m1) : WE c (tCB (rLenS P0 w0) (tCons (tCB (rSetS c.K P0 w0) (tCons te tNil)) tNil)) ρ m P := fun σ w H e s o Q q =>
  h σ w H e s o (fun x H1 => rSetS c.K P0 w0 [x] H1 fun y H2 => rLenS P0 w0 [y] H2 Q) fun v d m1 w1 H1 l1 r1 s1 ⟨ds, os, hx, hf, hl, p⟩ => by
    obtain ⟨a, xs, ea, hH, rr⟩ := s1.list r1 hx
    subst ea
    obtain rfl : xs = os.map V.str := rr.flat hf
    refine ⟨a, os, rfl, .inl (.inl hH), hl, fun b hb => ⟨b, os, rfl, upd_set, hl, ?_⟩⟩
    obtain ⟨l2, s2⟩ := s1.new (o := SetGO (PySem.strKind P0 w0) b os) hb
    exact q _ _ _ _ _ (l1.trans l2) (.int _) s2 p
end
end KR

namespace KX
open PySem PySem.Spec PyProof.Rows L2 Evl KR KM
/-- the text by places -/
def top (i : Nat) : Stmt := PySem.Challenge.pw_keyroll_k37_whole_more_keys_open_more.main.body.getD i (.Pass ⟨0, 0, 0, 0⟩)
abbrev s_BadTimes_init : Stmt := inClass (top 6) 0
theorem sc_BadTimes_init : FnScope ["self", "place"] ["self", "place"] (defScope s_BadTimes_init) := ⟨rfl, rfl, rfl, by decide +kernel, rfl, by decide +kernel, by decide +kernel⟩
abbrev s_check_moment : Stmt := top 12
theorem sc_check_moment : FnScope ["moment"] ["moment"] (defScope s_check_moment) := ⟨rfl, rfl, rfl, by decide +kernel, rfl, by decide +kernel, by decide +kernel⟩
abbrev s_check_place : Stmt := top 13
theorem sc_check_place : FnScope ["row", "place"] ["row", "place"] (defScope s_check_place) := ⟨rfl, rfl, rfl, by decide +kernel, rfl, by decide +kernel, by decide +kernel⟩
abbrev s_soonest : Stmt := top 14
theorem sc_soonest : FnScope ["row", "moments", "reached", "entry"] ["row"] (defScope s_soonest) := ⟨rfl, rfl, rfl, by decide +kernel, rfl, by decide +kernel, by decide +kernel⟩
abbrev s_latest : Stmt := top 15
theorem sc_latest : FnScope ["row", "moments", "limit", "entry"] ["row"] (defScope s_latest) := ⟨rfl, rfl, rfl, by decide +kernel, rfl, by decide +kernel, by decide +kernel⟩
abbrev s_first_stuck : Stmt := top 16
theorem sc_first_stuck : FnScope ["row", "begun", "place", "entry"] ["row"] (defScope s_first_stuck) := ⟨rfl, rfl, rfl, by decide +kernel, rfl, by decide +kernel, by decide +kernel⟩
abbrev s_row_with : Stmt := top 17
theorem sc_row_with : FnScope ["row", "place", "entry", "_", "early", "late", "longer", "stuck"] ["row", "place", "entry"] (defScope s_row_with) := ⟨rfl, rfl, rfl, by decide +kernel, rfl, by decide +kernel, by decide +kernel⟩
abbrev s_spans : Stmt := top 18
theorem sc_spans : FnScope ["row", "begins", "ends"] ["row"] (defScope s_spans) := ⟨rfl, rfl, rfl, by decide +kernel, rfl, by decide +kernel, by decide +kernel⟩
abbrev s_standing : Stmt := top 19
theorem sc_standing : FnScope ["row", "moment", "place", "begin", "end"] ["row", "moment"] (defScope s_standing) := ⟨rfl, rfl, rfl, by decide +kernel, rfl, by decide +kernel, by decide +kernel⟩
abbrev s_moments_by : Stmt := top 20
theorem sc_moments_by : FnScope ["row", "place"] ["row", "place"] (defScope s_moments_by) := ⟨rfl, rfl, rfl, by decide +kernel, rfl, by decide +kernel, by decide +kernel⟩
abbrev s_in_force : Stmt := top 21
theorem sc_in_force : FnScope ["row", "place"] ["row", "place"] (defScope s_in_force) := ⟨rfl, rfl, rfl, by decide +kernel, rfl, by decide +kernel, by decide +kernel⟩
abbrev s_told : Stmt := top 22
theorem sc_told : FnScope ["row", "moment", "found", "place", "what"] ["row", "moment"] (defScope s_told) := ⟨rfl, rfl, rfl, by decide +kernel, rfl, by decide +kernel, by decide +kernel⟩
abbrev s_place_had : Stmt := top 24
theorem sc_place_had : FnScope ["row", "person", "plain", "moment", "place", "begin", "end", "when"] ["row", "person", "plain", "moment"] (defScope s_place_had) := ⟨rfl, rfl, rfl, by decide +kernel, rfl, by decide +kernel, by decide +kernel⟩
abbrev s_place_opened : Stmt := top 25
theorem sc_place_opened : FnScope ["fitted", "opens", "moment", "place"] ["fitted", "opens", "moment"] (defScope s_place_opened) := ⟨rfl, rfl, rfl, by decide +kernel, rfl, by decide +kernel, by decide +kernel⟩
abbrev s_shown : Stmt := top 26
theorem sc_shown : FnScope ["book", "person", "door", "moment", "fitted", "name", "opens", "plain", "row", "had", "opened", "place", "when"] ["book", "person", "door", "moment"] (defScope s_shown) := ⟨rfl, rfl, rfl, by decide +kernel, rfl, by decide +kernel, by decide +kernel⟩
abbrev s_moments_without : Stmt := top 27
theorem sc_moments_without : FnScope ["row", "person", "moment", "place"] ["row", "person", "moment"] (defScope s_moments_without) := ⟨rfl, rfl, rfl, by decide +kernel, rfl, by decide +kernel, by decide +kernel⟩
abbrev s_moments_against : Stmt := top 28
theorem sc_moments_against : FnScope ["book", "person", "kind", "moment", "found", "name", "opens", "_", "row"] ["book", "person", "kind", "moment"] (defScope s_moments_against) := ⟨rfl, rfl, rfl, by decide +kernel, rfl, by decide +kernel, by decide +kernel⟩
abbrev s_denied : Stmt := top 29
theorem sc_denied : FnScope ["book", "person", "door", "moment", "fitted", "place", "keys"] ["book", "person", "door", "moment"] (defScope s_denied) := ⟨rfl, rfl, rfl, by decide +kernel, rfl, by decide +kernel, by decide +kernel⟩
abbrev s_could : Stmt := top 34
theorem sc_could : FnScope ["book", "person", "door", "moment"] ["book", "person", "door", "moment"] (defScope s_could) := ⟨rfl, rfl, rfl, by decide +kernel, rfl, by decide +kernel, by decide +kernel⟩
abbrev s_openers : Stmt := top 35
theorem sc_openers : FnScope ["book", "door", "moment", "persons", "answers", "person", "surely", "maybe"] ["book", "door", "moment"] (defScope s_openers) := ⟨rfl, rfl, rfl, by decide +kernel, rfl, by decide +kernel, by decide +kernel⟩
abbrev s_are_kinds : Stmt := top 41
theorem sc_are_kinds : FnScope ["opens", "ahead", "kind"] ["opens"] (defScope s_are_kinds) := ⟨rfl, rfl, rfl, by decide +kernel, rfl, by decide +kernel, by decide +kernel⟩
abbrev s_Book_init : Stmt := inClass (top 42) 0
theorem sc_Book_init : FnScope ["self", "persons", "doors", "_"] ["self", "persons", "doors"] (defScope s_Book_init) := ⟨rfl, rfl, rfl, by decide +kernel, rfl, by decide +kernel, by decide +kernel⟩
abbrev s_Book_cut : Stmt := inClass (top 42) 1
theorem sc_Book_cut : FnScope ["self", "opens", "plain"] ["self", "opens", "plain"] (defScope s_Book_cut) := ⟨rfl, rfl, rfl, by decide +kernel, rfl, by decide +kernel, by decide +kernel⟩
abbrev s_Book_hand : Stmt := inClass (top 42) 2
theorem sc_Book_hand : FnScope ["self", "name", "place", "person", "early", "late", "row"] ["self", "name", "place", "person", "early", "late"] (defScope s_Book_hand) := ⟨rfl, rfl, rfl, by decide +kernel, rfl, by decide +kernel, by decide +kernel⟩
abbrev s_Book_fit : Stmt := inClass (top 42) 3
theorem sc_Book_fit : FnScope ["self", "door", "place", "kind", "early", "late", "row"] ["self", "door", "place", "kind", "early", "late"] (defScope s_Book_fit) := ⟨rfl, rfl, rfl, by decide +kernel, rfl, by decide +kernel, by decide +kernel⟩
abbrev s_Book_entries : Stmt := inClass (top 42) 4
theorem sc_Book_entries : FnScope ["self", "name"] ["self", "name"] (defScope s_Book_entries) := ⟨rfl, rfl, rfl, by decide +kernel, rfl, by decide +kernel, by decide +kernel⟩
abbrev s_Book_fitted : Stmt := inClass (top 42) 5
theorem sc_Book_fitted : FnScope ["self", "door"] ["self", "door"] (defScope s_Book_fitted) := ⟨rfl, rfl, rfl, by decide +kernel, rfl, by decide +kernel, by decide +kernel⟩
abbrev s_Book_holders : Stmt := inClass (top 42) 6
theorem sc_Book_holders : FnScope ["self", "name", "moment", "row", "found", "persons", "person", "sure"] ["self", "name", "moment"] (defScope s_Book_holders) := ⟨rfl, rfl, rfl, by decide +kernel, rfl, by decide +kernel, by decide +kernel⟩
abbrev s_Book_locks : Stmt := inClass (top 42) 7
theorem sc_Book_locks : FnScope ["self", "door", "moment", "row"] ["self", "door", "moment"] (defScope s_Book_locks) := ⟨rfl, rfl, rfl, by decide +kernel, rfl, by decide +kernel, by decide +kernel⟩
abbrev s_Book_everybody : Stmt := inClass (top 42) 8
theorem sc_Book_everybody : FnScope ["self"] ["self"] (defScope s_Book_everybody) := ⟨rfl, rfl, rfl, by decide +kernel, rfl, by decide +kernel, by decide +kernel⟩
abbrev s_Book_cuts : Stmt := inClass (top 42) 9
theorem sc_Book_cuts : FnScope ["self"] ["self"] (defScope s_Book_cuts) := ⟨rfl, rfl, rfl, by decide +kernel, rfl, by decide +kernel, by decide +kernel⟩
abbrev s_Book_check_person : Stmt := inClass (top 42) 10
theorem sc_Book_check_person : FnScope ["self", "person"] ["self", "person"] (defScope s_Book_check_person) := ⟨rfl, rfl, rfl, by decide +kernel, rfl, by decide +kernel, by decide +kernel⟩
abbrev s_Book__key_row : Stmt := inClass (top 42) 11
theorem sc_Book__key_row : FnScope ["self", "name"] ["self", "name"] (defScope s_Book__key_row) := ⟨rfl, rfl, rfl, by decide +kernel, rfl, by decide +kernel, by decide +kernel⟩
abbrev s_Book__door_row : Stmt := inClass (top 42) 12
theorem sc_Book__door_row : FnScope ["self", "door"] ["self", "door"] (defScope s_Book__door_row) := ⟨rfl, rfl, rfl, by decide +kernel, rfl, by decide +kernel, by decide +kernel⟩
abbrev s__law_dice : Stmt := top 44
theorem sc__law_dice : FnScope ["_law_script", "_law_mixed", "_law_cell"] ["_law_script"] (defScope s__law_dice) := ⟨rfl, rfl, rfl, by decide +kernel, rfl, by decide +kernel, by decide +kernel⟩
abbrev s__law_next : Stmt := top 45
theorem sc__law_next : FnScope ["_law_dice_here", "_law_many", "_law_found", "_law_cell"] ["_law_dice_here", "_law_many"] (defScope s__law_next) := ⟨rfl, rfl, rfl, by decide +kernel, rfl, by decide +kernel, by decide +kernel⟩
abbrev s__law_window : Stmt := top 46
theorem sc__law_window : FnScope ["_law_d", "_law_far", "_law_early", "_law_wide"] ["_law_d", "_law_far"] (defScope s__law_window) := ⟨rfl, rfl, rfl, by decide +kernel, rfl, by decide +kernel, by decide +kernel⟩
abbrev s__law_fits : Stmt := top 47
theorem sc__law_fits : FnScope ["_law_rows", "_law_here", "_law_place"] ["_law_rows"] (defScope s__law_fits) := ⟨rfl, rfl, rfl, by decide +kernel, rfl, by decide +kernel, by decide +kernel⟩
abbrev s__law_turn : Stmt := top 49
theorem sc__law_turn : FnScope ["_law_d", "_law_book", "_law_case", "_law_persons", "_law_keys", "_law_doors", "_law_way", "_law_opens", "_law_kind", "_law_plain", "_law_early", "_law_late", "_law_name", "_law_rows", "_law_place", "_law_who", "_law_row", "_law_door"] ["_law_d", "_law_book", "_law_case"] (defScope s__law_turn) := ⟨rfl, rfl, rfl, by decide +kernel, rfl, by decide +kernel, by decide +kernel⟩
abbrev s__law_story : Stmt := top 50
theorem sc__law_story : FnScope ["_law_d", "_law_most", "_law_persons", "_law_many", "_law_case", "_law_door", "_law_book", "_law_turn_here"] ["_law_d", "_law_most"] (defScope s__law_story) := ⟨rfl, rfl, rfl, by decide +kernel, rfl, by decide +kernel, by decide +kernel⟩
abbrev s__law_written : Stmt := top 51
theorem sc__law_written : FnScope ["_law_case", "_law_persons", "_law_keys", "_law_doors", "_law_book", "_law_opens", "_law_plain", "_law_rows", "_law_name", "_law_place", "_law_door", "_law_row"] ["_law_case"] (defScope s__law_written) := ⟨rfl, rfl, rfl, by decide +kernel, rfl, by decide +kernel, by decide +kernel⟩
abbrev s__law_words : Stmt := top 52
theorem sc__law_words : FnScope ["_law_book", "_law_case", "_law_moment", "_law_person", "_law_door"] ["_law_book", "_law_case", "_law_moment"] (defScope s__law_words) := ⟨rfl, rfl, rfl, by decide +kernel, rfl, by decide +kernel, by decide +kernel⟩
abbrev s_law : Stmt := top 53
theorem sc_law : FnScope ["_law_script", "_law_d", "_law_persons", "_law_keys", "_law_doors", "_law_base", "_law_early", "_law_late", "_law_kinds", "_law_kind", "_law_more", "_law_wide", "_law_opens", "_law_plain", "_law_rows", "_law_books", "_law_moment", "_law_k", "_law_book", "_law_door", "_law_person", "_law_ranks", "_law_row", "_law_sure", "_law_maybe", "_law_name"] ["_law_script"] (defScope s_law) := ⟨rfl, rfl, rfl, by decide +kernel, rfl, by decide +kernel, by decide +kernel⟩
abbrev s__law_told : Stmt := top 48
theorem sc__law_told : FnScope ["_law_work", "e", "_law_kinds", "_law_words_here", "_law_word"] ["_law_work"] (defScope s__law_told) := ⟨rfl, rfl, rfl, by decide +kernel, rfl, by decide +kernel, by decide +kernel⟩
/-- what the top has written -/
structure Tx (K : PySem.W.Frag) (mg : Str → Option Value) where
  C_Book : Addr
  cl_Book : Cls K C_Book
  c_Book : mg "Book" = some (.ref C_Book)
  na_Book__cuts : NoAttr K C_Book "_cuts"
  na_Book__door_rows : NoAttr K C_Book "_door_rows"
  na_Book__key_rows : NoAttr K C_Book "_key_rows"
  na_Book__persons : NoAttr K C_Book "_persons"
  a_BadTimes_init : Addr
  f_BadTimes_init : FuncData
  F_BadTimes_init : Fun K "__init__" "BadTimes.__init__" s_BadTimes_init a_BadTimes_init f_BadTimes_init
  b_BadTimes_init : Binds K f_BadTimes_init ["self", "place"] []
  a_check_moment : Addr
  f_check_moment : FuncData
  F_check_moment : Fun K "check_moment" "check_moment" s_check_moment a_check_moment f_check_moment
  b_check_moment : Binds K f_check_moment ["moment"] []
  g_check_moment : mg "check_moment" = some (.ref a_check_moment)
  k_check_moment : PySem.W.keepIn K (.ref a_check_moment) = true
  a_check_place : Addr
  f_check_place : FuncData
  F_check_place : Fun K "check_place" "check_place" s_check_place a_check_place f_check_place
  b_check_place : Binds K f_check_place ["row", "place"] []
  g_check_place : mg "check_place" = some (.ref a_check_place)
  k_check_place : PySem.W.keepIn K (.ref a_check_place) = true
  a_soonest : Addr
  f_soonest : FuncData
  F_soonest : Fun K "soonest" "soonest" s_soonest a_soonest f_soonest
  b_soonest : Binds K f_soonest ["row"] []
  g_soonest : mg "soonest" = some (.ref a_soonest)
  k_soonest : PySem.W.keepIn K (.ref a_soonest) = true
  a_latest : Addr
  f_latest : FuncData
  F_latest : Fun K "latest" "latest" s_latest a_latest f_latest
  b_latest : Binds K f_latest ["row"] []
  g_latest : mg "latest" = some (.ref a_latest)
  k_latest : PySem.W.keepIn K (.ref a_latest) = true
  a_first_stuck : Addr
  f_first_stuck : FuncData
  F_first_stuck : Fun K "first_stuck" "first_stuck" s_first_stuck a_first_stuck f_first_stuck
  b_first_stuck : Binds K f_first_stuck ["row"] []
  g_first_stuck : mg "first_stuck" = some (.ref a_first_stuck)
  k_first_stuck : PySem.W.keepIn K (.ref a_first_stuck) = true
  a_row_with : Addr
  f_row_with : FuncData
  F_row_with : Fun K "row_with" "row_with" s_row_with a_row_with f_row_with
  b_row_with : Binds K f_row_with ["row", "place", "entry"] []
  g_row_with : mg "row_with" = some (.ref a_row_with)
  k_row_with : PySem.W.keepIn K (.ref a_row_with) = true
  a_spans : Addr
  f_spans : FuncData
  F_spans : Fun K "spans" "spans" s_spans a_spans f_spans
  b_spans : Binds K f_spans ["row"] []
  g_spans : mg "spans" = some (.ref a_spans)
  k_spans : PySem.W.keepIn K (.ref a_spans) = true
  a_standing : Addr
  f_standing : FuncData
  F_standing : Fun K "standing" "standing" s_standing a_standing f_standing
  b_standing : Binds K f_standing ["row", "moment"] []
  g_standing : mg "standing" = some (.ref a_standing)
  k_standing : PySem.W.keepIn K (.ref a_standing) = true
  a_moments_by : Addr
  f_moments_by : FuncData
  F_moments_by : Fun K "moments_by" "moments_by" s_moments_by a_moments_by f_moments_by
  b_moments_by : Binds K f_moments_by ["row", "place"] []
  g_moments_by : mg "moments_by" = some (.ref a_moments_by)
  k_moments_by : PySem.W.keepIn K (.ref a_moments_by) = true
  a_in_force : Addr
  f_in_force : FuncData
  F_in_force : Fun K "in_force" "in_force" s_in_force a_in_force f_in_force
  b_in_force : Binds K f_in_force ["row", "place"] []
  g_in_force : mg "in_force" = some (.ref a_in_force)
  k_in_force : PySem.W.keepIn K (.ref a_in_force) = true
  a_told : Addr
  f_told : FuncData
  F_told : Fun K "told" "told" s_told a_told f_told
  b_told : Binds K f_told ["row", "moment"] []
  g_told : mg "told" = some (.ref a_told)
  k_told : PySem.W.keepIn K (.ref a_told) = true
  a_place_had : Addr
  f_place_had : FuncData
  F_place_had : Fun K "place_had" "place_had" s_place_had a_place_had f_place_had
  b_place_had : Binds K f_place_had ["row", "person", "plain", "moment"] []
  g_place_had : mg "place_had" = some (.ref a_place_had)
  k_place_had : PySem.W.keepIn K (.ref a_place_had) = true
  a_place_opened : Addr
  f_place_opened : FuncData
  F_place_opened : Fun K "place_opened" "place_opened" s_place_opened a_place_opened f_place_opened
  b_place_opened : Binds K f_place_opened ["fitted", "opens", "moment"] []
  g_place_opened : mg "place_opened" = some (.ref a_place_opened)
  k_place_opened : PySem.W.keepIn K (.ref a_place_opened) = true
  a_shown : Addr
  f_shown : FuncData
  F_shown : Fun K "shown" "shown" s_shown a_shown f_shown
  b_shown : Binds K f_shown ["book", "person", "door", "moment"] []
  g_shown : mg "shown" = some (.ref a_shown)
  k_shown : PySem.W.keepIn K (.ref a_shown) = true
  a_moments_without : Addr
  f_moments_without : FuncData
  F_moments_without : Fun K "moments_without" "moments_without" s_moments_without a_moments_without f_moments_without
  b_moments_without : Binds K f_moments_without ["row", "person", "moment"] []
  g_moments_without : mg "moments_without" = some (.ref a_moments_without)
  k_moments_without : PySem.W.keepIn K (.ref a_moments_without) = true
  a_moments_against : Addr
  f_moments_against : FuncData
  F_moments_against : Fun K "moments_against" "moments_against" s_moments_against a_moments_against f_moments_against
  b_moments_against : Binds K f_moments_against ["book", "person", "kind", "moment"] []
  g_moments_against : mg "moments_against" = some (.ref a_moments_against)
  k_moments_against : PySem.W.keepIn K (.ref a_moments_against) = true
  a_denied : Addr
  f_denied : FuncData
  F_denied : Fun K "denied" "denied" s_denied a_denied f_denied
  b_denied : Binds K f_denied ["book", "person", "door", "moment"] []
  g_denied : mg "denied" = some (.ref a_denied)
  k_denied : PySem.W.keepIn K (.ref a_denied) = true
  a_could : Addr
  f_could : FuncData
  F_could : Fun K "could" "could" s_could a_could f_could
  b_could : Binds K f_could ["book", "person", "door", "moment"] []
  g_could : mg "could" = some (.ref a_could)
  k_could : PySem.W.keepIn K (.ref a_could) = true
  a_openers : Addr
  f_openers : FuncData
  F_openers : Fun K "openers" "openers" s_openers a_openers f_openers
  b_openers : Binds K f_openers ["book", "door", "moment"] []
  g_openers : mg "openers" = some (.ref a_openers)
  k_openers : PySem.W.keepIn K (.ref a_openers) = true
  a_are_kinds : Addr
  f_are_kinds : FuncData
  F_are_kinds : Fun K "are_kinds" "are_kinds" s_are_kinds a_are_kinds f_are_kinds
  b_are_kinds : Binds K f_are_kinds ["opens"] []
  g_are_kinds : mg "are_kinds" = some (.ref a_are_kinds)
  k_are_kinds : PySem.W.keepIn K (.ref a_are_kinds) = true
  a_Book_init : Addr
  f_Book_init : FuncData
  F_Book_init : Fun K "__init__" "Book.__init__" s_Book_init a_Book_init f_Book_init
  b_Book_init : Binds K f_Book_init ["self", "persons", "doors"] []
  mk_Book : Mk K C_Book a_Book_init
  a_Book_cut : Addr
  f_Book_cut : FuncData
  F_Book_cut : Fun K "cut" "Book.cut" s_Book_cut a_Book_cut f_Book_cut
  b_Book_cut : Binds K f_Book_cut ["self", "opens", "plain"] []
  m_Book_cut : Meth K C_Book "cut" a_Book_cut
  a_Book_hand : Addr
  f_Book_hand : FuncData
  F_Book_hand : Fun K "hand" "Book.hand" s_Book_hand a_Book_hand f_Book_hand
  b_Book_hand : Binds K f_Book_hand ["self", "name", "place", "person", "early", "late"] []
  m_Book_hand : Meth K C_Book "hand" a_Book_hand
  a_Book_fit : Addr
  f_Book_fit : FuncData
  F_Book_fit : Fun K "fit" "Book.fit" s_Book_fit a_Book_fit f_Book_fit
  b_Book_fit : Binds K f_Book_fit ["self", "door", "place", "kind", "early", "late"] []
  m_Book_fit : Meth K C_Book "fit" a_Book_fit
  a_Book_entries : Addr
  f_Book_entries : FuncData
  F_Book_entries : Fun K "entries" "Book.entries" s_Book_entries a_Book_entries f_Book_entries
  b_Book_entries : Binds K f_Book_entries ["self", "name"] []
  m_Book_entries : Meth K C_Book "entries" a_Book_entries
  a_Book_fitted : Addr
  f_Book_fitted : FuncData
  F_Book_fitted : Fun K "fitted" "Book.fitted" s_Book_fitted a_Book_fitted f_Book_fitted
  b_Book_fitted : Binds K f_Book_fitted ["self", "door"] []
  m_Book_fitted : Meth K C_Book "fitted" a_Book_fitted
  a_Book_holders : Addr
  f_Book_holders : FuncData
  F_Book_holders : Fun K "holders" "Book.holders" s_Book_holders a_Book_holders f_Book_holders
  b_Book_holders : Binds K f_Book_holders ["self", "name", "moment"] []
  m_Book_holders : Meth K C_Book "holders" a_Book_holders
  a_Book_locks : Addr
  f_Book_locks : FuncData
  F_Book_locks : Fun K "locks" "Book.locks" s_Book_locks a_Book_locks f_Book_locks
  b_Book_locks : Binds K f_Book_locks ["self", "door", "moment"] []
  m_Book_locks : Meth K C_Book "locks" a_Book_locks
  a_Book_everybody : Addr
  f_Book_everybody : FuncData
  F_Book_everybody : Fun K "everybody" "Book.everybody" s_Book_everybody a_Book_everybody f_Book_everybody
  b_Book_everybody : Binds K f_Book_everybody ["self"] []
  m_Book_everybody : Meth K C_Book "everybody" a_Book_everybody
  a_Book_cuts : Addr
  f_Book_cuts : FuncData
  F_Book_cuts : Fun K "cuts" "Book.cuts" s_Book_cuts a_Book_cuts f_Book_cuts
  b_Book_cuts : Binds K f_Book_cuts ["self"] []
  m_Book_cuts : Meth K C_Book "cuts" a_Book_cuts
  a_Book_check_person : Addr
  f_Book_check_person : FuncData
  F_Book_check_person : Fun K "check_person" "Book.check_person" s_Book_check_person a_Book_check_person f_Book_check_person
  b_Book_check_person : Binds K f_Book_check_person ["self", "person"] []
  m_Book_check_person : Meth K C_Book "check_person" a_Book_check_person
  a_Book__key_row : Addr
  f_Book__key_row : FuncData
  F_Book__key_row : Fun K "_key_row" "Book._key_row" s_Book__key_row a_Book__key_row f_Book__key_row
  b_Book__key_row : Binds K f_Book__key_row ["self", "name"] []
  m_Book__key_row : Meth K C_Book "_key_row" a_Book__key_row
  a_Book__door_row : Addr
  f_Book__door_row : FuncData
  F_Book__door_row : Fun K "_door_row" "Book._door_row" s_Book__door_row a_Book__door_row f_Book__door_row
  b_Book__door_row : Binds K f_Book__door_row ["self", "door"] []
  m_Book__door_row : Meth K C_Book "_door_row" a_Book__door_row
  a__law_dice : Addr
  f__law_dice : FuncData
  F__law_dice : Fun K "_law_dice" "_law_dice" s__law_dice a__law_dice f__law_dice
  b__law_dice : Binds K f__law_dice ["_law_script"] []
  g__law_dice : mg "_law_dice" = some (.ref a__law_dice)
  k__law_dice : PySem.W.keepIn K (.ref a__law_dice) = true
  a__law_next : Addr
  f__law_next : FuncData
  F__law_next : Fun K "_law_next" "_law_next" s__law_next a__law_next f__law_next
  b__law_next : Binds K f__law_next ["_law_dice_here", "_law_many"] []
  g__law_next : mg "_law_next" = some (.ref a__law_next)
  k__law_next : PySem.W.keepIn K (.ref a__law_next) = true
  a__law_window : Addr
  f__law_window : FuncData
  F__law_window : Fun K "_law_window" "_law_window" s__law_window a__law_window f__law_window
  b__law_window : Binds K f__law_window ["_law_d", "_law_far"] []
  g__law_window : mg "_law_window" = some (.ref a__law_window)
  k__law_window : PySem.W.keepIn K (.ref a__law_window) = true
  a__law_fits : Addr
  f__law_fits : FuncData
  F__law_fits : Fun K "_law_fits" "_law_fits" s__law_fits a__law_fits f__law_fits
  b__law_fits : Binds K f__law_fits ["_law_rows"] []
  g__law_fits : mg "_law_fits" = some (.ref a__law_fits)
  k__law_fits : PySem.W.keepIn K (.ref a__law_fits) = true
  a__law_turn : Addr
  f__law_turn : FuncData
  F__law_turn : Fun K "_law_turn" "_law_turn" s__law_turn a__law_turn f__law_turn
  b__law_turn : Binds K f__law_turn ["_law_d", "_law_book", "_law_case"] []
  g__law_turn : mg "_law_turn" = some (.ref a__law_turn)
  k__law_turn : PySem.W.keepIn K (.ref a__law_turn) = true
  a__law_story : Addr
  f__law_story : FuncData
  F__law_story : Fun K "_law_story" "_law_story" s__law_story a__law_story f__law_story
  b__law_story : Binds K f__law_story ["_law_d", "_law_most"] []
  g__law_story : mg "_law_story" = some (.ref a__law_story)
  k__law_story : PySem.W.keepIn K (.ref a__law_story) = true
  a__law_written : Addr
  f__law_written : FuncData
  F__law_written : Fun K "_law_written" "_law_written" s__law_written a__law_written f__law_written
  b__law_written : Binds K f__law_written ["_law_case"] []
  g__law_written : mg "_law_written" = some (.ref a__law_written)
  k__law_written : PySem.W.keepIn K (.ref a__law_written) = true
  a__law_words : Addr
  f__law_words : FuncData
  F__law_words : Fun K "_law_words" "_law_words" s__law_words a__law_words f__law_words
  b__law_words : Binds K f__law_words ["_law_book", "_law_case", "_law_moment"] []
  g__law_words : mg "_law_words" = some (.ref a__law_words)
  k__law_words : PySem.W.keepIn K (.ref a__law_words) = true
  a_law : Addr
  f_law : FuncData
  F_law : Fun K "law" "law" s_law a_law f_law
  b_law : Binds K f_law ["_law_script"] []
  g_law : mg "law" = some (.ref a_law)
  k_law : PySem.W.keepIn K (.ref a_law) = true
  a__law_told : Addr
  f__law_told : FuncData
  F__law_told : Fun K "_law_told" "_law_told" s__law_told a__law_told f__law_told
  b__law_told : Binds K f__law_told ["_law_work"] []
  g__law_told : mg "_law_told" = some (.ref a__law_told)
  k__law_told : PySem.W.keepIn K (.ref a__law_told) = true
  t_LAST_KIND : Tok
  g_LAST_KIND : mg "LAST_KIND" = some (.int (9) t_LAST_KIND)
  t_LAST_MOMENT : Tok
  g_LAST_MOMENT : mg "LAST_MOMENT" = some (.int (999) t_LAST_MOMENT)
  t_MAYBE : Tok
  g_MAYBE : mg "MAYBE" = some (.str "maybe" t_MAYBE)
  t_MOST_DOORS : Tok
  g_MOST_DOORS : mg "MOST_DOORS" = some (.int (4) t_MOST_DOORS)
  t_MOST_ENTRIES : Tok
  g_MOST_ENTRIES : mg "MOST_ENTRIES" = some (.int (8) t_MOST_ENTRIES)
  t_MOST_KEYS : Tok
  g_MOST_KEYS : mg "MOST_KEYS" = some (.int (6) t_MOST_KEYS)
  t_MOST_PERSONS : Tok
  g_MOST_PERSONS : mg "MOST_PERSONS" = some (.int (8) t_MOST_PERSONS)
  t_NOT : Tok
  g_NOT : mg "NOT" = some (.str "no" t_NOT)
  t_NOTHING_YET : Tok
  g_NOTHING_YET : mg "NOTHING_YET" = some (.int (-1) t_NOTHING_YET)
  t_SURELY : Tok
  g_SURELY : mg "SURELY" = some (.str "surely" t_SURELY)
  n_ValueError : mg "ValueError" = none
  n_enumerate : mg "enumerate" = none
  n_int : mg "int" = none
  n_isinstance : mg "isinstance" = none
  n_len : mg "len" = none
  n_list : mg "list" = none
  n_max : mg "max" = none
  n_min : mg "min" = none
  n_range : mg "range" = none
  n_reversed : mg "reversed" = none
  n_set : mg "set" = none
  n_sorted : mg "sorted" = none
  n_str : mg "str" = none
  n_tuple : mg "tuple" = none
  n_zip : mg "zip" = none
  C_BadBook : Addr
  c_BadBook : mg "BadBook" = some (.ref C_BadBook)
  C_BadKey : Addr
  c_BadKey : mg "BadKey" = some (.ref C_BadKey)
  C_BadPlace : Addr
  c_BadPlace : mg "BadPlace" = some (.ref C_BadPlace)
  C_BadTimes : Addr
  c_BadTimes : mg "BadTimes" = some (.ref C_BadTimes)
  C_KeyrollError : Addr
  c_KeyrollError : mg "KeyrollError" = some (.ref C_KeyrollError)
  C_NoMoment : Addr
  c_NoMoment : mg "NoMoment" = some (.ref C_NoMoment)
  C_NoOne : Addr
  c_NoOne : mg "NoOne" = some (.ref C_NoOne)
  sp_KeyrollError : PySem.W.specialIn K (.ref C_KeyrollError) "__getattribute__" = some (some (.builtin "type.__getattribute__"))
  mc_KeyrollError : Value
  rd_KeyrollError : PySem.W.readsIn K C_KeyrollError mc_KeyrollError = true
  vi_KeyrollError : PySem.W.findCls K (.ref C_KeyrollError) mc_KeyrollError "__init__" = some (.val (.builtin "ValueError.__init__"))
  kc_BadPlace : PySem.W.keepIn K (.ref C_BadPlace) = true
  sb_BadPlace : PySem.W.subIn K (.ref C_BadPlace) (.type "BaseException") = some true
  ty_BadPlace : PySem.W.typeIn K (.ref C_BadPlace) = some (.type "type")
  te_BadPlace : PySem.W.exmOne K (.ref C_BadPlace) (.ref C_KeyrollError) = some true
  ec_BadPlace : ExcC K C_BadPlace
  kt_BadPlace_BadBook : PySem.W.kitOne K (.ref C_BadPlace) (.ref C_BadBook) = some false
  kt_BadPlace_BadKey : PySem.W.kitOne K (.ref C_BadPlace) (.ref C_BadKey) = some false
  kt_BadPlace_NoOne : PySem.W.kitOne K (.ref C_BadPlace) (.ref C_NoOne) = some false
  kt_BadPlace_BadPlace : PySem.W.kitOne K (.ref C_BadPlace) (.ref C_BadPlace) = some true
  kt_BadPlace_BadTimes : PySem.W.kitOne K (.ref C_BadPlace) (.ref C_BadTimes) = some false
  kt_BadPlace_NoMoment : PySem.W.kitOne K (.ref C_BadPlace) (.ref C_NoMoment) = some false
  kv_BadPlace : PySem.W.kitOne K (.ref C_BadPlace) (.type "ValueError") = some true
  ne_BadPlace : C_BadPlace ≠ C_BadTimes
  x_BadPlace : PySem.W.excIn K C_BadPlace [.type "ValueError", .type "Exception", .type "BaseException", .type "object"] "ValueError.__new__" = true
  kc_BadTimes : PySem.W.keepIn K (.ref C_BadTimes) = true
  sb_BadTimes : PySem.W.subIn K (.ref C_BadTimes) (.type "BaseException") = some true
  ty_BadTimes : PySem.W.typeIn K (.ref C_BadTimes) = some (.type "type")
  te_BadTimes : PySem.W.exmOne K (.ref C_BadTimes) (.ref C_KeyrollError) = some true
  ec_BadTimes : ExcC K C_BadTimes
  kt_BadTimes_BadBook : PySem.W.kitOne K (.ref C_BadTimes) (.ref C_BadBook) = some false
  kt_BadTimes_BadKey : PySem.W.kitOne K (.ref C_BadTimes) (.ref C_BadKey) = some false
  kt_BadTimes_NoOne : PySem.W.kitOne K (.ref C_BadTimes) (.ref C_NoOne) = some false
  kt_BadTimes_BadPlace : PySem.W.kitOne K (.ref C_BadTimes) (.ref C_BadPlace) = some false
  kt_BadTimes_BadTimes : PySem.W.kitOne K (.ref C_BadTimes) (.ref C_BadTimes) = some true
  kt_BadTimes_NoMoment : PySem.W.kitOne K (.ref C_BadTimes) (.ref C_NoMoment) = some false
  kv_BadTimes : PySem.W.kitOne K (.ref C_BadTimes) (.type "ValueError") = some true
  ne_BadTimes : C_BadTimes ≠ C_BadPlace
  o_BadTimes : OexC K C_BadTimes
  i_BadTimes : PySem.W.findIn K (.ref C_BadTimes) "__init__" = some (some (.ref a_BadTimes_init))
  ti_BadTimes : PySem.W.typeIn K (.ref a_BadTimes_init) = some (.type "function")
  nf_BadTimes : PySem.W.findIn K (.ref C_BadTimes) "place" = some none
  xf_BadTimes : XfC K C_BadTimes
  co__law_turn : Addr
  tp__law_turn : Addr
  hc__law_turn : f__law_turn.code = .ref co__law_turn
  tb__law_turn : PySem.W.tabIn K "_law_turn" = some (co__law_turn, tp__law_turn)
  nt__law_turn : K.lookup tp__law_turn = none
theorem mkTx {K : PySem.W.Frag} {h : Heap} {mg : Str → Option Value} (X : K.In h) (G : h.Ns mainGlobals mg)
    {C_Book : Addr} {C_BadBook : Addr} {C_BadKey : Addr} {C_BadPlace : Addr} {C_BadTimes : Addr} {C_KeyrollError : Addr} {C_NoMoment : Addr} {C_NoOne : Addr} {mc_KeyrollError : Value} {nm_BadTimes qn_BadTimes : Str} {N_BadTimes : Addr} {bs_BadTimes bm_BadTimes : List Value} {sn_BadTimes : List Str} {sub_BadTimes : List Value} {ab_BadTimes : Bool} {col_BadTimes : Option Bool} {dd_BadTimes : Option Addr} {k0_BadTimes k1_BadTimes k2_BadTimes k3_BadTimes k5_BadTimes : Option Value} {a_BadTimes_init : Addr} {co__law_turn tp__law_turn : Addr} {od_BadTimes_init an_BadTimes_init : Option Addr} {sl_BadTimes_init : Array (Option Value)} {oc_BadTimes_init kV_BadTimes_init dc_BadTimes_init pm_BadTimes_init ct_BadTimes_init : Value} {cd_BadTimes_init : Value} {a_check_moment : Addr} {od_check_moment an_check_moment : Option Addr} {sl_check_moment : Array (Option Value)} {oc_check_moment kV_check_moment dc_check_moment pm_check_moment ct_check_moment : Value} {cd_check_moment : Value} {a_check_place : Addr} {od_check_place an_check_place : Option Addr} {sl_check_place : Array (Option Value)} {oc_check_place kV_check_place dc_check_place pm_check_place ct_check_place : Value} {cd_check_place : Value} {a_soonest : Addr} {od_soonest an_soonest : Option Addr} {sl_soonest : Array (Option Value)} {oc_soonest kV_soonest dc_soonest pm_soonest ct_soonest : Value} {cd_soonest : Value} {a_latest : Addr} {od_latest an_latest : Option Addr} {sl_latest : Array (Option Value)} {oc_latest kV_latest dc_latest pm_latest ct_latest : Value} {cd_latest : Value} {a_first_stuck : Addr} {od_first_stuck an_first_stuck : Option Addr} {sl_first_stuck : Array (Option Value)} {oc_first_stuck kV_first_stuck dc_first_stuck pm_first_stuck ct_first_stuck : Value} {cd_first_stuck : Value} {a_row_with : Addr} {od_row_with an_row_with : Option Addr} {sl_row_with : Array (Option Value)} {oc_row_with kV_row_with dc_row_with pm_row_with ct_row_with : Value} {cd_row_with : Value} {a_spans : Addr} {od_spans an_spans : Option Addr} {sl_spans : Array (Option Value)} {oc_spans kV_spans dc_spans pm_spans ct_spans : Value} {cd_spans : Value} {a_standing : Addr} {od_standing an_standing : Option Addr} {sl_standing : Array (Option Value)} {oc_standing kV_standing dc_standing pm_standing ct_standing : Value} {cd_standing : Value} {a_moments_by : Addr} {od_moments_by an_moments_by : Option Addr} {sl_moments_by : Array (Option Value)} {oc_moments_by kV_moments_by dc_moments_by pm_moments_by ct_moments_by : Value} {cd_moments_by : Value} {a_in_force : Addr} {od_in_force an_in_force : Option Addr} {sl_in_force : Array (Option Value)} {oc_in_force kV_in_force dc_in_force pm_in_force ct_in_force : Value} {cd_in_force : Value} {a_told : Addr} {od_told an_told : Option Addr} {sl_told : Array (Option Value)} {oc_told kV_told dc_told pm_told ct_told : Value} {cd_told : Value} {a_place_had : Addr} {od_place_had an_place_had : Option Addr} {sl_place_had : Array (Option Value)} {oc_place_had kV_place_had dc_place_had pm_place_had ct_place_had : Value} {cd_place_had : Value} {a_place_opened : Addr} {od_place_opened an_place_opened : Option Addr} {sl_place_opened : Array (Option Value)} {oc_place_opened kV_place_opened dc_place_opened pm_place_opened ct_place_opened : Value} {cd_place_opened : Value} {a_shown : Addr} {od_shown an_shown : Option Addr} {sl_shown : Array (Option Value)} {oc_shown kV_shown dc_shown pm_shown ct_shown : Value} {cd_shown : Value} {a_moments_without : Addr} {od_moments_without an_moments_without : Option Addr} {sl_moments_without : Array (Option Value)} {oc_moments_without kV_moments_without dc_moments_without pm_moments_without ct_moments_without : Value} {cd_moments_without : Value} {a_moments_against : Addr} {od_moments_against an_moments_against : Option Addr} {sl_moments_against : Array (Option Value)} {oc_moments_against kV_moments_against dc_moments_against pm_moments_against ct_moments_against : Value} {cd_moments_against : Value} {a_denied : Addr} {od_denied an_denied : Option Addr} {sl_denied : Array (Option Value)} {oc_denied kV_denied dc_denied pm_denied ct_denied : Value} {cd_denied : Value} {a_could : Addr} {od_could an_could : Option Addr} {sl_could : Array (Option Value)} {oc_could kV_could dc_could pm_could ct_could : Value} {cd_could : Value} {a_openers : Addr} {od_openers an_openers : Option Addr} {sl_openers : Array (Option Value)} {oc_openers kV_openers dc_openers pm_openers ct_openers : Value} {cd_openers : Value} {a_are_kinds : Addr} {od_are_kinds an_are_kinds : Option Addr} {sl_are_kinds : Array (Option Value)} {oc_are_kinds kV_are_kinds dc_are_kinds pm_are_kinds ct_are_kinds : Value} {cd_are_kinds : Value} {a_Book_init : Addr} {od_Book_init an_Book_init : Option Addr} {sl_Book_init : Array (Option Value)} {oc_Book_init kV_Book_init dc_Book_init pm_Book_init ct_Book_init : Value} {cd_Book_init : Value} {a_Book_cut : Addr} {od_Book_cut an_Book_cut : Option Addr} {sl_Book_cut : Array (Option Value)} {oc_Book_cut kV_Book_cut dc_Book_cut pm_Book_cut ct_Book_cut : Value} {cd_Book_cut : Value} {a_Book_hand : Addr} {od_Book_hand an_Book_hand : Option Addr} {sl_Book_hand : Array (Option Value)} {oc_Book_hand kV_Book_hand dc_Book_hand pm_Book_hand ct_Book_hand : Value} {cd_Book_hand : Value} {a_Book_fit : Addr} {od_Book_fit an_Book_fit : Option Addr} {sl_Book_fit : Array (Option Value)} {oc_Book_fit kV_Book_fit dc_Book_fit pm_Book_fit ct_Book_fit : Value} {cd_Book_fit : Value} {a_Book_entries : Addr} {od_Book_entries an_Book_entries : Option Addr} {sl_Book_entries : Array (Option Value)} {oc_Book_entries kV_Book_entries dc_Book_entries pm_Book_entries ct_Book_entries : Value} {cd_Book_entries : Value} {a_Book_fitted : Addr} {od_Book_fitted an_Book_fitted : Option Addr} {sl_Book_fitted : Array (Option Value)} {oc_Book_fitted kV_Book_fitted dc_Book_fitted pm_Book_fitted ct_Book_fitted : Value} {cd_Book_fitted : Value} {a_Book_holders : Addr} {od_Book_holders an_Book_holders : Option Addr} {sl_Book_holders : Array (Option Value)} {oc_Book_holders kV_Book_holders dc_Book_holders pm_Book_holders ct_Book_holders : Value} {cd_Book_holders : Value} {a_Book_locks : Addr} {od_Book_locks an_Book_locks : Option Addr} {sl_Book_locks : Array (Option Value)} {oc_Book_locks kV_Book_locks dc_Book_locks pm_Book_locks ct_Book_locks : Value} {cd_Book_locks : Value} {a_Book_everybody : Addr} {od_Book_everybody an_Book_everybody : Option Addr} {sl_Book_everybody : Array (Option Value)} {oc_Book_everybody kV_Book_everybody dc_Book_everybody pm_Book_everybody ct_Book_everybody : Value} {cd_Book_everybody : Value} {a_Book_cuts : Addr} {od_Book_cuts an_Book_cuts : Option Addr} {sl_Book_cuts : Array (Option Value)} {oc_Book_cuts kV_Book_cuts dc_Book_cuts pm_Book_cuts ct_Book_cuts : Value} {cd_Book_cuts : Value} {a_Book_check_person : Addr} {od_Book_check_person an_Book_check_person : Option Addr} {sl_Book_check_person : Array (Option Value)} {oc_Book_check_person kV_Book_check_person dc_Book_check_person pm_Book_check_person ct_Book_check_person : Value} {cd_Book_check_person : Value} {a_Book__key_row : Addr} {od_Book__key_row an_Book__key_row : Option Addr} {sl_Book__key_row : Array (Option Value)} {oc_Book__key_row kV_Book__key_row dc_Book__key_row pm_Book__key_row ct_Book__key_row : Value} {cd_Book__key_row : Value} {a_Book__door_row : Addr} {od_Book__door_row an_Book__door_row : Option Addr} {sl_Book__door_row : Array (Option Value)} {oc_Book__door_row kV_Book__door_row dc_Book__door_row pm_Book__door_row ct_Book__door_row : Value} {cd_Book__door_row : Value} {a__law_dice : Addr} {od__law_dice an__law_dice : Option Addr} {sl__law_dice : Array (Option Value)} {oc__law_dice kV__law_dice dc__law_dice pm__law_dice ct__law_dice : Value} {cd__law_dice : Value} {a__law_next : Addr} {od__law_next an__law_next : Option Addr} {sl__law_next : Array (Option Value)} {oc__law_next kV__law_next dc__law_next pm__law_next ct__law_next : Value} {cd__law_next : Value} {a__law_window : Addr} {od__law_window an__law_window : Option Addr} {sl__law_window : Array (Option Value)} {oc__law_window kV__law_window dc__law_window pm__law_window ct__law_window : Value} {cd__law_window : Value} {a__law_fits : Addr} {od__law_fits an__law_fits : Option Addr} {sl__law_fits : Array (Option Value)} {oc__law_fits kV__law_fits dc__law_fits pm__law_fits ct__law_fits : Value} {cd__law_fits : Value} {a__law_turn : Addr} {od__law_turn an__law_turn : Option Addr} {sl__law_turn : Array (Option Value)} {oc__law_turn kV__law_turn dc__law_turn pm__law_turn ct__law_turn : Value} {a__law_story : Addr} {od__law_story an__law_story : Option Addr} {sl__law_story : Array (Option Value)} {oc__law_story kV__law_story dc__law_story pm__law_story ct__law_story : Value} {cd__law_story : Value} {a__law_written : Addr} {od__law_written an__law_written : Option Addr} {sl__law_written : Array (Option Value)} {oc__law_written kV__law_written dc__law_written pm__law_written ct__law_written : Value} {cd__law_written : Value} {a__law_words : Addr} {od__law_words an__law_words : Option Addr} {sl__law_words : Array (Option Value)} {oc__law_words kV__law_words dc__law_words pm__law_words ct__law_words : Value} {cd__law_words : Value} {a_law : Addr} {od_law an_law : Option Addr} {sl_law : Array (Option Value)} {oc_law kV_law dc_law pm_law ct_law : Value} {cd_law : Value} {a__law_told : Addr} {od__law_told an__law_told : Option Addr} {sl__law_told : Array (Option Value)} {oc__law_told kV__law_told dc__law_told pm__law_told ct__law_told : Value} {cd__law_told : Value} {t_LAST_KIND : Tok} {t_LAST_MOMENT : Tok} {t_MAYBE : Tok} {t_MOST_DOORS : Tok} {t_MOST_ENTRIES : Tok} {t_MOST_KEYS : Tok} {t_MOST_PERSONS : Tok} {t_NOT : Tok} {t_NOTHING_YET : Tok} {t_SURELY : Tok}
    (c_Book : PySem.W.nsIn K mainGlobals "Book" = some (some (.ref C_Book)))
    (pg_Book : PySem.W.plainGet K C_Book Str.empty = true)
    (hd_Book : PySem.W.hasDictIn K C_Book = true)
    (po_Book : PySem.W.plainOver K C_Book = true)
    (sa_Book : PySem.W.findIn K (.ref C_Book) "__setattr__" = some (some (.builtin "object.__setattr__")))
    (mk_Book : PySem.W.makesIn K C_Book = true)
    (kc_Book : PySem.W.keepIn K (.ref C_Book) = true)
    (na_Book__cuts : PySem.W.findIn K (.ref C_Book) "_cuts" = some none)
    (na_Book__door_rows : PySem.W.findIn K (.ref C_Book) "_door_rows" = some none)
    (na_Book__key_rows : PySem.W.findIn K (.ref C_Book) "_key_rows" = some none)
    (na_Book__persons : PySem.W.findIn K (.ref C_Book) "_persons" = some none)
    (c_BadBook : PySem.W.nsIn K mainGlobals "BadBook" = some (some (.ref C_BadBook)))
    (c_BadKey : PySem.W.nsIn K mainGlobals "BadKey" = some (some (.ref C_BadKey)))
    (c_BadPlace : PySem.W.nsIn K mainGlobals "BadPlace" = some (some (.ref C_BadPlace)))
    (c_BadTimes : PySem.W.nsIn K mainGlobals "BadTimes" = some (some (.ref C_BadTimes)))
    (c_KeyrollError : PySem.W.nsIn K mainGlobals "KeyrollError" = some (some (.ref C_KeyrollError)))
    (c_NoMoment : PySem.W.nsIn K mainGlobals "NoMoment" = some (some (.ref C_NoMoment)))
    (c_NoOne : PySem.W.nsIn K mainGlobals "NoOne" = some (some (.ref C_NoOne)))
    (sp_KeyrollError : PySem.W.specialIn K (.ref C_KeyrollError) "__getattribute__" = some (some (.builtin "type.__getattribute__")))
    (ty_KeyrollError : PySem.W.typeIn K (.ref C_KeyrollError) = some mc_KeyrollError)
    (tb_KeyrollError : PySem.W.typeIn K (.ref C_KeyrollError) = some (.type "type"))
    (rd_KeyrollError : PySem.W.readsIn K C_KeyrollError mc_KeyrollError = true)
    (vi_KeyrollError : PySem.W.findCls K (.ref C_KeyrollError) mc_KeyrollError "__init__" = some (.val (.builtin "ValueError.__init__")))
    (sb_KeyrollError : PySem.W.subIn K (.ref C_KeyrollError) (.type "BaseException") = some true)
    (hd_KeyrollError : PySem.W.hasDictIn K C_KeyrollError = true)
    (og : PySem.W.specialIn K (.builtin "object.__class__") "__get__" = some (some (.builtin "getset_descriptor.__get__")))
    (ot : PySem.W.takesIn K (.builtin "object.__class__") = some true)
    (kc_BadPlace : PySem.W.keepIn K (.ref C_BadPlace) = true)
    (sb_BadPlace : PySem.W.subIn K (.ref C_BadPlace) (.type "BaseException") = some true)
    (ty_BadPlace : PySem.W.typeIn K (.ref C_BadPlace) = some (.type "type"))
    (su_BadPlace : PySem.W.subIn K (.ref C_BadPlace) (.ref C_KeyrollError) = some true)
    (ga_BadPlace : PySem.W.findIn K (.ref C_BadPlace) "__getattribute__" = some (some (.builtin "BaseException.__getattribute__")))
    (gg_BadPlace : PySem.W.findIn K (.ref C_BadPlace) "__getattr__" = some none)
    (hd_BadPlace : PySem.W.hasDictIn K C_BadPlace = true)
    (oc_BadPlace : PySem.W.findIn K (.ref C_BadPlace) "__class__" = some (some (.builtin "object.__class__")))
    (mo_BadPlace : PySem.W.mroIn K C_BadPlace (.type "object") = some true)
    (kt_BadPlace_BadBook : PySem.W.kitOne K (.ref C_BadPlace) (.ref C_BadBook) = some false)
    (kt_BadPlace_BadKey : PySem.W.kitOne K (.ref C_BadPlace) (.ref C_BadKey) = some false)
    (kt_BadPlace_NoOne : PySem.W.kitOne K (.ref C_BadPlace) (.ref C_NoOne) = some false)
    (kt_BadPlace_BadPlace : PySem.W.kitOne K (.ref C_BadPlace) (.ref C_BadPlace) = some true)
    (kt_BadPlace_BadTimes : PySem.W.kitOne K (.ref C_BadPlace) (.ref C_BadTimes) = some false)
    (kt_BadPlace_NoMoment : PySem.W.kitOne K (.ref C_BadPlace) (.ref C_NoMoment) = some false)
    (kv_BadPlace : PySem.W.kitOne K (.ref C_BadPlace) (.type "ValueError") = some true)
    (x_BadPlace : PySem.W.excIn K C_BadPlace [.type "ValueError", .type "Exception", .type "BaseException", .type "object"] "ValueError.__new__" = true)
    (kc_BadTimes : PySem.W.keepIn K (.ref C_BadTimes) = true)
    (sb_BadTimes : PySem.W.subIn K (.ref C_BadTimes) (.type "BaseException") = some true)
    (ty_BadTimes : PySem.W.typeIn K (.ref C_BadTimes) = some (.type "type"))
    (su_BadTimes : PySem.W.subIn K (.ref C_BadTimes) (.ref C_KeyrollError) = some true)
    (ga_BadTimes : PySem.W.findIn K (.ref C_BadTimes) "__getattribute__" = some (some (.builtin "BaseException.__getattribute__")))
    (gg_BadTimes : PySem.W.findIn K (.ref C_BadTimes) "__getattr__" = some none)
    (hd_BadTimes : PySem.W.hasDictIn K C_BadTimes = true)
    (oc_BadTimes : PySem.W.findIn K (.ref C_BadTimes) "__class__" = some (some (.builtin "object.__class__")))
    (mo_BadTimes : PySem.W.mroIn K C_BadTimes (.type "object") = some true)
    (kt_BadTimes_BadBook : PySem.W.kitOne K (.ref C_BadTimes) (.ref C_BadBook) = some false)
    (kt_BadTimes_BadKey : PySem.W.kitOne K (.ref C_BadTimes) (.ref C_BadKey) = some false)
    (kt_BadTimes_NoOne : PySem.W.kitOne K (.ref C_BadTimes) (.ref C_NoOne) = some false)
    (kt_BadTimes_BadPlace : PySem.W.kitOne K (.ref C_BadTimes) (.ref C_BadPlace) = some false)
    (kt_BadTimes_BadTimes : PySem.W.kitOne K (.ref C_BadTimes) (.ref C_BadTimes) = some true)
    (kt_BadTimes_NoMoment : PySem.W.kitOne K (.ref C_BadTimes) (.ref C_NoMoment) = some false)
    (kv_BadTimes : PySem.W.kitOne K (.ref C_BadTimes) (.type "ValueError") = some true)
    (lk_BadTimes : K.lookup C_BadTimes = some (excClassObj nm_BadTimes qn_BadTimes C_BadTimes N_BadTimes bs_BadTimes bm_BadTimes true sn_BadTimes sub_BadTimes ab_BadTimes col_BadTimes dd_BadTimes k0_BadTimes k1_BadTimes k2_BadTimes k3_BadTimes k5_BadTimes "ValueError.__new__"))
    (rv_BadTimes : PySem.HandSPX.refsVE bm_BadTimes = true)
    (sa_BadTimes : PySem.W.findIn K (.ref C_BadTimes) "__setattr__" = some (some (.builtin "object.__setattr__")))
    (i_BadTimes : PySem.W.findIn K (.ref C_BadTimes) "__init__" = some (some (.ref a_BadTimes_init)))
    (ti_BadTimes : PySem.W.typeIn K (.ref a_BadTimes_init) = some (.type "function"))
    (nf_BadTimes : PySem.W.findIn K (.ref C_BadTimes) "place" = some none)
    (tb__law_turn : PySem.W.tabIn K "_law_turn" = some (co__law_turn, tp__law_turn))
    (nt__law_turn : K.lookup tp__law_turn = none)
    (k_BadTimes_init : PySem.W.keepIn K (.ref a_BadTimes_init) = true)
    (l_BadTimes_init : K.lookup a_BadTimes_init = some ⟨oc_BadTimes_init, od_BadTimes_init, .func (PySem.W.fnOf "__init__" "BadTimes.__init__" (defArgs s_BadTimes_init) (defBody s_BadTimes_init) (defScope s_BadTimes_init) .none kV_BadTimes_init dc_BadTimes_init pm_BadTimes_init an_BadTimes_init cd_BadTimes_init ct_BadTimes_init), sl_BadTimes_init⟩)
    (cc_BadTimes_init : PySem.W.codeIn K cd_BadTimes_init "BadTimes.__init__" = true)
    (g_check_moment : PySem.W.nsIn K mainGlobals "check_moment" = some (some (.ref a_check_moment)))
    (l_check_moment : K.lookup a_check_moment = some ⟨oc_check_moment, od_check_moment, .func (PySem.W.fnOf "check_moment" "check_moment" (defArgs s_check_moment) (defBody s_check_moment) (defScope s_check_moment) .none kV_check_moment dc_check_moment pm_check_moment an_check_moment cd_check_moment ct_check_moment), sl_check_moment⟩)
    (cc_check_moment : PySem.W.codeIn K cd_check_moment "check_moment" = true)
    (k_check_moment : PySem.W.keepIn K (.ref a_check_moment) = true)
    (g_check_place : PySem.W.nsIn K mainGlobals "check_place" = some (some (.ref a_check_place)))
    (l_check_place : K.lookup a_check_place = some ⟨oc_check_place, od_check_place, .func (PySem.W.fnOf "check_place" "check_place" (defArgs s_check_place) (defBody s_check_place) (defScope s_check_place) .none kV_check_place dc_check_place pm_check_place an_check_place cd_check_place ct_check_place), sl_check_place⟩)
    (cc_check_place : PySem.W.codeIn K cd_check_place "check_place" = true)
    (k_check_place : PySem.W.keepIn K (.ref a_check_place) = true)
    (g_soonest : PySem.W.nsIn K mainGlobals "soonest" = some (some (.ref a_soonest)))
    (l_soonest : K.lookup a_soonest = some ⟨oc_soonest, od_soonest, .func (PySem.W.fnOf "soonest" "soonest" (defArgs s_soonest) (defBody s_soonest) (defScope s_soonest) .none kV_soonest dc_soonest pm_soonest an_soonest cd_soonest ct_soonest), sl_soonest⟩)
    (cc_soonest : PySem.W.codeIn K cd_soonest "soonest" = true)
    (k_soonest : PySem.W.keepIn K (.ref a_soonest) = true)
    (g_latest : PySem.W.nsIn K mainGlobals "latest" = some (some (.ref a_latest)))
    (l_latest : K.lookup a_latest = some ⟨oc_latest, od_latest, .func (PySem.W.fnOf "latest" "latest" (defArgs s_latest) (defBody s_latest) (defScope s_latest) .none kV_latest dc_latest pm_latest an_latest cd_latest ct_latest), sl_latest⟩)
    (cc_latest : PySem.W.codeIn K cd_latest "latest" = true)
    (k_latest : PySem.W.keepIn K (.ref a_latest) = true)
    (g_first_stuck : PySem.W.nsIn K mainGlobals "first_stuck" = some (some (.ref a_first_stuck)))
    (l_first_stuck : K.lookup a_first_stuck = some ⟨oc_first_stuck, od_first_stuck, .func (PySem.W.fnOf "first_stuck" "first_stuck" (defArgs s_first_stuck) (defBody s_first_stuck) (defScope s_first_stuck) .none kV_first_stuck dc_first_stuck pm_first_stuck an_first_stuck cd_first_stuck ct_first_stuck), sl_first_stuck⟩)
    (cc_first_stuck : PySem.W.codeIn K cd_first_stuck "first_stuck" = true)
    (k_first_stuck : PySem.W.keepIn K (.ref a_first_stuck) = true)
    (g_row_with : PySem.W.nsIn K mainGlobals "row_with" = some (some (.ref a_row_with)))
    (l_row_with : K.lookup a_row_with = some ⟨oc_row_with, od_row_with, .func (PySem.W.fnOf "row_with" "row_with" (defArgs s_row_with) (defBody s_row_with) (defScope s_row_with) .none kV_row_with dc_row_with pm_row_with an_row_with cd_row_with ct_row_with), sl_row_with⟩)
    (cc_row_with : PySem.W.codeIn K cd_row_with "row_with" = true)
    (k_row_with : PySem.W.keepIn K (.ref a_row_with) = true)
    (g_spans : PySem.W.nsIn K mainGlobals "spans" = some (some (.ref a_spans)))
    (l_spans : K.lookup a_spans = some ⟨oc_spans, od_spans, .func (PySem.W.fnOf "spans" "spans" (defArgs s_spans) (defBody s_spans) (defScope s_spans) .none kV_spans dc_spans pm_spans an_spans cd_spans ct_spans), sl_spans⟩)
    (cc_spans : PySem.W.codeIn K cd_spans "spans" = true)
    (k_spans : PySem.W.keepIn K (.ref a_spans) = true)
    (g_standing : PySem.W.nsIn K mainGlobals "standing" = some (some (.ref a_standing)))
    (l_standing : K.lookup a_standing = some ⟨oc_standing, od_standing, .func (PySem.W.fnOf "standing" "standing" (defArgs s_standing) (defBody s_standing) (defScope s_standing) .none kV_standing dc_standing pm_standing an_standing cd_standing ct_standing), sl_standing⟩)
    (cc_standing : PySem.W.codeIn K cd_standing "standing" = true)
    (k_standing : PySem.W.keepIn K (.ref a_standing) = true)
    (g_moments_by : PySem.W.nsIn K mainGlobals "moments_by" = some (some (.ref a_moments_by)))
    (l_moments_by : K.lookup a_moments_by = some ⟨oc_moments_by, od_moments_by, .func (PySem.W.fnOf "moments_by" "moments_by" (defArgs s_moments_by) (defBody s_moments_by) (defScope s_moments_by) .none kV_moments_by dc_moments_by pm_moments_by an_moments_by cd_moments_by ct_moments_by), sl_moments_by⟩)
    (cc_moments_by : PySem.W.codeIn K cd_moments_by "moments_by" = true)
    (k_moments_by : PySem.W.keepIn K (.ref a_moments_by) = true)
    (g_in_force : PySem.W.nsIn K mainGlobals "in_force" = some (some (.ref a_in_force)))
    (l_in_force : K.lookup a_in_force = some ⟨oc_in_force, od_in_force, .func (PySem.W.fnOf "in_force" "in_force" (defArgs s_in_force) (defBody s_in_force) (defScope s_in_force) .none kV_in_force dc_in_force pm_in_force an_in_force cd_in_force ct_in_force), sl_in_force⟩)
    (cc_in_force : PySem.W.codeIn K cd_in_force "in_force" = true)
    (k_in_force : PySem.W.keepIn K (.ref a_in_force) = true)
    (g_told : PySem.W.nsIn K mainGlobals "told" = some (some (.ref a_told)))
    (l_told : K.lookup a_told = some ⟨oc_told, od_told, .func (PySem.W.fnOf "told" "told" (defArgs s_told) (defBody s_told) (defScope s_told) .none kV_told dc_told pm_told an_told cd_told ct_told), sl_told⟩)
    (cc_told : PySem.W.codeIn K cd_told "told" = true)
    (k_told : PySem.W.keepIn K (.ref a_told) = true)
    (g_place_had : PySem.W.nsIn K mainGlobals "place_had" = some (some (.ref a_place_had)))
    (l_place_had : K.lookup a_place_had = some ⟨oc_place_had, od_place_had, .func (PySem.W.fnOf "place_had" "place_had" (defArgs s_place_had) (defBody s_place_had) (defScope s_place_had) .none kV_place_had dc_place_had pm_place_had an_place_had cd_place_had ct_place_had), sl_place_had⟩)
    (cc_place_had : PySem.W.codeIn K cd_place_had "place_had" = true)
    (k_place_had : PySem.W.keepIn K (.ref a_place_had) = true)
    (g_place_opened : PySem.W.nsIn K mainGlobals "place_opened" = some (some (.ref a_place_opened)))
    (l_place_opened : K.lookup a_place_opened = some ⟨oc_place_opened, od_place_opened, .func (PySem.W.fnOf "place_opened" "place_opened" (defArgs s_place_opened) (defBody s_place_opened) (defScope s_place_opened) .none kV_place_opened dc_place_opened pm_place_opened an_place_opened cd_place_opened ct_place_opened), sl_place_opened⟩)
    (cc_place_opened : PySem.W.codeIn K cd_place_opened "place_opened" = true)
    (k_place_opened : PySem.W.keepIn K (.ref a_place_opened) = true)
    (g_shown : PySem.W.nsIn K mainGlobals "shown" = some (some (.ref a_shown)))
    (l_shown : K.lookup a_shown = some ⟨oc_shown, od_shown, .func (PySem.W.fnOf "shown" "shown" (defArgs s_shown) (defBody s_shown) (defScope s_shown) .none kV_shown dc_shown pm_shown an_shown cd_shown ct_shown), sl_shown⟩)
    (cc_shown : PySem.W.codeIn K cd_shown "shown" = true)
    (k_shown : PySem.W.keepIn K (.ref a_shown) = true)
    (g_moments_without : PySem.W.nsIn K mainGlobals "moments_without" = some (some (.ref a_moments_without)))
    (l_moments_without : K.lookup a_moments_without = some ⟨oc_moments_without, od_moments_without, .func (PySem.W.fnOf "moments_without" "moments_without" (defArgs s_moments_without) (defBody s_moments_without) (defScope s_moments_without) .none kV_moments_without dc_moments_without pm_moments_without an_moments_without cd_moments_without ct_moments_without), sl_moments_without⟩)
    (cc_moments_without : PySem.W.codeIn K cd_moments_without "moments_without" = true)
    (k_moments_without : PySem.W.keepIn K (.ref a_moments_without) = true)
    (g_moments_against : PySem.W.nsIn K mainGlobals "moments_against" = some (some (.ref a_moments_against)))
    (l_moments_against : K.lookup a_moments_against = some ⟨oc_moments_against, od_moments_against, .func (PySem.W.fnOf "moments_against" "moments_against" (defArgs s_moments_against) (defBody s_moments_against) (defScope s_moments_against) .none kV_moments_against dc_moments_against pm_moments_against an_moments_against cd_moments_against ct_moments_against), sl_moments_against⟩)
    (cc_moments_against : PySem.W.codeIn K cd_moments_against "moments_against" = true)
    (k_moments_against : PySem.W.keepIn K (.ref a_moments_against) = true)
    (g_denied : PySem.W.nsIn K mainGlobals "denied" = some (some (.ref a_denied)))
    (l_denied : K.lookup a_denied = some ⟨oc_denied, od_denied, .func (PySem.W.fnOf "denied" "denied" (defArgs s_denied) (defBody s_denied) (defScope s_denied) .none kV_denied dc_denied pm_denied an_denied cd_denied ct_denied), sl_denied⟩)
    (cc_denied : PySem.W.codeIn K cd_denied "denied" = true)
    (k_denied : PySem.W.keepIn K (.ref a_denied) = true)
    (g_could : PySem.W.nsIn K mainGlobals "could" = some (some (.ref a_could)))
    (l_could : K.lookup a_could = some ⟨oc_could, od_could, .func (PySem.W.fnOf "could" "could" (defArgs s_could) (defBody s_could) (defScope s_could) .none kV_could dc_could pm_could an_could cd_could ct_could), sl_could⟩)
    (cc_could : PySem.W.codeIn K cd_could "could" = true)
    (k_could : PySem.W.keepIn K (.ref a_could) = true)
    (g_openers : PySem.W.nsIn K mainGlobals "openers" = some (some (.ref a_openers)))
    (l_openers : K.lookup a_openers = some ⟨oc_openers, od_openers, .func (PySem.W.fnOf "openers" "openers" (defArgs s_openers) (defBody s_openers) (defScope s_openers) .none kV_openers dc_openers pm_openers an_openers cd_openers ct_openers), sl_openers⟩)
    (cc_openers : PySem.W.codeIn K cd_openers "openers" = true)
    (k_openers : PySem.W.keepIn K (.ref a_openers) = true)
    (g_are_kinds : PySem.W.nsIn K mainGlobals "are_kinds" = some (some (.ref a_are_kinds)))
    (l_are_kinds : K.lookup a_are_kinds = some ⟨oc_are_kinds, od_are_kinds, .func (PySem.W.fnOf "are_kinds" "are_kinds" (defArgs s_are_kinds) (defBody s_are_kinds) (defScope s_are_kinds) .none kV_are_kinds dc_are_kinds pm_are_kinds an_are_kinds cd_are_kinds ct_are_kinds), sl_are_kinds⟩)
    (cc_are_kinds : PySem.W.codeIn K cd_are_kinds "are_kinds" = true)
    (k_are_kinds : PySem.W.keepIn K (.ref a_are_kinds) = true)
    (m_Book_init : PySem.W.findIn K (.ref C_Book) "__init__" = some (some (.ref a_Book_init)))
    (i_Book_init : PySem.W.isFn K (.ref a_Book_init) = true)
    (l_Book_init : K.lookup a_Book_init = some ⟨oc_Book_init, od_Book_init, .func (PySem.W.fnOf "__init__" "Book.__init__" (defArgs s_Book_init) (defBody s_Book_init) (defScope s_Book_init) .none kV_Book_init dc_Book_init pm_Book_init an_Book_init cd_Book_init ct_Book_init), sl_Book_init⟩)
    (cc_Book_init : PySem.W.codeIn K cd_Book_init "Book.__init__" = true)
    (k_Book_init : PySem.W.keepIn K (.ref a_Book_init) = true)
    (m_Book_cut : PySem.W.findIn K (.ref C_Book) "cut" = some (some (.ref a_Book_cut)))
    (i_Book_cut : PySem.W.isFn K (.ref a_Book_cut) = true)
    (l_Book_cut : K.lookup a_Book_cut = some ⟨oc_Book_cut, od_Book_cut, .func (PySem.W.fnOf "cut" "Book.cut" (defArgs s_Book_cut) (defBody s_Book_cut) (defScope s_Book_cut) .none kV_Book_cut dc_Book_cut pm_Book_cut an_Book_cut cd_Book_cut ct_Book_cut), sl_Book_cut⟩)
    (cc_Book_cut : PySem.W.codeIn K cd_Book_cut "Book.cut" = true)
    (k_Book_cut : PySem.W.keepIn K (.ref a_Book_cut) = true)
    (m_Book_hand : PySem.W.findIn K (.ref C_Book) "hand" = some (some (.ref a_Book_hand)))
    (i_Book_hand : PySem.W.isFn K (.ref a_Book_hand) = true)
    (l_Book_hand : K.lookup a_Book_hand = some ⟨oc_Book_hand, od_Book_hand, .func (PySem.W.fnOf "hand" "Book.hand" (defArgs s_Book_hand) (defBody s_Book_hand) (defScope s_Book_hand) .none kV_Book_hand dc_Book_hand pm_Book_hand an_Book_hand cd_Book_hand ct_Book_hand), sl_Book_hand⟩)
    (cc_Book_hand : PySem.W.codeIn K cd_Book_hand "Book.hand" = true)
    (k_Book_hand : PySem.W.keepIn K (.ref a_Book_hand) = true)
    (m_Book_fit : PySem.W.findIn K (.ref C_Book) "fit" = some (some (.ref a_Book_fit)))
    (i_Book_fit : PySem.W.isFn K (.ref a_Book_fit) = true)
    (l_Book_fit : K.lookup a_Book_fit = some ⟨oc_Book_fit, od_Book_fit, .func (PySem.W.fnOf "fit" "Book.fit" (defArgs s_Book_fit) (defBody s_Book_fit) (defScope s_Book_fit) .none kV_Book_fit dc_Book_fit pm_Book_fit an_Book_fit cd_Book_fit ct_Book_fit), sl_Book_fit⟩)
    (cc_Book_fit : PySem.W.codeIn K cd_Book_fit "Book.fit" = true)
    (k_Book_fit : PySem.W.keepIn K (.ref a_Book_fit) = true)
    (m_Book_entries : PySem.W.findIn K (.ref C_Book) "entries" = some (some (.ref a_Book_entries)))
    (i_Book_entries : PySem.W.isFn K (.ref a_Book_entries) = true)
    (l_Book_entries : K.lookup a_Book_entries = some ⟨oc_Book_entries, od_Book_entries, .func (PySem.W.fnOf "entries" "Book.entries" (defArgs s_Book_entries) (defBody s_Book_entries) (defScope s_Book_entries) .none kV_Book_entries dc_Book_entries pm_Book_entries an_Book_entries cd_Book_entries ct_Book_entries), sl_Book_entries⟩)
    (cc_Book_entries : PySem.W.codeIn K cd_Book_entries "Book.entries" = true)
    (k_Book_entries : PySem.W.keepIn K (.ref a_Book_entries) = true)
    (m_Book_fitted : PySem.W.findIn K (.ref C_Book) "fitted" = some (some (.ref a_Book_fitted)))
    (i_Book_fitted : PySem.W.isFn K (.ref a_Book_fitted) = true)
    (l_Book_fitted : K.lookup a_Book_fitted = some ⟨oc_Book_fitted, od_Book_fitted, .func (PySem.W.fnOf "fitted" "Book.fitted" (defArgs s_Book_fitted) (defBody s_Book_fitted) (defScope s_Book_fitted) .none kV_Book_fitted dc_Book_fitted pm_Book_fitted an_Book_fitted cd_Book_fitted ct_Book_fitted), sl_Book_fitted⟩)
    (cc_Book_fitted : PySem.W.codeIn K cd_Book_fitted "Book.fitted" = true)
    (k_Book_fitted : PySem.W.keepIn K (.ref a_Book_fitted) = true)
    (m_Book_holders : PySem.W.findIn K (.ref C_Book) "holders" = some (some (.ref a_Book_holders)))
    (i_Book_holders : PySem.W.isFn K (.ref a_Book_holders) = true)
    (l_Book_holders : K.lookup a_Book_holders = some ⟨oc_Book_holders, od_Book_holders, .func (PySem.W.fnOf "holders" "Book.holders" (defArgs s_Book_holders) (defBody s_Book_holders) (defScope s_Book_holders) .none kV_Book_holders dc_Book_holders pm_Book_holders an_Book_holders cd_Book_holders ct_Book_holders), sl_Book_holders⟩)
    (cc_Book_holders : PySem.W.codeIn K cd_Book_holders "Book.holders" = true)
    (k_Book_holders : PySem.W.keepIn K (.ref a_Book_holders) = true)
    (m_Book_locks : PySem.W.findIn K (.ref C_Book) "locks" = some (some (.ref a_Book_locks)))
    (i_Book_locks : PySem.W.isFn K (.ref a_Book_locks) = true)
    (l_Book_locks : K.lookup a_Book_locks = some ⟨oc_Book_locks, od_Book_locks, .func (PySem.W.fnOf "locks" "Book.locks" (defArgs s_Book_locks) (defBody s_Book_locks) (defScope s_Book_locks) .none kV_Book_locks dc_Book_locks pm_Book_locks an_Book_locks cd_Book_locks ct_Book_locks), sl_Book_locks⟩)
    (cc_Book_locks : PySem.W.codeIn K cd_Book_locks "Book.locks" = true)
    (k_Book_locks : PySem.W.keepIn K (.ref a_Book_locks) = true)
    (m_Book_everybody : PySem.W.findIn K (.ref C_Book) "everybody" = some (some (.ref a_Book_everybody)))
    (i_Book_everybody : PySem.W.isFn K (.ref a_Book_everybody) = true)
    (l_Book_everybody : K.lookup a_Book_everybody = some ⟨oc_Book_everybody, od_Book_everybody, .func (PySem.W.fnOf "everybody" "Book.everybody" (defArgs s_Book_everybody) (defBody s_Book_everybody) (defScope s_Book_everybody) .none kV_Book_everybody dc_Book_everybody pm_Book_everybody an_Book_everybody cd_Book_everybody ct_Book_everybody), sl_Book_everybody⟩)
    (cc_Book_everybody : PySem.W.codeIn K cd_Book_everybody "Book.everybody" = true)
    (k_Book_everybody : PySem.W.keepIn K (.ref a_Book_everybody) = true)
    (m_Book_cuts : PySem.W.findIn K (.ref C_Book) "cuts" = some (some (.ref a_Book_cuts)))
    (i_Book_cuts : PySem.W.isFn K (.ref a_Book_cuts) = true)
    (l_Book_cuts : K.lookup a_Book_cuts = some ⟨oc_Book_cuts, od_Book_cuts, .func (PySem.W.fnOf "cuts" "Book.cuts" (defArgs s_Book_cuts) (defBody s_Book_cuts) (defScope s_Book_cuts) .none kV_Book_cuts dc_Book_cuts pm_Book_cuts an_Book_cuts cd_Book_cuts ct_Book_cuts), sl_Book_cuts⟩)
    (cc_Book_cuts : PySem.W.codeIn K cd_Book_cuts "Book.cuts" = true)
    (k_Book_cuts : PySem.W.keepIn K (.ref a_Book_cuts) = true)
    (m_Book_check_person : PySem.W.findIn K (.ref C_Book) "check_person" = some (some (.ref a_Book_check_person)))
    (i_Book_check_person : PySem.W.isFn K (.ref a_Book_check_person) = true)
    (l_Book_check_person : K.lookup a_Book_check_person = some ⟨oc_Book_check_person, od_Book_check_person, .func (PySem.W.fnOf "check_person" "Book.check_person" (defArgs s_Book_check_person) (defBody s_Book_check_person) (defScope s_Book_check_person) .none kV_Book_check_person dc_Book_check_person pm_Book_check_person an_Book_check_person cd_Book_check_person ct_Book_check_person), sl_Book_check_person⟩)
    (cc_Book_check_person : PySem.W.codeIn K cd_Book_check_person "Book.check_person" = true)
    (k_Book_check_person : PySem.W.keepIn K (.ref a_Book_check_person) = true)
    (m_Book__key_row : PySem.W.findIn K (.ref C_Book) "_key_row" = some (some (.ref a_Book__key_row)))
    (i_Book__key_row : PySem.W.isFn K (.ref a_Book__key_row) = true)
    (l_Book__key_row : K.lookup a_Book__key_row = some ⟨oc_Book__key_row, od_Book__key_row, .func (PySem.W.fnOf "_key_row" "Book._key_row" (defArgs s_Book__key_row) (defBody s_Book__key_row) (defScope s_Book__key_row) .none kV_Book__key_row dc_Book__key_row pm_Book__key_row an_Book__key_row cd_Book__key_row ct_Book__key_row), sl_Book__key_row⟩)
    (cc_Book__key_row : PySem.W.codeIn K cd_Book__key_row "Book._key_row" = true)
    (k_Book__key_row : PySem.W.keepIn K (.ref a_Book__key_row) = true)
    (m_Book__door_row : PySem.W.findIn K (.ref C_Book) "_door_row" = some (some (.ref a_Book__door_row)))
    (i_Book__door_row : PySem.W.isFn K (.ref a_Book__door_row) = true)
    (l_Book__door_row : K.lookup a_Book__door_row = some ⟨oc_Book__door_row, od_Book__door_row, .func (PySem.W.fnOf "_door_row" "Book._door_row" (defArgs s_Book__door_row) (defBody s_Book__door_row) (defScope s_Book__door_row) .none kV_Book__door_row dc_Book__door_row pm_Book__door_row an_Book__door_row cd_Book__door_row ct_Book__door_row), sl_Book__door_row⟩)
    (cc_Book__door_row : PySem.W.codeIn K cd_Book__door_row "Book._door_row" = true)
    (k_Book__door_row : PySem.W.keepIn K (.ref a_Book__door_row) = true)
    (g__law_dice : PySem.W.nsIn K mainGlobals "_law_dice" = some (some (.ref a__law_dice)))
    (l__law_dice : K.lookup a__law_dice = some ⟨oc__law_dice, od__law_dice, .func (PySem.W.fnOf "_law_dice" "_law_dice" (defArgs s__law_dice) (defBody s__law_dice) (defScope s__law_dice) .none kV__law_dice dc__law_dice pm__law_dice an__law_dice cd__law_dice ct__law_dice), sl__law_dice⟩)
    (cc__law_dice : PySem.W.codeIn K cd__law_dice "_law_dice" = true)
    (k__law_dice : PySem.W.keepIn K (.ref a__law_dice) = true)
    (g__law_next : PySem.W.nsIn K mainGlobals "_law_next" = some (some (.ref a__law_next)))
    (l__law_next : K.lookup a__law_next = some ⟨oc__law_next, od__law_next, .func (PySem.W.fnOf "_law_next" "_law_next" (defArgs s__law_next) (defBody s__law_next) (defScope s__law_next) .none kV__law_next dc__law_next pm__law_next an__law_next cd__law_next ct__law_next), sl__law_next⟩)
    (cc__law_next : PySem.W.codeIn K cd__law_next "_law_next" = true)
    (k__law_next : PySem.W.keepIn K (.ref a__law_next) = true)
    (g__law_window : PySem.W.nsIn K mainGlobals "_law_window" = some (some (.ref a__law_window)))
    (l__law_window : K.lookup a__law_window = some ⟨oc__law_window, od__law_window, .func (PySem.W.fnOf "_law_window" "_law_window" (defArgs s__law_window) (defBody s__law_window) (defScope s__law_window) .none kV__law_window dc__law_window pm__law_window an__law_window cd__law_window ct__law_window), sl__law_window⟩)
    (cc__law_window : PySem.W.codeIn K cd__law_window "_law_window" = true)
    (k__law_window : PySem.W.keepIn K (.ref a__law_window) = true)
    (g__law_fits : PySem.W.nsIn K mainGlobals "_law_fits" = some (some (.ref a__law_fits)))
    (l__law_fits : K.lookup a__law_fits = some ⟨oc__law_fits, od__law_fits, .func (PySem.W.fnOf "_law_fits" "_law_fits" (defArgs s__law_fits) (defBody s__law_fits) (defScope s__law_fits) .none kV__law_fits dc__law_fits pm__law_fits an__law_fits cd__law_fits ct__law_fits), sl__law_fits⟩)
    (cc__law_fits : PySem.W.codeIn K cd__law_fits "_law_fits" = true)
    (k__law_fits : PySem.W.keepIn K (.ref a__law_fits) = true)
    (g__law_turn : PySem.W.nsIn K mainGlobals "_law_turn" = some (some (.ref a__law_turn)))
    (l__law_turn : K.lookup a__law_turn = some ⟨oc__law_turn, od__law_turn, .func (PySem.W.fnOf "_law_turn" "_law_turn" (defArgs s__law_turn) (defBody s__law_turn) (defScope s__law_turn) .none kV__law_turn dc__law_turn pm__law_turn an__law_turn (.ref co__law_turn) ct__law_turn), sl__law_turn⟩)
    (cc__law_turn : PySem.W.codeIn K (.ref co__law_turn) "_law_turn" = true)
    (k__law_turn : PySem.W.keepIn K (.ref a__law_turn) = true)
    (g__law_story : PySem.W.nsIn K mainGlobals "_law_story" = some (some (.ref a__law_story)))
    (l__law_story : K.lookup a__law_story = some ⟨oc__law_story, od__law_story, .func (PySem.W.fnOf "_law_story" "_law_story" (defArgs s__law_story) (defBody s__law_story) (defScope s__law_story) .none kV__law_story dc__law_story pm__law_story an__law_story cd__law_story ct__law_story), sl__law_story⟩)
    (cc__law_story : PySem.W.codeIn K cd__law_story "_law_story" = true)
    (k__law_story : PySem.W.keepIn K (.ref a__law_story) = true)
    (g__law_written : PySem.W.nsIn K mainGlobals "_law_written" = some (some (.ref a__law_written)))
    (l__law_written : K.lookup a__law_written = some ⟨oc__law_written, od__law_written, .func (PySem.W.fnOf "_law_written" "_law_written" (defArgs s__law_written) (defBody s__law_written) (defScope s__law_written) .none kV__law_written dc__law_written pm__law_written an__law_written cd__law_written ct__law_written), sl__law_written⟩)
    (cc__law_written : PySem.W.codeIn K cd__law_written "_law_written" = true)
    (k__law_written : PySem.W.keepIn K (.ref a__law_written) = true)
    (g__law_words : PySem.W.nsIn K mainGlobals "_law_words" = some (some (.ref a__law_words)))
    (l__law_words : K.lookup a__law_words = some ⟨oc__law_words, od__law_words, .func (PySem.W.fnOf "_law_words" "_law_words" (defArgs s__law_words) (defBody s__law_words) (defScope s__law_words) .none kV__law_words dc__law_words pm__law_words an__law_words cd__law_words ct__law_words), sl__law_words⟩)
    (cc__law_words : PySem.W.codeIn K cd__law_words "_law_words" = true)
    (k__law_words : PySem.W.keepIn K (.ref a__law_words) = true)
    (g_law : PySem.W.nsIn K mainGlobals "law" = some (some (.ref a_law)))
    (l_law : K.lookup a_law = some ⟨oc_law, od_law, .func (PySem.W.fnOf "law" "law" (defArgs s_law) (defBody s_law) (defScope s_law) .none kV_law dc_law pm_law an_law cd_law ct_law), sl_law⟩)
    (cc_law : PySem.W.codeIn K cd_law "law" = true)
    (k_law : PySem.W.keepIn K (.ref a_law) = true)
    (g__law_told : PySem.W.nsIn K mainGlobals "_law_told" = some (some (.ref a__law_told)))
    (l__law_told : K.lookup a__law_told = some ⟨oc__law_told, od__law_told, .func (PySem.W.fnOf "_law_told" "_law_told" (defArgs s__law_told) (defBody s__law_told) (defScope s__law_told) .none kV__law_told dc__law_told pm__law_told an__law_told cd__law_told ct__law_told), sl__law_told⟩)
    (cc__law_told : PySem.W.codeIn K cd__law_told "_law_told" = true)
    (k__law_told : PySem.W.keepIn K (.ref a__law_told) = true)
    (g_LAST_KIND : PySem.W.nsIn K mainGlobals "LAST_KIND" = some (some (.int (9) t_LAST_KIND)))
    (g_LAST_MOMENT : PySem.W.nsIn K mainGlobals "LAST_MOMENT" = some (some (.int (999) t_LAST_MOMENT)))
    (g_MAYBE : PySem.W.nsIn K mainGlobals "MAYBE" = some (some (.str "maybe" t_MAYBE)))
    (g_MOST_DOORS : PySem.W.nsIn K mainGlobals "MOST_DOORS" = some (some (.int (4) t_MOST_DOORS)))
    (g_MOST_ENTRIES : PySem.W.nsIn K mainGlobals "MOST_ENTRIES" = some (some (.int (8) t_MOST_ENTRIES)))
    (g_MOST_KEYS : PySem.W.nsIn K mainGlobals "MOST_KEYS" = some (some (.int (6) t_MOST_KEYS)))
    (g_MOST_PERSONS : PySem.W.nsIn K mainGlobals "MOST_PERSONS" = some (some (.int (8) t_MOST_PERSONS)))
    (g_NOT : PySem.W.nsIn K mainGlobals "NOT" = some (some (.str "no" t_NOT)))
    (g_NOTHING_YET : PySem.W.nsIn K mainGlobals "NOTHING_YET" = some (some (.int (-1) t_NOTHING_YET)))
    (g_SURELY : PySem.W.nsIn K mainGlobals "SURELY" = some (some (.str "surely" t_SURELY)))
    (n_ValueError : PySem.W.nsIn K mainGlobals "ValueError" = some none)
    (n_enumerate : PySem.W.nsIn K mainGlobals "enumerate" = some none)
    (n_int : PySem.W.nsIn K mainGlobals "int" = some none)
    (n_isinstance : PySem.W.nsIn K mainGlobals "isinstance" = some none)
    (n_len : PySem.W.nsIn K mainGlobals "len" = some none)
    (n_list : PySem.W.nsIn K mainGlobals "list" = some none)
    (n_max : PySem.W.nsIn K mainGlobals "max" = some none)
    (n_min : PySem.W.nsIn K mainGlobals "min" = some none)
    (n_range : PySem.W.nsIn K mainGlobals "range" = some none)
    (n_reversed : PySem.W.nsIn K mainGlobals "reversed" = some none)
    (n_set : PySem.W.nsIn K mainGlobals "set" = some none)
    (n_sorted : PySem.W.nsIn K mainGlobals "sorted" = some none)
    (n_str : PySem.W.nsIn K mainGlobals "str" = some none)
    (n_tuple : PySem.W.nsIn K mainGlobals "tuple" = some none)
    (n_zip : PySem.W.nsIn K mainGlobals "zip" = some none) : ∃ T : Tx K mg, mg "law" = some (.ref T.a_law) := by
  have F_BadTimes_init := fun_mk (st := s_BadTimes_init) l_BadTimes_init cc_BadTimes_init k_BadTimes_init
  have b_BadTimes_init := F_BadTimes_init.binds (ps := ["self", "place"]) fun _ _ _ _ _ _ us hl => match us, hl with | [_, _], _ => rfl
  have F_check_moment := fun_mk (st := s_check_moment) l_check_moment cc_check_moment k_check_moment
  have b_check_moment := F_check_moment.binds (ps := ["moment"]) fun _ _ _ _ _ _ us hl => match us, hl with | [_], _ => rfl
  have F_check_place := fun_mk (st := s_check_place) l_check_place cc_check_place k_check_place
  have b_check_place := F_check_place.binds (ps := ["row", "place"]) fun _ _ _ _ _ _ us hl => match us, hl with | [_, _], _ => rfl
  have F_soonest := fun_mk (st := s_soonest) l_soonest cc_soonest k_soonest
  have b_soonest := F_soonest.binds (ps := ["row"]) fun _ _ _ _ _ _ us hl => match us, hl with | [_], _ => rfl
  have F_latest := fun_mk (st := s_latest) l_latest cc_latest k_latest
  have b_latest := F_latest.binds (ps := ["row"]) fun _ _ _ _ _ _ us hl => match us, hl with | [_], _ => rfl
  have F_first_stuck := fun_mk (st := s_first_stuck) l_first_stuck cc_first_stuck k_first_stuck
  have b_first_stuck := F_first_stuck.binds (ps := ["row"]) fun _ _ _ _ _ _ us hl => match us, hl with | [_], _ => rfl
  have F_row_with := fun_mk (st := s_row_with) l_row_with cc_row_with k_row_with
  have b_row_with := F_row_with.binds (ps := ["row", "place", "entry"]) fun _ _ _ _ _ _ us hl => match us, hl with | [_, _, _], _ => rfl
  have F_spans := fun_mk (st := s_spans) l_spans cc_spans k_spans
  have b_spans := F_spans.binds (ps := ["row"]) fun _ _ _ _ _ _ us hl => match us, hl with | [_], _ => rfl
  have F_standing := fun_mk (st := s_standing) l_standing cc_standing k_standing
  have b_standing := F_standing.binds (ps := ["row", "moment"]) fun _ _ _ _ _ _ us hl => match us, hl with | [_, _], _ => rfl
  have F_moments_by := fun_mk (st := s_moments_by) l_moments_by cc_moments_by k_moments_by
  have b_moments_by := F_moments_by.binds (ps := ["row", "place"]) fun _ _ _ _ _ _ us hl => match us, hl with | [_, _], _ => rfl
  have F_in_force := fun_mk (st := s_in_force) l_in_force cc_in_force k_in_force
  have b_in_force := F_in_force.binds (ps := ["row", "place"]) fun _ _ _ _ _ _ us hl => match us, hl with | [_, _], _ => rfl
  have F_told := fun_mk (st := s_told) l_told cc_told k_told
  have b_told := F_told.binds (ps := ["row", "moment"]) fun _ _ _ _ _ _ us hl => match us, hl with | [_, _], _ => rfl
  have F_place_had := fun_mk (st := s_place_had) l_place_had cc_place_had k_place_had
  have b_place_had := F_place_had.binds (ps := ["row", "person", "plain", "moment"]) fun _ _ _ _ _ _ us hl => match us, hl with | [_, _, _, _], _ => rfl
  have F_place_opened := fun_mk (st := s_place_opened) l_place_opened cc_place_opened k_place_opened
  have b_place_opened := F_place_opened.binds (ps := ["fitted", "opens", "moment"]) fun _ _ _ _ _ _ us hl => match us, hl with | [_, _, _], _ => rfl
  have F_shown := fun_mk (st := s_shown) l_shown cc_shown k_shown
  have b_shown := F_shown.binds (ps := ["book", "person", "door", "moment"]) fun _ _ _ _ _ _ us hl => match us, hl with | [_, _, _, _], _ => rfl
  have F_moments_without := fun_mk (st := s_moments_without) l_moments_without cc_moments_without k_moments_without
  have b_moments_without := F_moments_without.binds (ps := ["row", "person", "moment"]) fun _ _ _ _ _ _ us hl => match us, hl with | [_, _, _], _ => rfl
  have F_moments_against := fun_mk (st := s_moments_against) l_moments_against cc_moments_against k_moments_against
  have b_moments_against := F_moments_against.binds (ps := ["book", "person", "kind", "moment"]) fun _ _ _ _ _ _ us hl => match us, hl with | [_, _, _, _], _ => rfl
  have F_denied := fun_mk (st := s_denied) l_denied cc_denied k_denied
  have b_denied := F_denied.binds (ps := ["book", "person", "door", "moment"]) fun _ _ _ _ _ _ us hl => match us, hl with | [_, _, _, _], _ => rfl
  have F_could := fun_mk (st := s_could) l_could cc_could k_could
  have b_could := F_could.binds (ps := ["book", "person", "door", "moment"]) fun _ _ _ _ _ _ us hl => match us, hl with | [_, _, _, _], _ => rfl
  have F_openers := fun_mk (st := s_openers) l_openers cc_openers k_openers
  have b_openers := F_openers.binds (ps := ["book", "door", "moment"]) fun _ _ _ _ _ _ us hl => match us, hl with | [_, _, _], _ => rfl
  have F_are_kinds := fun_mk (st := s_are_kinds) l_are_kinds cc_are_kinds k_are_kinds
  have b_are_kinds := F_are_kinds.binds (ps := ["opens"]) fun _ _ _ _ _ _ us hl => match us, hl with | [_], _ => rfl
  have F_Book_init := fun_mk (st := s_Book_init) l_Book_init cc_Book_init k_Book_init
  have b_Book_init := F_Book_init.binds (ps := ["self", "persons", "doors"]) fun _ _ _ _ _ _ us hl => match us, hl with | [_, _, _], _ => rfl
  have F_Book_cut := fun_mk (st := s_Book_cut) l_Book_cut cc_Book_cut k_Book_cut
  have b_Book_cut := F_Book_cut.binds (ps := ["self", "opens", "plain"]) fun _ _ _ _ _ _ us hl => match us, hl with | [_, _, _], _ => rfl
  have F_Book_hand := fun_mk (st := s_Book_hand) l_Book_hand cc_Book_hand k_Book_hand
  have b_Book_hand := F_Book_hand.binds (ps := ["self", "name", "place", "person", "early", "late"]) fun _ _ _ _ _ _ us hl => match us, hl with | [_, _, _, _, _, _], _ => rfl
  have F_Book_fit := fun_mk (st := s_Book_fit) l_Book_fit cc_Book_fit k_Book_fit
  have b_Book_fit := F_Book_fit.binds (ps := ["self", "door", "place", "kind", "early", "late"]) fun _ _ _ _ _ _ us hl => match us, hl with | [_, _, _, _, _, _], _ => rfl
  have F_Book_entries := fun_mk (st := s_Book_entries) l_Book_entries cc_Book_entries k_Book_entries
  have b_Book_entries := F_Book_entries.binds (ps := ["self", "name"]) fun _ _ _ _ _ _ us hl => match us, hl with | [_, _], _ => rfl
  have F_Book_fitted := fun_mk (st := s_Book_fitted) l_Book_fitted cc_Book_fitted k_Book_fitted
  have b_Book_fitted := F_Book_fitted.binds (ps := ["self", "door"]) fun _ _ _ _ _ _ us hl => match us, hl with | [_, _], _ => rfl
  have F_Book_holders := fun_mk (st := s_Book_holders) l_Book_holders cc_Book_holders k_Book_holders
  have b_Book_holders := F_Book_holders.binds (ps := ["self", "name", "moment"]) fun _ _ _ _ _ _ us hl => match us, hl with | [_, _, _], _ => rfl
  have F_Book_locks := fun_mk (st := s_Book_locks) l_Book_locks cc_Book_locks k_Book_locks
  have b_Book_locks := F_Book_locks.binds (ps := ["self", "door", "moment"]) fun _ _ _ _ _ _ us hl => match us, hl with | [_, _, _], _ => rfl
  have F_Book_everybody := fun_mk (st := s_Book_everybody) l_Book_everybody cc_Book_everybody k_Book_everybody
  have b_Book_everybody := F_Book_everybody.binds (ps := ["self"]) fun _ _ _ _ _ _ us hl => match us, hl with | [_], _ => rfl
  have F_Book_cuts := fun_mk (st := s_Book_cuts) l_Book_cuts cc_Book_cuts k_Book_cuts
  have b_Book_cuts := F_Book_cuts.binds (ps := ["self"]) fun _ _ _ _ _ _ us hl => match us, hl with | [_], _ => rfl
  have F_Book_check_person := fun_mk (st := s_Book_check_person) l_Book_check_person cc_Book_check_person k_Book_check_person
  have b_Book_check_person := F_Book_check_person.binds (ps := ["self", "person"]) fun _ _ _ _ _ _ us hl => match us, hl with | [_, _], _ => rfl
  have F_Book__key_row := fun_mk (st := s_Book__key_row) l_Book__key_row cc_Book__key_row k_Book__key_row
  have b_Book__key_row := F_Book__key_row.binds (ps := ["self", "name"]) fun _ _ _ _ _ _ us hl => match us, hl with | [_, _], _ => rfl
  have F_Book__door_row := fun_mk (st := s_Book__door_row) l_Book__door_row cc_Book__door_row k_Book__door_row
  have b_Book__door_row := F_Book__door_row.binds (ps := ["self", "door"]) fun _ _ _ _ _ _ us hl => match us, hl with | [_, _], _ => rfl
  have F__law_dice := fun_mk (st := s__law_dice) l__law_dice cc__law_dice k__law_dice
  have b__law_dice := F__law_dice.binds (ps := ["_law_script"]) fun _ _ _ _ _ _ us hl => match us, hl with | [_], _ => rfl
  have F__law_next := fun_mk (st := s__law_next) l__law_next cc__law_next k__law_next
  have b__law_next := F__law_next.binds (ps := ["_law_dice_here", "_law_many"]) fun _ _ _ _ _ _ us hl => match us, hl with | [_, _], _ => rfl
  have F__law_window := fun_mk (st := s__law_window) l__law_window cc__law_window k__law_window
  have b__law_window := F__law_window.binds (ps := ["_law_d", "_law_far"]) fun _ _ _ _ _ _ us hl => match us, hl with | [_, _], _ => rfl
  have F__law_fits := fun_mk (st := s__law_fits) l__law_fits cc__law_fits k__law_fits
  have b__law_fits := F__law_fits.binds (ps := ["_law_rows"]) fun _ _ _ _ _ _ us hl => match us, hl with | [_], _ => rfl
  have F__law_turn := fun_mk (st := s__law_turn) l__law_turn cc__law_turn k__law_turn
  have b__law_turn := F__law_turn.binds (ps := ["_law_d", "_law_book", "_law_case"]) fun _ _ _ _ _ _ us hl => match us, hl with | [_, _, _], _ => rfl
  have F__law_story := fun_mk (st := s__law_story) l__law_story cc__law_story k__law_story
  have b__law_story := F__law_story.binds (ps := ["_law_d", "_law_most"]) fun _ _ _ _ _ _ us hl => match us, hl with | [_, _], _ => rfl
  have F__law_written := fun_mk (st := s__law_written) l__law_written cc__law_written k__law_written
  have b__law_written := F__law_written.binds (ps := ["_law_case"]) fun _ _ _ _ _ _ us hl => match us, hl with | [_], _ => rfl
  have F__law_words := fun_mk (st := s__law_words) l__law_words cc__law_words k__law_words
  have b__law_words := F__law_words.binds (ps := ["_law_book", "_law_case", "_law_moment"]) fun _ _ _ _ _ _ us hl => match us, hl with | [_, _, _], _ => rfl
  have F_law := fun_mk (st := s_law) l_law cc_law k_law
  have b_law := F_law.binds (ps := ["_law_script"]) fun _ _ _ _ _ _ us hl => match us, hl with | [_], _ => rfl
  have F__law_told := fun_mk (st := s__law_told) l__law_told cc__law_told k__law_told
  have b__law_told := F__law_told.binds (ps := ["_law_work"]) fun _ _ _ _ _ _ us hl => match us, hl with | [_], _ => rfl
  exact ⟨{ C_Book := C_Book, cl_Book := ⟨pg_Book, hd_Book, po_Book, sa_Book⟩, c_Book := PySem.W.mg_of X G c_Book, na_Book__cuts := na_Book__cuts, na_Book__door_rows := na_Book__door_rows, na_Book__key_rows := na_Book__key_rows, na_Book__persons := na_Book__persons, C_BadBook := C_BadBook, c_BadBook := PySem.W.mg_of X G c_BadBook, C_BadKey := C_BadKey, c_BadKey := PySem.W.mg_of X G c_BadKey, C_BadPlace := C_BadPlace, c_BadPlace := PySem.W.mg_of X G c_BadPlace, C_BadTimes := C_BadTimes, c_BadTimes := PySem.W.mg_of X G c_BadTimes, C_KeyrollError := C_KeyrollError, c_KeyrollError := PySem.W.mg_of X G c_KeyrollError, C_NoMoment := C_NoMoment, c_NoMoment := PySem.W.mg_of X G c_NoMoment, C_NoOne := C_NoOne, c_NoOne := PySem.W.mg_of X G c_NoOne, mc_KeyrollError := mc_KeyrollError, sp_KeyrollError := sp_KeyrollError, rd_KeyrollError := rd_KeyrollError, vi_KeyrollError := vi_KeyrollError, kt_BadPlace_BadBook := kt_BadPlace_BadBook, kt_BadPlace_BadKey := kt_BadPlace_BadKey, kt_BadPlace_NoOne := kt_BadPlace_NoOne, kt_BadPlace_BadPlace := kt_BadPlace_BadPlace, kt_BadPlace_BadTimes := kt_BadPlace_BadTimes, kt_BadPlace_NoMoment := kt_BadPlace_NoMoment, kc_BadPlace := kc_BadPlace, sb_BadPlace := sb_BadPlace, ty_BadPlace := ty_BadPlace, kv_BadPlace := kv_BadPlace, te_BadPlace := PySem.W.exm_ref sb_KeyrollError hd_KeyrollError tb_KeyrollError su_BadPlace, ec_BadPlace := ⟨ga_BadPlace, gg_BadPlace, sb_BadPlace, hd_BadPlace, oc_BadPlace, og, ot, mo_BadPlace⟩, ne_BadPlace := kit_ne kt_BadPlace_BadTimes kt_BadTimes_BadTimes, x_BadPlace := x_BadPlace, kt_BadTimes_BadBook := kt_BadTimes_BadBook, kt_BadTimes_BadKey := kt_BadTimes_BadKey, kt_BadTimes_NoOne := kt_BadTimes_NoOne, kt_BadTimes_BadPlace := kt_BadTimes_BadPlace, kt_BadTimes_BadTimes := kt_BadTimes_BadTimes, kt_BadTimes_NoMoment := kt_BadTimes_NoMoment, kc_BadTimes := kc_BadTimes, sb_BadTimes := sb_BadTimes, ty_BadTimes := ty_BadTimes, kv_BadTimes := kv_BadTimes, te_BadTimes := PySem.W.exm_ref sb_KeyrollError hd_KeyrollError tb_KeyrollError su_BadTimes, ec_BadTimes := ⟨ga_BadTimes, gg_BadTimes, sb_BadTimes, hd_BadTimes, oc_BadTimes, og, ot, mo_BadTimes⟩, ne_BadTimes := kit_ne kt_BadTimes_BadPlace kt_BadPlace_BadPlace, o_BadTimes := ⟨⟨_, _, _, _, _, _, _, _, _, _, _, _, _, _, _, lk_BadTimes, rv_BadTimes⟩, sa_BadTimes, sb_BadTimes, ty_BadTimes, kc_BadTimes⟩, i_BadTimes := i_BadTimes, ti_BadTimes := ti_BadTimes, nf_BadTimes := nf_BadTimes, xf_BadTimes := ⟨ga_BadTimes, gg_BadTimes, sb_BadTimes, hd_BadTimes⟩, co__law_turn := co__law_turn, tp__law_turn := tp__law_turn, tb__law_turn := tb__law_turn, nt__law_turn := nt__law_turn, hc__law_turn := rfl, a_BadTimes_init := a_BadTimes_init, f_BadTimes_init := _, F_BadTimes_init := F_BadTimes_init, b_BadTimes_init := b_BadTimes_init, a_check_moment := a_check_moment, f_check_moment := _, F_check_moment := F_check_moment, b_check_moment := b_check_moment, g_check_moment := PySem.W.mg_of X G g_check_moment, k_check_moment := k_check_moment, a_check_place := a_check_place, f_check_place := _, F_check_place := F_check_place, b_check_place := b_check_place, g_check_place := PySem.W.mg_of X G g_check_place, k_check_place := k_check_place, a_soonest := a_soonest, f_soonest := _, F_soonest := F_soonest, b_soonest := b_soonest, g_soonest := PySem.W.mg_of X G g_soonest, k_soonest := k_soonest, a_latest := a_latest, f_latest := _, F_latest := F_latest, b_latest := b_latest, g_latest := PySem.W.mg_of X G g_latest, k_latest := k_latest, a_first_stuck := a_first_stuck, f_first_stuck := _, F_first_stuck := F_first_stuck, b_first_stuck := b_first_stuck, g_first_stuck := PySem.W.mg_of X G g_first_stuck, k_first_stuck := k_first_stuck, a_row_with := a_row_with, f_row_with := _, F_row_with := F_row_with, b_row_with := b_row_with, g_row_with := PySem.W.mg_of X G g_row_with, k_row_with := k_row_with, a_spans := a_spans, f_spans := _, F_spans := F_spans, b_spans := b_spans, g_spans := PySem.W.mg_of X G g_spans, k_spans := k_spans, a_standing := a_standing, f_standing := _, F_standing := F_standing, b_standing := b_standing, g_standing := PySem.W.mg_of X G g_standing, k_standing := k_standing, a_moments_by := a_moments_by, f_moments_by := _, F_moments_by := F_moments_by, b_moments_by := b_moments_by, g_moments_by := PySem.W.mg_of X G g_moments_by, k_moments_by := k_moments_by, a_in_force := a_in_force, f_in_force := _, F_in_force := F_in_force, b_in_force := b_in_force, g_in_force := PySem.W.mg_of X G g_in_force, k_in_force := k_in_force, a_told := a_told, f_told := _, F_told := F_told, b_told := b_told, g_told := PySem.W.mg_of X G g_told, k_told := k_told, a_place_had := a_place_had, f_place_had := _, F_place_had := F_place_had, b_place_had := b_place_had, g_place_had := PySem.W.mg_of X G g_place_had, k_place_had := k_place_had, a_place_opened := a_place_opened, f_place_opened := _, F_place_opened := F_place_opened, b_place_opened := b_place_opened, g_place_opened := PySem.W.mg_of X G g_place_opened, k_place_opened := k_place_opened, a_shown := a_shown, f_shown := _, F_shown := F_shown, b_shown := b_shown, g_shown := PySem.W.mg_of X G g_shown, k_shown := k_shown, a_moments_without := a_moments_without, f_moments_without := _, F_moments_without := F_moments_without, b_moments_without := b_moments_without, g_moments_without := PySem.W.mg_of X G g_moments_without, k_moments_without := k_moments_without, a_moments_against := a_moments_against, f_moments_against := _, F_moments_against := F_moments_against, b_moments_against := b_moments_against, g_moments_against := PySem.W.mg_of X G g_moments_against, k_moments_against := k_moments_against, a_denied := a_denied, f_denied := _, F_denied := F_denied, b_denied := b_denied, g_denied := PySem.W.mg_of X G g_denied, k_denied := k_denied, a_could := a_could, f_could := _, F_could := F_could, b_could := b_could, g_could := PySem.W.mg_of X G g_could, k_could := k_could, a_openers := a_openers, f_openers := _, F_openers := F_openers, b_openers := b_openers, g_openers := PySem.W.mg_of X G g_openers, k_openers := k_openers, a_are_kinds := a_are_kinds, f_are_kinds := _, F_are_kinds := F_are_kinds, b_are_kinds := b_are_kinds, g_are_kinds := PySem.W.mg_of X G g_are_kinds, k_are_kinds := k_are_kinds, a_Book_init := a_Book_init, f_Book_init := _, F_Book_init := F_Book_init, b_Book_init := b_Book_init, mk_Book := ⟨mk_Book, m_Book_init, i_Book_init, kc_Book⟩, a_Book_cut := a_Book_cut, f_Book_cut := _, F_Book_cut := F_Book_cut, b_Book_cut := b_Book_cut, m_Book_cut := ⟨m_Book_cut, i_Book_cut, k_Book_cut⟩, a_Book_hand := a_Book_hand, f_Book_hand := _, F_Book_hand := F_Book_hand, b_Book_hand := b_Book_hand, m_Book_hand := ⟨m_Book_hand, i_Book_hand, k_Book_hand⟩, a_Book_fit := a_Book_fit, f_Book_fit := _, F_Book_fit := F_Book_fit, b_Book_fit := b_Book_fit, m_Book_fit := ⟨m_Book_fit, i_Book_fit, k_Book_fit⟩, a_Book_entries := a_Book_entries, f_Book_entries := _, F_Book_entries := F_Book_entries, b_Book_entries := b_Book_entries, m_Book_entries := ⟨m_Book_entries, i_Book_entries, k_Book_entries⟩, a_Book_fitted := a_Book_fitted, f_Book_fitted := _, F_Book_fitted := F_Book_fitted, b_Book_fitted := b_Book_fitted, m_Book_fitted := ⟨m_Book_fitted, i_Book_fitted, k_Book_fitted⟩, a_Book_holders := a_Book_holders, f_Book_holders := _, F_Book_holders := F_Book_holders, b_Book_holders := b_Book_holders, m_Book_holders := ⟨m_Book_holders, i_Book_holders, k_Book_holders⟩, a_Book_locks := a_Book_locks, f_Book_locks := _, F_Book_locks := F_Book_locks, b_Book_locks := b_Book_locks, m_Book_locks := ⟨m_Book_locks, i_Book_locks, k_Book_locks⟩, a_Book_everybody := a_Book_everybody, f_Book_everybody := _, F_Book_everybody := F_Book_everybody, b_Book_everybody := b_Book_everybody, m_Book_everybody := ⟨m_Book_everybody, i_Book_everybody, k_Book_everybody⟩, a_Book_cuts := a_Book_cuts, f_Book_cuts := _, F_Book_cuts := F_Book_cuts, b_Book_cuts := b_Book_cuts, m_Book_cuts := ⟨m_Book_cuts, i_Book_cuts, k_Book_cuts⟩, a_Book_check_person := a_Book_check_person, f_Book_check_person := _, F_Book_check_person := F_Book_check_person, b_Book_check_person := b_Book_check_person, m_Book_check_person := ⟨m_Book_check_person, i_Book_check_person, k_Book_check_person⟩, a_Book__key_row := a_Book__key_row, f_Book__key_row := _, F_Book__key_row := F_Book__key_row, b_Book__key_row := b_Book__key_row, m_Book__key_row := ⟨m_Book__key_row, i_Book__key_row, k_Book__key_row⟩, a_Book__door_row := a_Book__door_row, f_Book__door_row := _, F_Book__door_row := F_Book__door_row, b_Book__door_row := b_Book__door_row, m_Book__door_row := ⟨m_Book__door_row, i_Book__door_row, k_Book__door_row⟩, a__law_dice := a__law_dice, f__law_dice := _, F__law_dice := F__law_dice, b__law_dice := b__law_dice, g__law_dice := PySem.W.mg_of X G g__law_dice, k__law_dice := k__law_dice, a__law_next := a__law_next, f__law_next := _, F__law_next := F__law_next, b__law_next := b__law_next, g__law_next := PySem.W.mg_of X G g__law_next, k__law_next := k__law_next, a__law_window := a__law_window, f__law_window := _, F__law_window := F__law_window, b__law_window := b__law_window, g__law_window := PySem.W.mg_of X G g__law_window, k__law_window := k__law_window, a__law_fits := a__law_fits, f__law_fits := _, F__law_fits := F__law_fits, b__law_fits := b__law_fits, g__law_fits := PySem.W.mg_of X G g__law_fits, k__law_fits := k__law_fits, a__law_turn := a__law_turn, f__law_turn := _, F__law_turn := F__law_turn, b__law_turn := b__law_turn, g__law_turn := PySem.W.mg_of X G g__law_turn, k__law_turn := k__law_turn, a__law_story := a__law_story, f__law_story := _, F__law_story := F__law_story, b__law_story := b__law_story, g__law_story := PySem.W.mg_of X G g__law_story, k__law_story := k__law_story, a__law_written := a__law_written, f__law_written := _, F__law_written := F__law_written, b__law_written := b__law_written, g__law_written := PySem.W.mg_of X G g__law_written, k__law_written := k__law_written, a__law_words := a__law_words, f__law_words := _, F__law_words := F__law_words, b__law_words := b__law_words, g__law_words := PySem.W.mg_of X G g__law_words, k__law_words := k__law_words, a_law := a_law, f_law := _, F_law := F_law, b_law := b_law, g_law := PySem.W.mg_of X G g_law, k_law := k_law, a__law_told := a__law_told, f__law_told := _, F__law_told := F__law_told, b__law_told := b__law_told, g__law_told := PySem.W.mg_of X G g__law_told, k__law_told := k__law_told, t_LAST_KIND := t_LAST_KIND, g_LAST_KIND := PySem.W.mg_of X G g_LAST_KIND, t_LAST_MOMENT := t_LAST_MOMENT, g_LAST_MOMENT := PySem.W.mg_of X G g_LAST_MOMENT, t_MAYBE := t_MAYBE, g_MAYBE := PySem.W.mg_of X G g_MAYBE, t_MOST_DOORS := t_MOST_DOORS, g_MOST_DOORS := PySem.W.mg_of X G g_MOST_DOORS, t_MOST_ENTRIES := t_MOST_ENTRIES, g_MOST_ENTRIES := PySem.W.mg_of X G g_MOST_ENTRIES, t_MOST_KEYS := t_MOST_KEYS, g_MOST_KEYS := PySem.W.mg_of X G g_MOST_KEYS, t_MOST_PERSONS := t_MOST_PERSONS, g_MOST_PERSONS := PySem.W.mg_of X G g_MOST_PERSONS, t_NOT := t_NOT, g_NOT := PySem.W.mg_of X G g_NOT, t_NOTHING_YET := t_NOTHING_YET, g_NOTHING_YET := PySem.W.mg_of X G g_NOTHING_YET, t_SURELY := t_SURELY, g_SURELY := PySem.W.mg_of X G g_SURELY, n_ValueError := PySem.W.mg_none_of X G n_ValueError, n_enumerate := PySem.W.mg_none_of X G n_enumerate, n_int := PySem.W.mg_none_of X G n_int, n_isinstance := PySem.W.mg_none_of X G n_isinstance, n_len := PySem.W.mg_none_of X G n_len, n_list := PySem.W.mg_none_of X G n_list, n_max := PySem.W.mg_none_of X G n_max, n_min := PySem.W.mg_none_of X G n_min, n_range := PySem.W.mg_none_of X G n_range, n_reversed := PySem.W.mg_none_of X G n_reversed, n_set := PySem.W.mg_none_of X G n_set, n_sorted := PySem.W.mg_none_of X G n_sorted, n_str := PySem.W.mg_none_of X G n_str, n_tuple := PySem.W.mg_none_of X G n_tuple, n_zip := PySem.W.mg_none_of X G n_zip }, PySem.W.mg_of X G g_law⟩


local macro_rules | `(tactic| walk_at "get") => `(tactic| first
  | assumption | exact app_get | exact List.getElem?_set_self (by first | assumption | omega | (simp; done) | (simp only [List.length_set, List.length_append, List.length_cons, List.length_nil] at *; omega)))
local macro_rules | `(tactic| walk_at "ve") => `(tactic| first
  | ((with_reducible refine' we_var ?h ?_); (case h => exact rfl))
  | with_reducible refine we_int ?_ | with_reducible refine we_bl ?_ | with_reducible refine we_non ?_ | with_reducible refine we_str ?_ | with_reducible refine we_raw ?_
  | with_reducible refine wa_nil ?_ | with_reducible refine wo_none ?_ | with_reducible refine wt_yes ?_ | with_reducible refine wg_name ?_ | with_reducible refine wgs_nil ?_)
local macro_rules | `(tactic| walk_at "vs") => `(tactic| first | with_reducible refine ws_next ?_ | with_reducible refine ws_cont ?_ | with_reducible refine ws_brk ?_ | with_reducible refine ws_retN ?_)
local macro_rules | `(tactic| walk_at "v") => `(tactic| first | walk_at "ve" | walk_at "vs")
local macro_rules | `(tactic| walk_at "ce") => `(tactic| first
  | with_reducible refine we_op ?_ | with_reducible refine we_cb ?_ | with_reducible refine we_un ?_ | with_reducible refine wa_cons ?_ | with_reducible refine we_tup ?_ | with_reducible refine we_if ?_ | with_reducible refine we_sl ?_ | with_reducible refine wo_some ?_ | with_reducible refine we_call ?_ | with_reducible refine wgs_cons ?_
  | with_reducible refine we_chain ?_ | with_reducible refine wt_test ?_ | with_reducible refine wt_B ?_ | with_reducible refine wt_not ?_ | with_reducible refine wt_and ?_ | with_reducible refine wt_or ?_ | with_reducible refine wt_tru ?_ | with_reducible refine we_andV ?_ | with_reducible refine we_orV ?_ | with_reducible refine we_notV ?_
  | with_reducible refine we_isN ?_ | with_reducible refine we_notN ?_ | with_reducible refine wg_setL ?_ | with_reducible refine we_bm ?_ | with_reducible refine we_bm0 ?_)
local macro_rules | `(tactic| walk_at "cs") => `(tactic| first | with_reducible refine ws_seq ?_ | with_reducible refine ws_asg ?_ | with_reducible refine ws_ret ?_ | with_reducible refine ws_drop ?_ | with_reducible refine ws_if ?_ | with_reducible refine ws_par ?_)
local macro_rules | `(tactic| walk_at "c") => `(tactic| first | walk_at "ce" | walk_at "cs")
local macro_rules | `(tactic| walk_at "r") => `(tactic| first
  | with_reducible refine wr_int ?_ | with_reducible refine wr_cmp ?_ | with_reducible refine wu_int (fun _ _ => .int _) ?_ | with_reducible refine wc_max2 ?_ | with_reducible refine wc_min2 ?_ | with_reducible refine wc_intB ?_ | with_reducible refine wc_intI ?_
  | ((with_reducible refine' wr_eq ?h1 ?h2 ?h3 ?_); (case h1 => exact rfl); (case h2 => exact rfl); (case h3 => exact rfl)) | ((with_reducible refine' wr_ne ?h1 ?h2 ?h3 ?_); (case h1 => exact rfl); (case h2 => exact rfl); (case h3 => exact rfl))
  | ((with_reducible refine' wr_ix ?h1 ?h2 ?_); (case h1 => exact rfl); (case h2 => exact rfl)) | ((with_reducible refine' wr_ix ?h1 ?h2 ?_); (case h1 => exact lstAt_of (by walk_at "get")); (case h2 => exact rfl))
  | ((with_reducible refine' wc_lenK ?h1 ?_); (case h1 => exact rfl)) | ((with_reducible refine' wc_lenK ?h1 ?_); (case h1 => exact lstAt_of (by walk_at "get")))
  | ((with_reducible refine' wc_isi (b := true) ?h1 ?h2 ?_); (case h1 => exact rfl); (case h2 => decide +kernel)) | ((with_reducible refine' wc_isi (b := false) ?h1 ?h2 ?_); (case h1 => exact rfl); (case h2 => decide +kernel))
  | with_reducible refine pick_t ?_ | with_reducible refine pick_f ?_ | with_reducible refine pick_nf ?_ | with_reducible refine pick_nt ?_ | ((with_reducible refine' pick_iF ?h1 ?_); (case h1 => exact rfl)) | ((with_reducible refine' pick_iT ?h1 ?_); (case h1 => exact rfl)) | with_reducible refine pick_ne ?_ | with_reducible refine pick_eq ?_
  | ((with_reducible refine wr_intC ?_); refine ⟨by first | assumption | exact ⟨by assumption, by assumption⟩ | decide | exact Or.inr ⟨by decide, by decide⟩ | exact ⟨by decide, by decide⟩ | exact ⟨by decide, by decide, by decide⟩, ?_⟩)
  | (refine ⟨_, _, _, _, rfl, rfl, (by walk_at "get"), rfl, ?_⟩; try rw [List.set_set])
  | (refine ⟨(by first | decide | (simp only [List.length_cons, List.length_nil]; omega)), ?_⟩)
  | (refine ⟨ty_list (by first | rfl | exact lstAt_of (by walk_at "get")), ?_⟩)
  | (refine ⟨_, rfl, ?_⟩))
local macro_rules | `(tactic| walk_at "go") => `(tactic| repeat (first | walk_at "v" | walk_at "c" | walk_at "r"))
local macro_rules | `(tactic| walk_at "f") => `(tactic| first
  | (with_reducible refine we_meth ?_) | (with_reducible refine we_fld ?_)
  | (refine ⟨_, _, rfl, by decide, ?_⟩)
  | (refine ⟨_, _, _, _, rfl, T.cl_Book, (by first | exact T.na_Book__persons | exact T.na_Book__cuts | exact T.na_Book__key_rows | exact T.na_Book__door_rows), rfl, ?_⟩))
local macro_rules | `(tactic| walk_at "k") => `(tactic| fail)
local macro_rules | `(tactic| walk_at "all") => `(tactic| repeat (first | walk_at "v" | walk_at "c" | walk_at "r" | walk_at "f" | walk_at "k"))
local macro_rules | `(tactic| walk_at "ex") => `(tactic| repeat (first | walk_at "ve" | walk_at "ce" | walk_at "r" | walk_at "f" | walk_at "k"))
section
variable {P : Program} {w : World} {K : PySem.W.Frag} {mg : Str → Option Value} {base : Heap}
def Fnext : FSp where
  ar := 2
  G := Nat × Int
  pre := fun g ds m => ds = [.hd g.1, .int g.2] ∧ m[g.1]? = some .dice ∧ 0 < g.2 ∧ g.2 < 1073741824
  post := fun g m d m' => ∃ r, d = .int r ∧ 0 ≤ r ∧ r < g.2 ∧ m' = m
theorem next_end {m : Store} {k : Nat} {n r : Int} (hm : m[k]? = some .dice) (h0 : 0 ≤ r) (h1 : r < n) (wf : Wf m) {ds : List D} (hd : DiceD ds) : Shut k (Fin Fnext (k, n) m) (.int r) (m.set k (.lst ds)) := by
  have hk := (List.getElem?_eq_some_iff.mp hm).1
  refine ⟨ds, List.getElem?_set_self hk, hd, .inl ⟨m, [], ?_, Nat.le_refl _, wf, rfl, r, rfl, h0, h1, rfl⟩⟩
  rw [List.set_set, List.append_nil]
  apply List.ext_getElem?
  intro j
  by_cases hj : j = k
  · subst hj
    rw [List.getElem?_set_self hk, hm]
  · rw [List.getElem?_set_ne (fun z => hj z.symm)]
theorem ok_next (T : Tx K mg) : FnOk P w K mg base CX0 1 T.a__law_next T.f__law_next ["_law_dice_here", "_law_many"] (spD K Fnext) := by
  refine ok0 T.F__law_next sc__law_next rfl (fun _ _ _ _ _ h => h) (fun cdv A outer s H E hr => ⟨_, pss_cons (ps_if (pt_cmpR op_gt (pe_ix (ix_seqK (K := K)) (pv 0) (pe_int) (fun _ _ => rfl)) (pe_int) (nomark _)) (pss_cons (ps_asg (pe_op op_mod (pe_ix (ix_seqK (K := K)) (pv 0) (pe_int) (fun _ _ => rfl)) (pv 1)) (pg_name (i := 2) sc__law_next.nd rfl (by first | exact Or.inl rfl | exact Or.inr rfl))) (pss_cons (ps_asg (pe_op op_fdiv (pe_ix (ix_seqK (K := K)) (pv 0) (pe_int) (fun _ _ => rfl)) (pv 1)) (pg_sub (pv 0) (pe_int) set_list)) (pss_one (ps_ret (pv 2))))) (pss_nil)) (pss_cons (ps_asg (pe_op op_add (pe_ix (ix_seqK (K := K)) (pv 0) (pe_int) (fun _ _ => rfl)) (pe_int)) (pg_sub (pv 0) (pe_int) set_list)) (pss_cons (ps_if (pt_cmpR op_le (pe_ix (ix_seqK (K := K)) (pv 0) (pe_int) (fun _ _ => rfl)) (pe_callB (call_lenK (K := K)) (by rfl) T.n_len (by decide +kernel) (pa_cons (pe_ix (ix_seqK (K := K)) (pv 0) (pe_int) (fun _ _ => rfl)) (pa_nil))) (nomark _)) (pss_cons (ps_asg (pe_ix (ix_seqK (K := K)) (pe_ix (ix_seqK (K := K)) (pv 0) (pe_int) (fun _ _ => rfl)) (pe_op op_sub (pe_ix (ix_seqK (K := K)) (pv 0) (pe_int) (fun _ _ => rfl)) (pe_int)) (fun _ _ => rfl)) (pg_name (i := 3) sc__law_next.nd rfl (by first | exact Or.inl rfl | exact Or.inr rfl))) (pss_cons (ps_asg (pe_ifExp (pt_cmpR op_ge (pv 3) (pe_op op_pow (pe_int) (pe_int)) (nomark _)) (pe_op op_fdiv (pv 3) (pv 1)) (pe_int)) (pg_sub (pv 0) (pe_int) set_list)) (pss_one (ps_ret (pe_op op_mod (pv 3) (pv 1)))))) (pss_nil)) (pss_cons (ps_asg (pe_op op_mod (pe_op op_mul (pe_ix (ix_seqK (K := K)) (pv 0) (pe_int) (fun _ _ => rfl)) (pe_int)) (pe_int)) (pg_sub (pv 0) (pe_int) set_list)) (pss_one (ps_ret (pe_op op_mod (pe_op op_fdiv (pe_ix (ix_seqK (K := K)) (pv 0) (pe_int) (fun _ _ => rfl)) (pe_int)) (pv 1))))))), ?_⟩)
  rintro ⟨k, n⟩ ds m ⟨rfl, hm, hn0, hn1⟩ wf
  dsimp only at hm hn0 hn1
  refine ws_shut (k := k) (ws_open hm ?_)
  rintro ds ⟨ns, i, mm, r, rfl, hns, hi, hm0, hm1, hr0⟩
  have hk := (List.getElem?_eq_some_iff.mp hm).1
  have md : ∀ x : Int, 0 ≤ x % n ∧ x % n < n := fun x => ⟨Int.emod_nonneg _ (by omega), Int.emod_lt_of_pos _ hn0⟩
  walk_at "go"
  refine ⟨fun hb => ?_, fun hb => ?_⟩
  · walk_at "go"
    exact next_end hm (md _).1 (md _).2 wf ⟨ns, i, mm, _, rfl, hns, hi, hm0, hm1, Int.ediv_nonneg hr0 (by omega)⟩
  · walk_at "go"
    refine ⟨fun hb2 => ?_, fun hb2 => ?_⟩
    · have hb2 := of_decide_eq_true hb2
      rw [List.length_map] at hb2
      obtain ⟨j, rfl⟩ : ∃ j : Nat, i = (j : Int) := ⟨i.toNat, by omega⟩
      have hj : j < ns.length := by omega
      walk_at "go"
      refine wr_ix (d := .int ns[j]) rfl ?_ ?_
      · rw [show (j : Int) + 1 - 1 = (j : Int) by omega]
        exact atI_nat (by rw [List.getElem?_map, List.getElem?_eq_getElem hj]; rfl)
      walk_at "go"
      refine ⟨fun hb3 => ?_, fun hb3 => ?_⟩
      · have hb3 := of_decide_eq_true hb3
        walk_at "go"
        have h18 : (0 : Int) ≤ 10 ^ (18 : Int).toNat := by decide
        exact next_end hm (md _).1 (md _).2 wf ⟨ns, _, mm, _, rfl, hns, by omega, hm0, hm1, Int.ediv_nonneg (by omega) (by omega)⟩
      · walk_at "go"
        exact next_end hm (md _).1 (md _).2 wf ⟨ns, _, mm, _, rfl, hns, by omega, hm0, hm1, by decide⟩
    · walk_at "go"
      exact next_end hm (md _).1 (md _).2 wf ⟨ns, _, _, _, rfl, hns, by omega, Int.emod_nonneg _ (by decide), Int.emod_lt_of_pos _ (by decide), hr0⟩
def Fdice : FSp where
  ar := 1
  G := List Int
  pre := fun ns ds m => ds = [.scr ns] ∧ ns.length ≤ 63
  post := fun _ m d m' => d = .hd m.length ∧ m' = m ++ [.dice]
theorem ok_dice (T : Tx K mg) : FnOk P w K mg base CX0 1 T.a__law_dice T.f__law_dice ["_law_script"] (spD K Fdice) := by
  refine ok0 T.F__law_dice sc__law_dice rfl (fun _ _ _ _ _ h => h) (fun cdv A outer s H E hr => ⟨_, pss_cons (ps_asg (pe_int) (pg_name (i := 1) sc__law_dice.nd rfl (by first | exact Or.inl rfl | exact Or.inr rfl))) (pss_cons (ps_for PassesOwn.never rfl (pi_listK (K := K) (pi_list (pv 0))) (pg_name (i := 2) sc__law_dice.nd rfl (by first | exact Or.inl rfl | exact Or.inr rfl)) (pss_one (ps_asg (pe_op op_mod (pe_op op_add (pe_op op_add (pe_op op_mul (pv 1) (pe_int)) (pe_op op_mul (pe_op op_mod (pv 2) (pe_int)) (pe_int))) (pe_int)) (pe_int)) (pg_name (i := 1) sc__law_dice.nd rfl (by first | exact Or.inl rfl | exact Or.inr rfl))))) (pss_one (ps_ret (pe_lst (pa_cons (pv 0) (pa_cons (pe_int) (pa_cons (pe_op op_mul (pv 1) (pe_callTy call_int1 (by rfl) T.n_int (by decide +kernel) (pa_cons (pe_cmpR op_gt (pe_callB (call_lenK (K := K)) (by rfl) T.n_len (by decide +kernel) (pa_cons (pv 0) (pa_nil))) (pe_int) (nomark _)) (pa_nil)))) (pa_cons (pe_int) (pa_nil))))))))), ?_⟩)
  rintro ns ds m ⟨rfl, hns⟩ wf
  refine ws_shut (k := m.length) ?_
  walk_at "go"
  refine ws_for (wi_scr ?_)
  walk_at "go"
  refine ⟨fun i ρ' m' => m' = m ∧ ∃ (x : Int) (y : Option D), 0 ≤ x ∧ x < 2147483647 ∧ ρ' = [some (.scr ns), some (.int x), y], ⟨rfl, 0, none, by decide, by decide, rfl⟩, ?_, ?_⟩
  · rintro i ρ' m' hi ⟨rfl, x, y, h0, h1, rfl⟩
    walk_at "go"
    exact ⟨rfl, _, _, Int.emod_nonneg _ (by decide), Int.emod_lt_of_pos _ (by decide), rfl⟩
  · rintro ρ' m' ⟨rfl, x, y, h0, h1, rfl⟩
    walk_at "go"
    refine we_lstM ?_
    walk_at "go"
    refine wr_intC ⟨.inl ⟨by omega, by omega⟩, ?_⟩
    walk_at "go"
    have hd : DiceD [.scr ns, .int 0, .int (x * (if decide ((2 : Int) < ((ns.map D.int).length : Int)) = true then 1 else 0)), .int 0] := by
      refine ⟨ns, 0, _, 0, rfl, hns, by decide, ?_, ?_, by decide⟩
      · split <;> omega
      · split <;> omega
    refine ⟨_, by rw [List.getElem?_append_right (Nat.le_refl _)]; simp, hd, .inl ⟨m' ++ [.dice], [], ?_, by simp, ?_, by simp [D.hb], rfl, rfl⟩⟩
    · simp
    · intro c hc
      rcases List.mem_append.mp hc with h | h
      · exact hbC_mono (wf c h) (by simp)
      · rw [List.mem_singleton.mp h]
        rfl

def whatD : Option Int → D
  | none => .non
  | some i => .int i
def entD (e : Ent) : D := .tup [whatD e.1, .int e.2.1, .int e.2.2]
def rowD (r : List Ent) : D := .lst (r.map entD)
def intsD (l : List Int) : D := .lst (l.map .int)
theorem whatD_hb (n : Nat) (o : Option Int) : (whatD o).hb n = true := by cases o <;> rfl
theorem entD_hb (n : Nat) (e : Ent) : (entD e).hb n = true := by
  show ((whatD e.1).hb n && (true && (true && true))) = true
  rw [whatD_hb]
  rfl
theorem ints_hb (n : Nat) (l : List Int) : hbA n (l.map .int) = true := by
  rw [hbA_all]
  intro d hd
  obtain ⟨i, _, rfl⟩ := List.mem_map.mp hd
  rfl
theorem row_hb (n : Nat) (r : List Ent) : hbA n (r.map entD) = true := by
  rw [hbA_all]
  intro d hd
  obtain ⟨i, _, rfl⟩ := List.mem_map.mp hd
  exact entD_hb n i
theorem at_nat {α : Type} {l : List α} {i : Nat} {a : α} (h : l[i]? = some a) : atI l (i : Int) = some a := atI_nat h
/-- a promise of a def that only tells -/
def tells (ar : Nat) (G : Type) (pre : G → List D → Prop) (f : G → D) : FSp where
  ar := ar
  G := G
  pre := fun g ds _ => pre g ds
  post := fun g m d m' => d = f g ∧ m' = m
theorem calls_tells {c : Ct} {ar : Nat} {G : Type} {pre : G → List D → Prop} {f : G → D} {ds : List D} {m : Store} {P : PD} (g : G) (hp : pre g ds) (p : P (f g) m) (hl : ds.length = ar := by rfl) : Calls c (tells ar G pre f) ds m P :=
  ⟨hl, g, hp, fun d m2 ⟨e1, e2⟩ => by rw [e1, e2]; exact p, fun _ _ _ h => h.elim⟩
def Fsoon : FSp := tells 1 (List Ent) (fun r ds => ds = [rowD r] ∧ r.length ≤ 9) fun r => intsD (soonF 0 r)
theorem ok_soon (T : Tx K mg) : FnOk P w K mg base CX0 1 T.a_soonest T.f_soonest ["row"] (spD K Fsoon) := by
  refine ok0 T.F_soonest sc_soonest rfl (fun _ _ _ _ _ h => h) (fun cdv A outer s H E hr => ⟨_, pss_cons (ps_asg (pe_lst (pa_nil)) (pg_name (i := 1) sc_soonest.nd rfl (by first | exact Or.inl rfl | exact Or.inr rfl))) (pss_cons (ps_asg (pe_int) (pg_name (i := 2) sc_soonest.nd rfl (by first | exact Or.inl rfl | exact Or.inr rfl))) (pss_cons (ps_for PassesOwn.never rfl (pi_listK (K := K) (pi_list (pv 0))) (pg_name (i := 3) sc_soonest.nd rfl (by first | exact Or.inl rfl | exact Or.inr rfl)) (pss_cons (ps_asg (pe_callB (call_max2 rfl) (by rfl) T.n_max (by decide +kernel) (pa_cons (pv 2) (pa_cons (pe_ix (ix_seqK (K := K)) (pv 3) (pe_int) (fun _ _ => rfl)) (pa_nil)))) (pg_name (i := 2) sc_soonest.nd rfl (by first | exact Or.inl rfl | exact Or.inr rfl))) (pss_one (ps_expr (pe_bmK (K := K) (pe_bm PySem.F.plainAttrs_list PySem.F.slot_list_append PySem.F.type_list_append mt_append (pv 1) (pa_cons (pv 2) (pa_nil)))))))) (pss_one (ps_ret (pv 1))))), ?_⟩)
  rintro (r : List Ent) ds m ⟨rfl, hl⟩ wf
  walk_at "go"
  refine we_lstM ?_
  walk_at "go"
  refine ws_forL (f := entD) ?_
  walk_at "go"
  refine ⟨fun pre ρ' m' => ∃ y, ρ' = [some (rowD r), some (.hd m.length), some (.int (reach 0 pre)), y] ∧ m' = m ++ [.lst ((soonF 0 pre).map .int)], ⟨none, rfl, rfl⟩, ?_, ?_⟩
  · rintro pre e post ρ' m' hr ⟨y, rfl, rfl⟩
    walk_at "go"
    refine wm_append app_get ?_ ?_
    · rw [List.length_map, soonF_len]
      have := congrArg List.length hr
      simp at this
      omega
    · rw [app_set]
      refine ⟨some (entD e), ?_, ?_⟩
      · rw [reach_snoc]
        rfl
      · rw [soonF_snoc, List.map_append]
        rfl
  · rintro ρ' m' ⟨y, rfl, rfl⟩
    walk_at "go"
    exact fin_lst wf (ints_hb _ _) ⟨rfl, rfl⟩
def Flat : FSp := tells 1 (List Ent) (fun r ds => ds = [rowD r] ∧ r.length ≤ 9) fun r => intsD (latF r)
theorem ok_lat (T : Tx K mg) : FnOk P w K mg base CX0 1 T.a_latest T.f_latest ["row"] (spD K Flat) := by
  refine ok0 T.F_latest sc_latest rfl (fun _ _ _ _ _ h => h) (fun cdv A outer s H E hr => ⟨_, pss_cons (ps_asg (pe_lst (pa_nil)) (pg_name (i := 1) sc_latest.nd rfl (by first | exact Or.inl rfl | exact Or.inr rfl))) (pss_cons (ps_asg (pe_glob (v := .int (999)) rfl T.g_LAST_MOMENT ⟨_, rfl⟩) (pg_name (i := 2) sc_latest.nd rfl (by first | exact Or.inl rfl | exact Or.inr rfl))) (pss_cons (ps_for PassesOwn.never rfl (pi_revK (K := K) (RT.pi_revA rfl T.n_reversed (pv 0))) (pg_name (i := 3) sc_latest.nd rfl (by first | exact Or.inl rfl | exact Or.inr rfl)) (pss_cons (ps_asg (pe_callB (call_min2 rfl) (by rfl) T.n_min (by decide +kernel) (pa_cons (pv 2) (pa_cons (pe_ix (ix_seqK (K := K)) (pv 3) (pe_int) (fun _ _ => rfl)) (pa_nil)))) (pg_name (i := 2) sc_latest.nd rfl (by first | exact Or.inl rfl | exact Or.inr rfl))) (pss_one (ps_expr (pe_bmK (K := K) (pe_bm PySem.F.plainAttrs_list PySem.F.slot_list_append PySem.F.type_list_append mt_append (pv 1) (pa_cons (pv 2) (pa_nil)))))))) (pss_one (ps_ret (pe_revLK (K := K) (pe_revL (pv 1))))))), ?_⟩)
  rintro (r : List Ent) ds m ⟨rfl, hl⟩ wf
  walk_at "go"
  refine we_lstM ?_
  walk_at "go"
  refine ws_forR (f := entD) ?_
  walk_at "go"
  refine ⟨fun pre ρ' m' => ∃ y, ρ' = [some (rowD r), some (.hd m.length), some (.int (lim 999 pre)), y] ∧ m' = m ++ [.lst ((latG 999 pre).map .int)], ⟨none, rfl, rfl⟩, ?_, ?_⟩
  · rintro pre e post ρ' m' hr ⟨y, rfl, rfl⟩
    walk_at "go"
    refine wm_append app_get ?_ ?_
    · rw [List.length_map, latG_len]
      have := congrArg List.length hr
      rw [List.length_reverse, List.length_append, List.length_cons] at this
      have hl' : List.length r ≤ 9 := hl
      omega
    · rw [app_set]
      refine ⟨some (entD e), ?_, ?_⟩
      · rw [lim_snoc]
        rfl
      · rw [latG_snoc, List.map_append]
        rfl
  · rintro ρ' m' ⟨y, rfl, rfl⟩
    walk_at "go"
    refine we_revL ?_
    walk_at "go"
    refine ⟨_, lstAt_of app_get, fin_trim wf (by show hbA _ _ = true; rw [← List.map_reverse]; exact ints_hb _ _) ⟨?_, rfl⟩⟩
    rw [← List.map_reverse]
    rfl
def placeD : Option Nat → D
  | none => .non
  | some i => .int i
def Fstuck : FSp := tells 1 (List Ent) (fun r ds => ds = [rowD r] ∧ r.length ≤ 9) fun r => placeD (stuckF r)
theorem ok_stuck (T : Tx K mg) : FnOk P w K mg base CX0 2 T.a_first_stuck T.f_first_stuck ["row"] (spD K Fstuck) := by
  have G_soonest := ok_soon (P := P) (w := w) (base := base) T
  refine ok0 T.F_first_stuck sc_first_stuck rfl (fun _ _ _ _ _ h => h) (fun cdv A outer s H E hr => ⟨_, pss_cons (ps_asg (pe_call G_soonest (hr.mono (by first | decide | omega)) rfl T.g_soonest T.k_soonest T.b_soonest .nil pass0 (pa_cons (pv 0) (pa_nil))) (pg_name (i := 1) sc_first_stuck.nd rfl (by first | exact Or.inl rfl | exact Or.inr rfl))) (pss_cons (ps_for PassesOwn.never rfl (pi_enumK (K := K) (pi_enum rfl T.n_enumerate (pa_cons (pv 0) (pa_nil)))) (pg_tupK (K := K) (n := 2) (pg_tup (n := 2) rfl (pgs_cons (pg_name (i := 2) sc_first_stuck.nd rfl (by first | exact Or.inl rfl | exact Or.inr rfl)) (pgs_cons (pg_name (i := 3) sc_first_stuck.nd rfl (by first | exact Or.inl rfl | exact Or.inr rfl)) (pgs_nil))))) (pss_one (ps_if (pt_cmpR op_gt (pe_ix (ix_seqK (K := K)) (pv 1) (pv 2) (fun _ _ => rfl)) (pe_ix (ix_seqK (K := K)) (pv 3) (pe_int) (fun _ _ => rfl)) (nomark _)) (pss_one (ps_ret (pv 2))) (pss_nil)))) (pss_one (ps_ret (pe_non)))), ?_⟩)
  rintro (r : List Ent) ds m ⟨rfl, hl⟩ wf
  walk_at "go"
  refine calls_tells r ⟨rfl, hl⟩ ?_
  walk_at "go"
  refine ws_forE (f := entD) ?_
  walk_at "go"
  refine ⟨fun pre ρ' m' => ∃ y z, ρ' = [some (rowD r), some (intsD (soonF 0 r)), y, z] ∧ m' = m ∧ ∀ p x q, pre = p ++ x :: q → mx (reach 0 p) x.2.1 ≤ x.2.2, ⟨none, none, rfl, rfl, fun p x q h => by cases p <;> simp at h⟩, ?_, ?_⟩
  · rintro pre e post ρ' m' er ⟨y, z, rfl, rfl, hp⟩
    have hlen := congrArg List.length er
    rw [List.length_append, List.length_cons] at hlen
    have es : (soonF 0 r)[pre.length]? = some (mx (reach 0 pre) e.2.1) := by
      have er' : r = pre ++ [e] ++ post := by rw [er]; simp
      rw [er', soonF_app, List.getElem?_append_left (by rw [soonF_len]; simp), soonF_snoc, List.getElem?_append_right (by rw [soonF_len]; exact Nat.le_refl _), soonF_len]
      simp
    refine wg_tup rfl ?_
    walk_at "go"
    refine wr_ix (d := .int (mx (reach 0 pre) e.2.1)) rfl (at_nat (by rw [List.getElem?_map, es]; rfl)) ?_
    walk_at "go"
    refine ⟨fun hb => ?_, fun hb => ?_⟩
    · have hb := of_decide_eq_true hb
      walk_at "go"
      refine fin_same wf rfl ⟨?_, rfl⟩
      show D.int _ = placeD (stuckF r)
      unfold stuckF
      rw [er, stuckG_some hp hb, Nat.zero_add]
      rfl
    · have hb := of_decide_eq_false hb
      walk_at "go"
      refine ⟨_, _, rfl, rfl, fun p x q h => ?_⟩
      rcases q.eq_nil_or_concat with rfl | ⟨q', y, rfl⟩
      · have h' := List.append_inj' h rfl
        rw [← h'.1]
        have hx : e = x := by simpa using h'.2
        rw [← hx]
        omega
      · rw [List.concat_eq_append, ← List.cons_append, ← List.append_assoc] at h
        exact hp p x q' (List.append_inj_left' h rfl)
  · rintro ρ' m' ⟨y, z, rfl, rfl, hp⟩
    walk_at "go"
    refine fin_same wf rfl ⟨?_, rfl⟩
    show D.non = placeD (stuckF r)
    unfold stuckF
    rw [(stuckG_none 0 0 r).mpr fun p x q h => hp p x q h]
    rfl

/-- the row with an entry put in -/
def putIn (r : List Ent) (p : Nat) (e : Ent) : List Ent := r.take p ++ [e] ++ r.drop p
theorem putIn_len {r : List Ent} {p : Nat} {e : Ent} (h : p ≤ r.length) : (putIn r p e).length = r.length + 1 := by
  unfold putIn
  rw [List.length_append, List.length_append, List.length_take, List.length_drop]
  simp
  omega
theorem cut_to {ds : List D} {p : Nat} (h : p ≤ ds.length) : cutZ ds none (some (p : Int)) = ds.take p := by
  unfold cutZ
  rw [HT.sIx_nat, HT.sIx_none, Nat.min_eq_left h]
  simp
theorem cut_from {ds : List D} {p : Nat} (h : p ≤ ds.length) : cutZ ds (some (p : Int)) none = ds.drop p := by
  unfold cutZ
  rw [HT.sIx_nat, HT.sIx_none, Nat.min_eq_left h, List.take_of_length_le]
  rw [List.length_drop]
  omega
def Frow : FSp := tells 3 (List Ent × Nat × Ent) (fun g ds => ds = [rowD g.1, .int g.2.1, entD g.2.2] ∧ g.2.1 ≤ g.1.length ∧ g.1.length ≤ 8 ∧ 0 ≤ g.2.2.2.1 ∧ g.2.2.2.2 ≤ 999 ∧ g.2.2.2.1 ≤ g.2.2.2.2 ∧ stuckF (putIn g.1 g.2.1 g.2.2) = none) fun g => rowD (putIn g.1 g.2.1 g.2.2)
theorem ok_row (T : Tx K mg) : FnOk P w K mg base CX0 3 T.a_row_with T.f_row_with ["row", "place", "entry"] (spD K Frow) := by
  have G_first_stuck := ok_stuck (P := P) (w := w) (base := base) T
  refine ok0 T.F_row_with sc_row_with rfl (fun _ _ _ _ _ h => h) (fun cdv A outer s H E hr => ⟨_, pss_cons (ps_asg (pv 2) (pg_tupK (K := K) (n := 3) (pg_tup (n := 3) rfl (pgs_cons (pg_name (i := 3) sc_row_with.nd rfl (by first | exact Or.inl rfl | exact Or.inr rfl)) (pgs_cons (pg_name (i := 4) sc_row_with.nd rfl (by first | exact Or.inl rfl | exact Or.inr rfl)) (pgs_cons (pg_name (i := 5) sc_row_with.nd rfl (by first | exact Or.inl rfl | exact Or.inr rfl)) (pgs_nil))))))) (pss_cons (ps_if (PW.pt (pw_or (pt_cmpR op_lt (pv 4) (pe_int) (nomark _)) (pw_or (pt_cmpR op_gt (pv 5) (pe_glob (v := .int (999)) rfl T.g_LAST_MOMENT ⟨_, rfl⟩) (nomark _)) (pw_or1 (pt_cmpR op_lt (pv 5) (pv 4) (nomark _)))))) (pss_one (ps_never)) (pss_nil)) (pss_cons (ps_asg (pe_op op_cat (pe_op op_cat (pe_slice (sl_listK (K := K)) (pv 0) po_none (po_some (pv 1))) (pe_lst (pa_cons (pv 2) (pa_nil)))) (pe_slice (sl_listK (K := K)) (pv 0) (po_some (pv 1)) po_none)) (pg_name (i := 6) sc_row_with.nd rfl (by first | exact Or.inl rfl | exact Or.inr rfl))) (pss_cons (ps_asg (pe_call G_first_stuck (hr.mono (by first | decide | omega)) rfl T.g_first_stuck T.k_first_stuck T.b_first_stuck .nil pass0 (pa_cons (pv 6) (pa_nil))) (pg_name (i := 7) sc_row_with.nd rfl (by first | exact Or.inl rfl | exact Or.inr rfl))) (pss_cons (ps_if (pt_cmp (pc_notN (pv 7)) rfl) (pss_one (ps_never)) (pss_nil)) (pss_one (ps_ret (pv 6))))))), ?_⟩)
  rintro ⟨r, p, e⟩ ds m ⟨rfl, hp, hl, h0, h1, h2, hst⟩ wf
  dsimp only at hp hl h0 h1 h2 hst
  try dsimp only
  walk_at "go"
  refine wg_tup rfl ?_
  walk_at "go"
  refine ⟨fun hb => absurd (of_decide_eq_true hb) (by omega), fun _ => ?_⟩
  walk_at "go"
  refine ⟨fun hb => absurd (of_decide_eq_true hb) (by omega), fun _ => ?_⟩
  walk_at "go"
  refine ⟨fun hb => absurd (of_decide_eq_true hb) (by omega), fun _ => ?_⟩
  walk_at "go"
  refine wsl_list rfl ?_
  rw [cut_to (by rw [List.length_map]; exact hp)]
  walk_at "go"
  refine we_lst ?_
  walk_at "go"
  refine wr_cat rfl rfl (by rw [List.length_take, List.length_map]; simp; omega) ?_
  walk_at "go"
  refine wsl_list rfl ?_
  rw [cut_from (by rw [List.length_map]; exact hp)]
  walk_at "go"
  refine wr_cat rfl rfl (by simp; omega) ?_
  have er : D.lst ((r.map entD).take p ++ [entD e] ++ (r.map entD).drop p) = rowD (putIn r p e) := by
    unfold rowD putIn
    rw [List.map_append, List.map_append, List.map_take, List.map_drop]
    rfl
  rw [er]
  walk_at "go"
  refine calls_tells (putIn r p e) ⟨rfl, by rw [putIn_len hp]; omega⟩ ?_
  rw [hst]
  walk_at "go"
  refine ⟨fun hb => (by cases hb), fun _ => ?_⟩
  walk_at "go"
  exact fin_same wf (row_hb _ _) ⟨rfl, rfl⟩

theorem ints_get {l : List Int} {i : Nat} (h : i < l.length) : (l.map D.int)[i]? = some (.int (l.getD i 0)) := by
  rw [List.getElem?_map, List.getElem?_eq_getElem h, List.getD_eq_getElem?_getD, List.getElem?_eq_getElem h]
  rfl
theorem stand_mem {r : List Ent} {t p : Int} (h : p ∈ standF r t) : -1 ≤ p ∧ p < r.length := by
  unfold standF at h
  obtain ⟨a, ha, rfl⟩ := List.mem_map.mp h
  have := List.mem_range.mp (List.mem_filter.mp ha).1
  omega
theorem stand_len9 (r : List Ent) (t : Int) : (standF r t).length ≤ r.length + 1 := by
  unfold standF
  rw [List.length_map]
  refine Nat.le_trans (List.length_filter_le _ _) ?_
  rw [List.length_range]
  exact Nat.le_refl _
/-- (begin, end) for each place -/
def spansL (r : List Ent) : List (Int × Int) := (List.range (r.length + 1)).map fun a => (beginF r a, endF r a)
def spanD (p : Int × Int) : D := .tup [.int p.1, .int p.2]
theorem spans_hb (n : Nat) (l : List (Int × Int)) : hbA n (l.map spanD) = true := by
  rw [hbA_all]
  intro d hd
  obtain ⟨i, _, rfl⟩ := List.mem_map.mp hd
  rfl
theorem zip_range (f g : List Int) (n : Nat) (hf : f.length = n) (hg : g.length = n) : f.zip g = (List.range n).map fun a => (f.getD a 0, g.getD a 0) := by
  apply List.ext_getElem
  · rw [List.length_zip, List.length_map, List.length_range, hf, hg, Nat.min_self]
  · intro i h1 h2
    rw [List.length_map, List.length_range] at h2
    rw [List.getElem_zip, List.getElem_map, List.getElem_range, List.getD_eq_getElem?_getD, List.getD_eq_getElem?_getD, List.getElem?_eq_getElem (by omega), List.getElem?_eq_getElem (by omega)]
    rfl
theorem zip_mapD (f g : List Int) : ((f.map D.int).zip (g.map D.int)).map (fun p => D.tup [p.1, p.2]) = (f.zip g).map spanD := by
  rw [List.zip_map, List.map_map]
  rfl
theorem spans_eq (r : List Ent) : (0 :: soonF 0 r).zip (latF r ++ [1000]) = spansL r := zip_range _ _ _ (by rw [List.length_cons, soonF_len]) (by rw [List.length_append, latF_len]; rfl)
theorem spans_get {r : List Ent} {a : Nat} (h : a < r.length + 1) : ((spansL r).map spanD).getD a .non = .tup [.int (beginF r a), .int (endF r a)] := by
  unfold spansL
  rw [List.getD_eq_getElem?_getD, List.getElem?_map, List.getElem?_map, List.getElem?_range h]
  rfl
theorem spans_len (r : List Ent) : ((spansL r).map spanD).length = r.length + 1 := by
  unfold spansL
  rw [List.length_map, List.length_map, List.length_range]
def Fspans : FSp := tells 1 (List Ent) (fun r ds => ds = [rowD r] ∧ r.length ≤ 9) fun r => .lst ((spansL r).map spanD)
theorem ok_spans (T : Tx K mg) : FnOk P w K mg base CX0 2 T.a_spans T.f_spans ["row"] (spD K Fspans) := by
  have G_soonest := ok_soon (P := P) (w := w) (base := base) T
  have G_latest := ok_lat (P := P) (w := w) (base := base) T
  refine ok0 T.F_spans sc_spans rfl (fun _ _ _ _ _ h => h) (fun cdv A outer s H E hr => ⟨_, pss_cons (ps_asg (pe_op op_cat (pe_lst (pa_cons (pe_int) (pa_nil))) (pe_call G_soonest (hr.mono (by first | decide | omega)) rfl T.g_soonest T.k_soonest T.b_soonest .nil pass0 (pa_cons (pv 0) (pa_nil)))) (pg_name (i := 1) sc_spans.nd rfl (by first | exact Or.inl rfl | exact Or.inr rfl))) (pss_cons (ps_asg (pe_op op_cat (pe_call G_latest (hr.mono (by first | decide | omega)) rfl T.g_latest T.k_latest T.b_latest .nil pass0 (pa_cons (pv 0) (pa_nil))) (pe_lst (pa_cons (pe_op op_add (pe_glob (v := .int (999)) rfl T.g_LAST_MOMENT ⟨_, rfl⟩) (pe_int)) (pa_nil)))) (pg_name (i := 2) sc_spans.nd rfl (by first | exact Or.inl rfl | exact Or.inr rfl))) (pss_one (ps_ret (pe_listZipK (K := K) (pe_listZip rfl rfl T.n_list rfl T.n_zip (by decide +kernel) (pa_cons (pv 1) (pa_cons (pv 2) (pa_nil)))))))), ?_⟩)
  rintro (r : List Ent) ds m ⟨rfl, hl⟩ wf
  walk_at "go"
  refine we_lst ?_
  walk_at "go"
  refine calls_tells r ⟨rfl, hl⟩ ?_
  refine wr_cat (ys := (soonF 0 r).map .int) rfl rfl (by rw [List.length_map, soonF_len]; simp; omega) ?_
  walk_at "go"
  refine calls_tells r ⟨rfl, hl⟩ ?_
  walk_at "go"
  refine we_lst ?_
  walk_at "go"
  refine wr_cat (xs := (latF r).map .int) rfl rfl (by rw [List.length_map, latF_len]; simp; omega) ?_
  walk_at "go"
  refine we_listZip ?_
  walk_at "go"
  refine ⟨_, _, (0 :: soonF 0 r).map .int, (latF r ++ [1000]).map .int, rfl, rfl, by rw [List.map_append]; rfl, by simp [soonF_len, latF_len], by rw [List.length_map, List.length_cons, soonF_len]; omega, ?_⟩
  rw [zip_mapD, spans_eq]
  exact fin_same wf (spans_hb _ _) ⟨rfl, rfl⟩
def Fstand : FSp := tells 2 (List Ent × Int) (fun g ds => ds = [rowD g.1, .int g.2] ∧ g.1.length ≤ 8) fun g => intsD (standF g.1 g.2)
theorem ok_stand (T : Tx K mg) : FnOk P w K mg base CX0 3 T.a_standing T.f_standing ["row", "moment"] (spD K Fstand) := by
  have G_spans := ok_spans (P := P) (w := w) (base := base) T
  refine ok0 T.F_standing sc_standing rfl (fun _ _ _ _ _ h => h) (fun cdv A outer s H E hr => ⟨_, pss_one (ps_ret (pe_lc (own := [("place", 2), ("begin", 3), ("end", 4)]) rfl sc_standing.nd (pi_enumKK (K := K) (pi_enumK' rfl T.n_enumerate (pa_cons (pe_call G_spans (hr.mono (by first | decide | omega)) rfl T.g_spans T.k_spans T.b_spans .nil pass0 (pa_cons (pv 0) (pa_nil))) (pa_nil)) (pk_cons (pe_glob (v := .int (-1)) rfl T.g_NOTHING_YET ⟨_, rfl⟩) pk_nil))) (blkOk_by (N := ["row", "moment", "place", "begin", "end"]) (own := [("place", 2), ("begin", 3), ("end", 4)]) (sc := defScope s_standing) (by decide +kernel)) (fun _ _ _ _ _ => pg_tupK (K := K) (n := 2) (pg_tup (n := 2) rfl (pgs_cons (pg_name (i := 2) sc_standing.nd rfl (by first | exact Or.inl rfl | exact Or.inr rfl)) (pgs_cons (pg_tupK (K := K) (n := 2) (pg_tup (n := 2) rfl (pgs_cons (pg_name (i := 3) sc_standing.nd rfl (by first | exact Or.inl rfl | exact Or.inr rfl)) (pgs_cons (pg_name (i := 4) sc_standing.nd rfl (by first | exact Or.inl rfl | exact Or.inr rfl)) (pgs_nil))))) (pgs_nil))))) (fun _ _ _ _ _ => pts_one (pt_chain op_le op_lt (pv 3) (pv 1) (pv 4))) (fun _ _ _ _ _ => pv 2))), ?_⟩)
  rintro ⟨r, t⟩ ds m ⟨rfl, hl⟩ wf
  dsimp only at hl
  try dsimp only
  refine ws_ret (we_lcN (wi_enumK ?_))
  walk_at "go"
  refine calls_tells r ⟨rfl, by omega⟩ ?_
  walk_at "go"
  rw [spans_len]
  refine ⟨fun i acc => acc = (((List.range i).filter fun a : Nat => decide (beginF r a ≤ t) && decide (t < endF r a)).map fun a : Nat => (a : Int) - 1).map .int, rfl, ?_, by omega, ?_⟩
  · rintro i acc m' hi hg wf' hl' rfl
    dsimp only
    rw [spans_get hi]
    refine wgo_tupG rfl (wgos_cons (wgo_name (by decide) (wgos_cons (wgo_tupG rfl (wgos_cons (wgo_name (by decide) (wgos_cons (wgo_name (by decide) (wgos_nil (wgos_nil ?_))))))))))
    refine ⟨rfl, ?_⟩
    have step : ∀ b : Bool, b = (decide (beginF r i ≤ t) && decide (t < endF r i)) → (((List.range (i + 1)).filter fun a : Nat => decide (beginF r a ≤ t) && decide (t < endF r a)).map fun a : Nat => (a : Int) - 1).map D.int = (((List.range i).filter fun a : Nat => decide (beginF r a ≤ t) && decide (t < endF r a)).map fun a : Nat => (a : Int) - 1).map D.int ++ (if b = true then [D.int ((i : Int) - 1)] else []) := fun b hb => by
      rw [List.range_succ, List.filter_append, List.map_append, List.map_append, List.filter_cons, ← hb]
      cases b <;> rfl
    refine (?_ : WT _ _ _ _ fun b m3 => m3 = m' ∧ b = (decide (beginF r i ≤ t) && decide (t < endF r i))).imp fun b m3 ⟨em, eb⟩ => ⟨em, fun hb => ?_, fun hb => ?_⟩
    · walk_at "go"
      refine ⟨fun hb => ?_, fun hb => ⟨_, rfl, rfl, ?_⟩⟩
      · walk_at "go"
        refine ⟨rfl, ?_⟩
        rw [hb, Bool.true_and]
      · rw [hb, Bool.false_and]
    · walk_at "go"
      refine ⟨rfl, ?_⟩
      have := step b eb
      rw [hb, if_pos rfl] at this
      rw [this, show (-1 : Int) + (i : Int) = (i : Int) - 1 by omega]
    · have := step b eb
      rw [hb, if_neg (by decide), List.append_nil] at this
      exact this.symm
  · rintro acc _ rfl
    exact ⟨ints_hb _ _, fin_same wf (ints_hb _ _) ⟨rfl, rfl⟩⟩
def Fmoms : FSp := tells 2 (List Ent × Nat) (fun g ds => ds = [rowD g.1, .int ((g.2 : Int) - 1)] ∧ g.1.length ≤ 9 ∧ g.2 ≤ g.1.length) fun g => intsD (momsBy g.1 g.2)
theorem cutZ_to {xs : List D} {k : Nat} (hk : k ≤ xs.length) : cutZ xs none (some (k : Int)) = xs.take k := by
  unfold cutZ
  rw [HT.sIx_nat, HT.sIx_none, List.drop_zero, Nat.min_eq_left hk, Nat.sub_zero]
theorem cutZ_on {xs : List D} {k : Nat} (hk : k ≤ xs.length) : cutZ xs (some (k : Int)) none = xs.drop k := by
  unfold cutZ
  rw [HT.sIx_nat, HT.sIx_none, Nat.min_eq_left hk, List.take_of_length_le (by rw [List.length_drop]; omega)]
theorem ok_moms (T : Tx K mg) : FnOk P w K mg base CX0 2 T.a_moments_by T.f_moments_by ["row", "place"] (spD K Fmoms) := by
  have G_soonest := ok_soon (P := P) (w := w) (base := base) T
  have G_latest := ok_lat (P := P) (w := w) (base := base) T
  refine ok0 T.F_moments_by sc_moments_by rfl (fun _ _ _ _ _ h => h) (fun cdv A outer s H E hr => ⟨_, pss_one (ps_ret (pe_op op_cat (pe_slice (sl_listK (K := K)) (pe_call G_soonest (hr.mono (by first | decide | omega)) rfl T.g_soonest T.k_soonest T.b_soonest .nil pass0 (pa_cons (pv 0) (pa_nil))) po_none (po_some (pe_op op_add (pv 1) (pe_int)))) (pe_slice (sl_listK (K := K)) (pe_call G_latest (hr.mono (by first | decide | omega)) rfl T.g_latest T.k_latest T.b_latest .nil pass0 (pa_cons (pv 0) (pa_nil))) (po_some (pe_op op_add (pv 1) (pe_int))) po_none))), ?_⟩)
  rintro ⟨r, a⟩ ds m ⟨rfl, hl, ha⟩ wf
  dsimp only at hl ha
  try dsimp only
  walk_at "go"
  refine calls_tells r ⟨rfl, hl⟩ ?_
  walk_at "go"
  rw [show (a : Int) - 1 + 1 = (a : Int) by omega]
  refine wsl_list (ds := (soonF 0 r).map .int) rfl ?_
  rw [cutZ_to (by rw [List.length_map, soonF_len]; exact ha)]
  walk_at "go"
  refine calls_tells r ⟨rfl, hl⟩ ?_
  walk_at "go"
  rw [show (a : Int) - 1 + 1 = (a : Int) by omega]
  refine wsl_list (ds := (latF r).map .int) rfl ?_
  rw [cutZ_on (by rw [List.length_map, latF_len]; exact ha)]
  refine wr_cat rfl rfl ?_ ?_
  · rw [List.length_take, List.length_drop, List.length_map, List.length_map, soonF_len, latF_len]
    omega
  have e : ((soonF 0 r).map D.int).take a ++ ((latF r).map D.int).drop a = (momsBy r a).map .int := by
    unfold momsBy
    rw [List.map_append, List.map_take, List.map_drop]
  rw [e]
  exact fin_same wf (ints_hb _ _) ⟨rfl, rfl⟩
def Finf : FSp := tells 2 (List Ent × Nat) (fun g ds => ds = [rowD g.1, .int ((g.2 : Int) - 1)] ∧ g.1.length ≤ 9 ∧ g.2 ≤ g.1.length) fun g => whatD (wh g.1 g.2)
theorem ok_inf (T : Tx K mg) : FnOk P w K mg base CX0 1 T.a_in_force T.f_in_force ["row", "place"] (spD K Finf) := by
  refine ok0 T.F_in_force sc_in_force rfl (fun _ _ _ _ _ h => h) (fun cdv A outer s H E hr => ⟨_, pss_cons (ps_if (pt_cmpR op_eq (pv 1) (pe_glob (v := .int (-1)) rfl T.g_NOTHING_YET ⟨_, rfl⟩) (nomark _)) (pss_one (ps_ret (pe_glob (v := .int (-1)) rfl T.g_NOTHING_YET ⟨_, rfl⟩))) (pss_nil)) (pss_one (ps_ret (pe_ix (ix_seqK (K := K)) (pe_ix (ix_seqK (K := K)) (pv 0) (pv 1) (fun _ _ => rfl)) (pe_int) (fun _ _ => rfl)))), ?_⟩)
  rintro ⟨r, a⟩ ds m ⟨rfl, hl, ha⟩ wf
  dsimp only at hl ha
  try dsimp only
  walk_at "go"
  refine ⟨fun hb => ?_, fun hb => ?_⟩
  · have hb := V.int.inj (of_decide_eq_true hb)
    obtain rfl : a = 0 := by omega
    walk_at "go"
    exact fin_same wf rfl ⟨rfl, rfl⟩
  · have hb : ¬ (a : Int) - 1 = -1 := fun e => of_decide_eq_false hb (by rw [e])
    obtain ⟨j, rfl⟩ : ∃ j : Nat, a = j + 1 := ⟨a - 1, by omega⟩
    rw [show ((j + 1 : Nat) : Int) - 1 = (j : Int) by omega]
    have hj : j < r.length := by omega
    walk_at "go"
    refine wr_ix (d := entD r[j]) rfl (at_nat (by rw [List.getElem?_map, List.getElem?_eq_getElem hj]; rfl)) ?_
    walk_at "go"
    refine fin_same wf (whatD_hb _ _) ⟨?_, rfl⟩
    dsimp only
    rw [wh_s, List.getD_eq_getElem?_getD, List.getElem?_eq_getElem hj]
    rfl
def whatV : Option Int → V
  | none => .non
  | some i => .int i
theorem what_flat (o : Option Int) : (whatD o).flat = some (whatV o) := by cases o <;> rfl
theorem whats_flat (l : List (Option Int)) : (l.map whatD).map D.flat = (l.map whatV).map some := by
  rw [List.map_map, List.map_map]
  apply List.map_congr_left
  intro o _
  exact what_flat o
theorem eq_what (a b : Option Int) : eqV (whatV a) (whatV b) = decide (a = b) := by
  cases a with
  | none => cases b <;> rfl
  | some x => cases b with
    | none => rfl
    | some y =>
      show (x == y) = decide (some x = some y)
      by_cases h : x = y
      · subst h
        simp
      · rw [decide_eq_false fun e => h (Option.some.inj e)]
        exact beq_eq_false_iff_ne.mpr h
theorem in_what (a : Option Int) (l : List (Option Int)) : inV (whatV a) (l.map whatV) = decide (a ∈ l) := by
  unfold inV
  rw [List.any_map]
  induction l with
  | nil => rfl
  | cons b l ih =>
    rw [List.any_cons, ih]
    show (eqV (whatV b) (whatV a) || decide (a ∈ l)) = decide (a ∈ b :: l)
    rw [eq_what]
    by_cases h : b = a
    · subst h
      simp
    · have h' : ¬ a = b := fun e => h e.symm
      simp [h, h']
theorem whats_hb (n : Nat) (l : List (Option Int)) : hbA n (l.map whatD) = true := by
  rw [hbA_all]
  intro d hd
  obtain ⟨i, _, rfl⟩ := List.mem_map.mp hd
  exact whatD_hb n i
theorem addNew_len (l acc : List (Option Int)) : (l.foldl addNew acc).length ≤ acc.length + l.length := by
  induction l generalizing acc with
  | nil => exact Nat.le_refl _
  | cons x l ih =>
    refine Nat.le_trans (ih (addNew acc x)) ?_
    unfold addNew
    rw [List.length_cons]
    split
    · omega
    · rw [List.length_append, List.length_singleton]
      omega
theorem stand_len (r : List Ent) (t : Int) : (standF r t).length ≤ r.length + 1 := by
  unfold standF
  rw [List.length_map]
  refine Nat.le_trans (List.length_filter_le _ _) ?_
  rw [List.length_range]
  exact Nat.le_refl _
def Ftold : FSp := tells 2 (List Ent × Int) (fun g ds => ds = [rowD g.1, .int g.2] ∧ g.1.length ≤ 8) fun g => .lst ((toldF g.1 g.2).map whatD)
theorem ok_told (T : Tx K mg) : FnOk P w K mg base CX0 4 T.a_told T.f_told ["row", "moment"] (spD K Ftold) := by
  have G_standing := ok_stand (P := P) (w := w) (base := base) T
  have G_in_force := ok_inf (P := P) (w := w) (base := base) T
  refine ok0 T.F_told sc_told rfl (fun _ _ _ _ _ h => h) (fun cdv A outer s H E hr => ⟨_, pss_cons (ps_asg (pe_lst (pa_nil)) (pg_name (i := 2) sc_told.nd rfl (by first | exact Or.inl rfl | exact Or.inr rfl))) (pss_cons (ps_for PassesOwn.never rfl (pi_listK (K := K) (pi_list (pe_call G_standing (hr.mono (by first | decide | omega)) rfl T.g_standing T.k_standing T.b_standing .nil pass0 (pa_cons (pv 0) (pa_cons (pv 1) (pa_nil)))))) (pg_name (i := 3) sc_told.nd rfl (by first | exact Or.inl rfl | exact Or.inr rfl)) (pss_cons (ps_asg (pe_call G_in_force (hr.mono (by first | decide | omega)) rfl T.g_in_force T.k_in_force T.b_in_force .nil pass0 (pa_cons (pv 0) (pa_cons (pv 3) (pa_nil)))) (pg_name (i := 4) sc_told.nd rfl (by first | exact Or.inl rfl | exact Or.inr rfl))) (pss_one (ps_if (pt_cmpR (op_notInK (K := K)) (pv 4) (pv 2) (by rfl)) (pss_one (ps_expr (pe_bmK (K := K) (pe_bm PySem.F.plainAttrs_list PySem.F.slot_list_append PySem.F.type_list_append mt_append (pv 2) (pa_cons (pv 4) (pa_nil)))))) (pss_nil))))) (pss_one (ps_ret (pv 2)))), ?_⟩)
  rintro ⟨r, t⟩ ds m ⟨rfl, hl⟩ wf
  dsimp only at hl
  try dsimp only
  walk_at "go"
  refine we_lstM ?_
  walk_at "go"
  refine ws_forL (f := .int) ?_
  walk_at "go"
  refine calls_tells (r, t) ⟨rfl, hl⟩ ?_
  refine ⟨standF r t, rfl, fun pre ρ' m' => ∃ y z, ρ' = [some (rowD r), some (.int t), some (.hd m.length), y, z] ∧ m' = m ++ [.lst (((pre.map (whatAt r)).foldl addNew []).map whatD)], ⟨none, none, rfl, rfl⟩, ?_, ?_⟩
  · rintro pre p post ρ' m' er ⟨y, z, rfl, rfl⟩
    have hp := stand_mem (r := r) (t := t) (p := p) (by rw [er]; simp)
    have hlen : pre.length ≤ 9 := by
      have h1 := congrArg List.length er
      have h2 := stand_len r t
      rw [List.length_append] at h1
      omega
    walk_at "v"
    refine ws_seq (ws_asg (we_is (d0 := whatD (whatAt r p)) ?_ ?_))
    · walk_at "go"
      obtain ⟨a, rfl⟩ : ∃ a : Nat, p = (a : Int) - 1 := ⟨(p + 1).toNat, by omega⟩
      refine calls_tells (r, a) ⟨rfl, by dsimp only; omega, by dsimp only; omega⟩ ?_
      exact ⟨rfl, rfl⟩
    · walk_at "go"
      refine wr_in (what_flat _) (lstAt_of app_get) (whats_flat _) ?_
      rw [in_what]
      walk_at "go"
      refine ⟨fun hb => ?_, fun hb => ?_⟩
      · have hb : ¬ whatAt r p ∈ (pre.map (whatAt r)).foldl addNew [] := by simpa using hb
        walk_at "go"
        refine wm_append app_get ?_ ?_
        · rw [List.length_map]
          have h3 := addNew_len (pre.map (whatAt r)) []
          simp at h3
          omega
        · rw [app_set]
          refine ⟨some (.int p), some (whatD (whatAt r p)), rfl, ?_⟩
          rw [List.map_append, List.foldl_append]
          show _ = m ++ [Cell.lst ((addNew _ (whatAt r p)).map whatD)]
          rw [addNew_out hb, List.map_append]
          rfl
      · have hb : whatAt r p ∈ (pre.map (whatAt r)).foldl addNew [] := by simpa using hb
        walk_at "go"
        refine ⟨some (.int p), some (whatD (whatAt r p)), rfl, ?_⟩
        rw [List.map_append, List.foldl_append]
        show _ = m ++ [Cell.lst ((addNew _ (whatAt r p)).map whatD)]
        rw [addNew_in hb]
  · rintro ρ' m' ⟨y, z, rfl, rfl⟩
    walk_at "go"
    exact fin_lst wf (whats_hb _ _) ⟨rfl, rfl⟩

section
variable {c : Ct} {m : Store} {P : PD} {r : List Ent} {t : Int}
theorem call_soon (hl : r.length ≤ 9) (p : P (intsD (soonF 0 r)) m) : Calls c Fsoon [rowD r] m P := calls_tells r ⟨rfl, hl⟩ p
theorem call_stand (hl : r.length ≤ 8) (p : P (intsD (standF r t)) m) : Calls c Fstand [rowD r, .int t] m P := calls_tells (r, t) ⟨rfl, hl⟩ p
theorem call_told (hl : r.length ≤ 8) (p : P (.lst ((toldF r t).map whatD)) m) : Calls c Ftold [rowD r, .int t] m P := calls_tells (r, t) ⟨rfl, hl⟩ p
end

local macro_rules | `(tactic| walk_at "k") => `(tactic| first
  | ((with_reducible refine' call_stand ?h1 ?_); (case h1 => first | assumption | omega))
  | ((with_reducible refine' call_told ?h1 ?_); (case h1 => first | assumption | omega))
  | ((with_reducible refine' call_soon ?h1 ?_); (case h1 => first | assumption | omega)))

/-! ### the book -/
structure Bk where
  persons : Int
  cuts : List (List Int × Bool)
  keys : List (List Ent)
  doors : List (List Ent)
def cutD (x : List Int × Bool) : D := .tup [.tup (x.1.map .int), .bl x.2]
def bkNames : List Str := ["_persons", "_cuts", "_key_rows", "_door_rows"]
def bookD (C : Addr) (p : Int) (k : Nat) : D := .ins C bkNames [.int p, .hd (k + 1), .hd (k + 2), .hd (k + 3)]
structure IsBk (m : Store) (k : Nat) (B : Bk) : Prop where
  c1 : m[k + 1]? = some (.lst (B.cuts.map cutD))
  c2 : m[k + 2]? = some (.lst (B.keys.map rowD))
  c3 : m[k + 3]? = some (.lst (B.doors.map rowD))
def putBk (m : Store) (k : Nat) (B : Bk) : Store := ((m.set (k + 1) (.lst (B.cuts.map cutD))).set (k + 2) (.lst (B.keys.map rowD))).set (k + 3) (.lst (B.doors.map rowD))
/-- what holds of every book -/
structure BkOk (B : Bk) : Prop where
  p0 : 0 ≤ B.persons ∧ B.persons ≤ 8
  cl : B.cuts.length = B.keys.length
  kl : B.keys.length ≤ 6
  dl : B.doors.length ≤ 4
  kr : ∀ r ∈ B.keys, r.length ≤ 8
  dr : ∀ r ∈ B.doors, r.length ≤ 8
theorem set_id {α : Type} {l : List α} {i : Nat} {a : α} (h : l[i]? = some a) : l.set i a = l := by
  apply List.ext_getElem?
  intro j
  by_cases hj : j = i
  · subst hj
    rw [List.getElem?_set_self (List.getElem?_eq_some_iff.mp h).1, h]
  · rw [List.getElem?_set_ne (fun z => hj z.symm)]
theorem rows_hb (n : Nat) (l : List (List Ent)) : hbA n (l.map rowD) = true := by
  rw [hbA_all]
  intro d hd
  obtain ⟨r, _, rfl⟩ := List.mem_map.mp hd
  exact row_hb n r
theorem cuts_hb (n : Nat) (l : List (List Int × Bool)) : hbA n (l.map cutD) = true := by
  rw [hbA_all]
  intro d hd
  obtain ⟨r, _, rfl⟩ := List.mem_map.mp hd
  show (hbA n (r.1.map D.int) && (true && true)) = true
  rw [ints_hb]
  rfl
theorem book_hb {C : Addr} {p : Int} {k n : Nat} (h : k + 3 < n) : (bookD C p k).hb n = true := by
  show (true && (decide (k + 1 < n) && (decide (k + 2 < n) && (decide (k + 3 < n) && true)))) = true
  rw [decide_eq_true (by omega), decide_eq_true (by omega), decide_eq_true h]
  rfl
theorem wf_set {m : Store} {k : Nat} {c : Cell} (wf : Wf m) (h : c.hb m.length = true) : Wf (m.set k c) := fun x hx => by
  rw [List.length_set]
  rcases List.mem_or_eq_of_mem_set hx with h1 | h1
  · exact wf x h1
  · rw [h1]
    exact h
theorem wf_put {m : Store} {k : Nat} {B : Bk} (wf : Wf m) : Wf (putBk m k B) := by
  refine wf_set (wf_set (wf_set wf ?_) ?_) ?_
  · exact cuts_hb _ _
  · exact rows_hb _ _
  · exact rows_hb _ _
theorem put_len {m : Store} {k : Nat} {B : Bk} : (putBk m k B).length = m.length := by
  unfold putBk
  rw [List.length_set, List.length_set, List.length_set]
theorem fin_as {F : FSp} {g : F.G} {m m' : Store} {d : D} (hl : m.length ≤ m'.length) (wf : Wf m') (hd : d.hb m'.length = true) (p : F.post g m d m') : Fin F g m d m' :=
  .inl ⟨m', [], (List.append_nil m').symm, hl, wf, hd, p⟩
def Fkinds : FSp := tells 1 (List Int) (fun l ds => ds = [.tup (l.map .int)] ∧ l.Pairwise (· < ·) ∧ ∀ x ∈ l, 0 ≤ x ∧ x ≤ 9) fun _ => .bl true
theorem ok_kinds (T : Tx K mg) : FnOk P w K mg base CX0 1 T.a_are_kinds T.f_are_kinds ["opens"] (spD K Fkinds) := by
  refine ok0 T.F_are_kinds sc_are_kinds rfl (fun _ _ _ _ _ h => h) (fun cdv A outer s H E hr => ⟨_, pss_cons (ps_asg (pe_un un_neg (pe_int)) (pg_name (i := 1) sc_are_kinds.nd rfl (by first | exact Or.inl rfl | exact Or.inr rfl))) (pss_cons (ps_for PassesOwn.never rfl (pi_tupK (K := K) (pi_tup (pv 0))) (pg_name (i := 2) sc_are_kinds.nd rfl (by first | exact Or.inl rfl | exact Or.inr rfl)) (pss_cons (ps_if (pt_not (pt_chain op_lt op_le (pv 1) (pv 2) (pe_glob (v := .int (9)) rfl T.g_LAST_KIND ⟨_, rfl⟩))) (pss_one (ps_ret (pe_bl))) (pss_nil)) (pss_one (ps_asg (pv 2) (pg_name (i := 1) sc_are_kinds.nd rfl (by first | exact Or.inl rfl | exact Or.inr rfl)))))) (pss_one (ps_ret (pe_bl)))), ?_⟩)
  rintro (l : List Int) ds m ⟨rfl, hs, hb⟩ wf
  walk_at "go"
  refine ws_forT (f := .int) ?_
  walk_at "go"
  refine ⟨fun pre ρ' m' => m' = m ∧ ∃ x y, ρ' = [some (.tup (l.map .int)), some (.int x), y] ∧ x < 100 ∧ ∀ z, l = pre ++ z → ∀ a ∈ z, x < a, ⟨rfl, -1, none, rfl, by decide, fun z e a ha => ?_⟩, ?_, ?_⟩
  · have e' : l = z := e
    have := hb a (by rw [e']; exact ha)
    omega
  · rintro pre a post ρ' m' el ⟨rfl, x, y, rfl, hx, hz⟩
    have h1 := hz _ el a List.mem_cons_self
    have h2 := hb a (by rw [el]; simp)
    walk_at "go"
    refine ⟨fun _ => ?_, fun hh => absurd h1 (of_decide_eq_false hh)⟩
    walk_at "go"
    refine ⟨fun hh => ?_, fun _ => ?_⟩
    · rw [decide_eq_true h2.2] at hh
      cases hh
    · walk_at "go"
      refine ⟨rfl, a, some (.int a), rfl, by omega, fun z e b hbz => ?_⟩
      have es := el
      rw [e] at es
      have ez : z = post := by
        rw [List.append_assoc] at es
        have h3 := List.append_cancel_left es
        simpa using h3
      rw [ez] at hbz
      have hp := hs
      rw [el, List.pairwise_append] at hp
      exact (List.pairwise_cons.mp hp.2.1).1 b hbz
  · rintro ρ' m' ⟨rfl, x, y, rfl, hx, hz⟩
    walk_at "go"
    exact fin_same wf rfl ⟨rfl, rfl⟩
def Fmoment : FSp := tells 1 Int (fun t ds => ds = [.int t] ∧ 0 ≤ t ∧ t ≤ 999) fun _ => .non
theorem ok_moment (T : Tx K mg) : FnOk P w K mg base CX0 1 T.a_check_moment T.f_check_moment ["moment"] (spD K Fmoment) := by
  refine ok0 T.F_check_moment sc_check_moment rfl (fun _ _ _ _ _ h => h) (fun cdv A outer s H E hr => ⟨_, pss_one (ps_if (pt_not (pt_chain op_le op_le (pe_int) (pv 0) (pe_glob (v := .int (999)) rfl T.g_LAST_MOMENT ⟨_, rfl⟩))) (pss_one (ps_never)) (pss_nil)), ?_⟩)
  rintro (t : Int) ds m ⟨rfl, h0, h1⟩ wf
  walk_at "go"
  refine ⟨fun _ => ?_, fun hh => absurd h0 (of_decide_eq_false hh)⟩
  walk_at "go"
  refine ⟨fun hh => ?_, fun _ => ?_⟩
  · rw [decide_eq_true h1] at hh
    cases hh
  · walk_at "go"
    exact fin_same wf rfl ⟨rfl, rfl⟩
def Fplace : FSp := tells 2 (List Ent × Nat) (fun g ds => ds = [rowD g.1, .int g.2] ∧ g.2 ≤ g.1.length ∧ g.1.length < 8) fun _ => .non
theorem ok_place (T : Tx K mg) : FnOk P w K mg base CX0 1 T.a_check_place T.f_check_place ["row", "place"] (spD K Fplace) := by
  refine ok0 T.F_check_place sc_check_place rfl (fun _ _ _ _ _ h => h) (fun cdv A outer s H E hr => ⟨_, pss_cons (ps_if (pt_not (pt_chain op_le op_le (pe_int) (pv 1) (pe_callB (call_lenK (K := K)) (by rfl) T.n_len (by decide +kernel) (pa_cons (pv 0) (pa_nil))))) (pss_one (ps_never)) (pss_nil)) (pss_one (ps_if (pt_cmpR op_ge (pe_callB (call_lenK (K := K)) (by rfl) T.n_len (by decide +kernel) (pa_cons (pv 0) (pa_nil))) (pe_glob (v := .int (8)) rfl T.g_MOST_ENTRIES ⟨_, rfl⟩) (nomark _)) (pss_one (ps_never)) (pss_nil))), ?_⟩)
  rintro ⟨r, p⟩ ds m ⟨rfl, h0, h1⟩ wf
  dsimp only at h0 h1
  try dsimp only
  walk_at "go"
  refine ⟨fun _ => ?_, fun hh => absurd (Int.natCast_nonneg p) (of_decide_eq_false hh)⟩
  walk_at "go"
  refine ⟨fun hh => ?_, fun _ => ?_⟩
  · rw [List.length_map, decide_eq_true (by omega)] at hh
    cases hh
  · walk_at "go"
    refine ⟨fun hh => ?_, fun _ => ?_⟩
    · have := of_decide_eq_true hh
      rw [List.length_map] at this
      omega
    · walk_at "go"
      exact fin_same wf rfl ⟨rfl, rfl⟩

/-- ghosts of a method: where the book lies, what it holds, its number asked -/
structure Gm where
  k : Nat
  B : Bk
  i : Nat
  e : Ent := (none, 0, 0)
  p : Nat := 0
  t : Int := 0
def Gm.pre (g : Gm) (m : Store) : Prop := IsBk m g.k g.B ∧ BkOk g.B ∧ g.k + 3 < m.length
def rowAt (l : List (List Ent)) (i : Nat) : List Ent := l.getD i []
theorem rowAt_get {l : List (List Ent)} {i : Nat} (h : i < l.length) : (l.map rowD)[i]? = some (rowD (rowAt l i)) := by
  unfold rowAt
  rw [List.getElem?_map, List.getElem?_eq_getElem h, List.getD_eq_getElem?_getD, List.getElem?_eq_getElem h]
  rfl
theorem rowAt_mem {l : List (List Ent)} {i : Nat} (h : i < l.length) : rowAt l i ∈ l := by
  unfold rowAt
  rw [List.getD_eq_getElem?_getD, List.getElem?_eq_getElem h]
  exact List.getElem_mem h
def Fkeyrow (C : Addr) : FSp where
  ar := 2
  G := Gm
  pre := fun g ds m => ds = [bookD C g.B.persons g.k, .int g.i] ∧ g.pre m ∧ g.i < g.B.keys.length
  post := fun g m d m' => d = rowD (rowAt g.B.keys g.i) ∧ m' = m
theorem ok_keyrow (T : Tx K mg) : FnOk P w K mg base CX0 1 T.a_Book__key_row T.f_Book__key_row ["self", "name"] (spD K (Fkeyrow T.C_Book)) := by
  refine ok0 T.F_Book__key_row sc_Book__key_row rfl (fun _ _ _ _ _ h => h) (fun cdv A outer s H E hr => ⟨_, pss_cons (ps_if (pt_not (pt_chain op_le op_lt (pe_int) (pv 1) (pe_callB (call_lenK (K := K)) (by rfl) T.n_len (by decide +kernel) (pa_cons (pe_fldK (K := K) (pe_fld (pv 0) rfl)) (pa_nil))))) (pss_one (ps_never)) (pss_nil)) (pss_one (ps_ret (pe_ix (ix_seqK (K := K)) (pe_fldK (K := K) (pe_fld (pv 0) rfl)) (pv 1) (fun _ _ => rfl)))), ?_⟩)
  rintro ⟨k, B, i, e, p, t⟩ ds m ⟨rfl, ⟨hB, hO, hk⟩, hi⟩ wf
  dsimp only at hB hO hk hi
  obtain ⟨c1, c2, c3⟩ := hB
  try dsimp only
  walk_at "go"
  refine ⟨fun _ => ?_, fun hh => absurd (Int.natCast_nonneg i) (of_decide_eq_false hh)⟩
  walk_at "go"
  refine we_fld ?_
  walk_at "go"
  refine ⟨_, _, _, _, rfl, T.cl_Book, T.na_Book__key_rows, rfl, ?_⟩
  walk_at "go"
  refine ⟨fun hh => ?_, fun _ => ?_⟩
  · rw [List.length_map, decide_eq_true (by omega)] at hh
    cases hh
  walk_at "go"
  refine we_fld ?_
  walk_at "go"
  refine ⟨_, _, _, _, rfl, T.cl_Book, T.na_Book__key_rows, rfl, ?_⟩
  walk_at "go"
  refine wr_ix (lstAt_of c2) (at_nat (rowAt_get hi)) ?_
  exact fin_same wf (row_hb _ _) ⟨rfl, rfl⟩
def Fdoorrow (C : Addr) : FSp where
  ar := 2
  G := Gm
  pre := fun g ds m => ds = [bookD C g.B.persons g.k, .int g.i] ∧ g.pre m ∧ g.i < g.B.doors.length
  post := fun g m d m' => d = rowD (rowAt g.B.doors g.i) ∧ m' = m
theorem ok_doorrow (T : Tx K mg) : FnOk P w K mg base CX0 1 T.a_Book__door_row T.f_Book__door_row ["self", "door"] (spD K (Fdoorrow T.C_Book)) := by
  refine ok0 T.F_Book__door_row sc_Book__door_row rfl (fun _ _ _ _ _ h => h) (fun cdv A outer s H E hr => ⟨_, pss_cons (ps_if (pt_not (pt_chain op_le op_lt (pe_int) (pv 1) (pe_callB (call_lenK (K := K)) (by rfl) T.n_len (by decide +kernel) (pa_cons (pe_fldK (K := K) (pe_fld (pv 0) rfl)) (pa_nil))))) (pss_one (ps_never)) (pss_nil)) (pss_one (ps_ret (pe_ix (ix_seqK (K := K)) (pe_fldK (K := K) (pe_fld (pv 0) rfl)) (pv 1) (fun _ _ => rfl)))), ?_⟩)
  rintro ⟨k, B, i, e, p, t⟩ ds m ⟨rfl, ⟨hB, hO, hk⟩, hi⟩ wf
  dsimp only at hB hO hk hi
  obtain ⟨c1, c2, c3⟩ := hB
  try dsimp only
  walk_at "go"
  refine ⟨fun _ => ?_, fun hh => absurd (Int.natCast_nonneg i) (of_decide_eq_false hh)⟩
  walk_at "go"
  refine we_fld ?_
  walk_at "go"
  refine ⟨_, _, _, _, rfl, T.cl_Book, T.na_Book__door_rows, rfl, ?_⟩
  walk_at "go"
  refine ⟨fun hh => ?_, fun _ => ?_⟩
  · rw [List.length_map, decide_eq_true (by omega)] at hh
    cases hh
  walk_at "go"
  refine we_fld ?_
  walk_at "go"
  refine ⟨_, _, _, _, rfl, T.cl_Book, T.na_Book__door_rows, rfl, ?_⟩
  walk_at "go"
  refine wr_ix (lstAt_of c3) (at_nat (rowAt_get hi)) ?_
  exact fin_same wf (row_hb _ _) ⟨rfl, rfl⟩
def Fentries (C : Addr) : FSp where
  ar := 2
  G := Gm
  pre := fun g ds m => ds = [bookD C g.B.persons g.k, .int g.i] ∧ g.pre m ∧ g.i < g.B.keys.length
  post := fun g m d m' => d = .hd m.length ∧ m' = m ++ [.lst ((rowAt g.B.keys g.i).map entD)]
theorem ok_entries (T : Tx K mg) : FnOk P w K mg base CX0 2 T.a_Book_entries T.f_Book_entries ["self", "name"] (spD K (Fentries T.C_Book)) := by
  have G_Book__key_row := ok_keyrow (P := P) (w := w) (base := base) T
  refine ok0 T.F_Book_entries sc_Book_entries rfl (fun _ _ _ _ _ h => h) (fun cdv A outer s H E hr => ⟨_, pss_one (ps_ret (pe_callTy (call_listK (K := K)) (by rfl) T.n_list (by decide +kernel) (pa_cons (pe_meth (pv 0) T.cl_Book T.m_Book__key_row G_Book__key_row (hr.mono (by first | decide | omega)) T.b_Book__key_row .nil pass0 (pa_cons (pv 1) (pa_nil))) (pa_nil)))), ?_⟩)
  rintro ⟨k, B, i, e, p, t⟩ ds m ⟨rfl, hB, hi⟩ wf
  dsimp only at hB hi
  try dsimp only
  walk_at "go"
  refine we_meth ?_
  walk_at "go"
  refine ⟨_, _, rfl, by decide, ?_⟩
  walk_at "go"
  refine ⟨rfl, ⟨k, B, i, e, p, t⟩, ⟨rfl, hB, hi⟩, fun d m2 ⟨ed, em⟩ => ?_, fun _ _ _ h => h.elim⟩
  subst ed
  subst em
  walk_at "go"
  refine wc_listMK rfl ?_
  exact fin_cell wf (row_hb _ _) ⟨rfl, rfl⟩
def Ffitted (C : Addr) : FSp where
  ar := 2
  G := Gm
  pre := fun g ds m => ds = [bookD C g.B.persons g.k, .int g.i] ∧ g.pre m ∧ g.i < g.B.doors.length
  post := fun g m d m' => d = .hd m.length ∧ m' = m ++ [.lst ((rowAt g.B.doors g.i).map entD)]
theorem ok_fitted (T : Tx K mg) : FnOk P w K mg base CX0 2 T.a_Book_fitted T.f_Book_fitted ["self", "door"] (spD K (Ffitted T.C_Book)) := by
  have G_Book__door_row := ok_doorrow (P := P) (w := w) (base := base) T
  refine ok0 T.F_Book_fitted sc_Book_fitted rfl (fun _ _ _ _ _ h => h) (fun cdv A outer s H E hr => ⟨_, pss_one (ps_ret (pe_callTy (call_listK (K := K)) (by rfl) T.n_list (by decide +kernel) (pa_cons (pe_meth (pv 0) T.cl_Book T.m_Book__door_row G_Book__door_row (hr.mono (by first | decide | omega)) T.b_Book__door_row .nil pass0 (pa_cons (pv 1) (pa_nil))) (pa_nil)))), ?_⟩)
  rintro ⟨k, B, i, e, p, t⟩ ds m ⟨rfl, hB, hi⟩ wf
  dsimp only at hB hi
  try dsimp only
  walk_at "go"
  refine we_meth ?_
  walk_at "go"
  refine ⟨_, _, rfl, by decide, ?_⟩
  walk_at "go"
  refine ⟨rfl, ⟨k, B, i, e, p, t⟩, ⟨rfl, hB, hi⟩, fun d m2 ⟨ed, em⟩ => ?_, fun _ _ _ h => h.elim⟩
  subst ed
  subst em
  walk_at "go"
  refine wc_listMK rfl ?_
  exact fin_cell wf (row_hb _ _) ⟨rfl, rfl⟩

/-- a book stands at k -/
structure HasBk (m : Store) (k : Nat) (B : Bk) : Prop where
  bk : IsBk m k B
  ok : BkOk B
theorem HasBk.lt {m : Store} {k : Nat} {B : Bk} (h : HasBk m k B) : k + 3 < m.length := (List.getElem?_eq_some_iff.mp h.bk.c3).1
theorem HasBk.app {m j : Store} {k : Nat} {B : Bk} (h : HasBk m k B) : HasBk (m ++ j) k B := ⟨⟨Grow.app _ _ _ _ h.bk.c1, Grow.app _ _ _ _ h.bk.c2, Grow.app _ _ _ _ h.bk.c3⟩, h.ok⟩
theorem HasBk.grow {m m' : Store} {k : Nat} {B : Bk} (h : HasBk m k B) (g : Grow m m') : HasBk m' k B := ⟨⟨g _ _ h.bk.c1, g _ _ h.bk.c2, g _ _ h.bk.c3⟩, h.ok⟩
theorem HasBk.set {m : Store} {k i : Nat} {c : Cell} {B : Bk} (h : HasBk m k B) (hi : i < k + 1 ∨ k + 3 < i) : HasBk (m.set i c) k B := ⟨⟨by rw [List.getElem?_set_ne (by omega)]; exact h.bk.c1, by rw [List.getElem?_set_ne (by omega)]; exact h.bk.c2, by rw [List.getElem?_set_ne (by omega)]; exact h.bk.c3⟩, h.ok⟩
theorem HasBk.pre {m : Store} {k : Nat} {B : Bk} (h : HasBk m k B) {i : Nat} {e : Ent} {p : Nat} {t : Int} : Gm.pre ⟨k, B, i, e, p, t⟩ m := ⟨h.bk, h.ok, h.lt⟩
def Feverybody (C : Addr) : FSp where
  ar := 1
  G := Nat × Bk
  pre := fun g ds m => ds = [bookD C g.2.persons g.1] ∧ HasBk m g.1 g.2
  post := fun g m d m' => d = .hd m.length ∧ m' = m ++ [.lst ((KR.upTo g.2.persons).map .int)]
theorem ok_everybody (T : Tx K mg) : FnOk P w K mg base CX0 1 T.a_Book_everybody T.f_Book_everybody ["self"] (spD K (Feverybody T.C_Book)) := by
  refine ok0 T.F_Book_everybody sc_Book_everybody rfl (fun _ _ _ _ _ h => h) (fun cdv A outer s H E hr => ⟨_, pss_one (ps_ret (pe_listRg rfl rfl T.n_list (prg_1 rfl T.n_range (pe_fldK (K := K) (pe_fld (pv 0) rfl))))), ?_⟩)
  rintro ⟨k, B⟩ ds m ⟨rfl, hB⟩ wf
  have hp := hB.ok.p0
  dsimp only at hp
  try dsimp only
  walk_at "go"
  refine we_lstRgM ?_
  refine we_fld ?_
  walk_at "go"
  refine ⟨_, _, _, _, rfl, T.cl_Book, T.na_Book__persons, rfl, ?_⟩
  refine ⟨_, rfl, by omega, ?_⟩
  exact fin_cell wf (ints_hb _ _) ⟨rfl, rfl⟩
def Fcuts (C : Addr) : FSp where
  ar := 1
  G := Nat × Bk
  pre := fun g ds m => ds = [bookD C g.2.persons g.1] ∧ HasBk m g.1 g.2
  post := fun g m d m' => d = .hd m.length ∧ m' = m ++ [.lst (g.2.cuts.map cutD)]
theorem ok_cuts (T : Tx K mg) : FnOk P w K mg base CX0 1 T.a_Book_cuts T.f_Book_cuts ["self"] (spD K (Fcuts T.C_Book)) := by
  refine ok0 T.F_Book_cuts sc_Book_cuts rfl (fun _ _ _ _ _ h => h) (fun cdv A outer s H E hr => ⟨_, pss_one (ps_ret (pe_callTy (call_listK (K := K)) (by rfl) T.n_list (by decide +kernel) (pa_cons (pe_fldK (K := K) (pe_fld (pv 0) rfl)) (pa_nil)))), ?_⟩)
  rintro ⟨k, B⟩ ds m ⟨rfl, hB⟩ wf
  dsimp only at hB
  try dsimp only
  walk_at "go"
  refine we_fld ?_
  walk_at "go"
  refine ⟨_, _, _, _, rfl, T.cl_Book, T.na_Book__cuts, rfl, ?_⟩
  walk_at "go"
  refine wc_listMK (lstAt_of hB.bk.c1) ?_
  exact fin_cell wf (cuts_hb _ _) ⟨rfl, rfl⟩
def Fperson (C : Addr) : FSp where
  ar := 2
  G := Nat × Bk × Int
  pre := fun g ds m => ds = [bookD C g.2.1.persons g.1, .int g.2.2] ∧ 0 ≤ g.2.2 ∧ g.2.2 < g.2.1.persons
  post := fun g m d m' => d = .non ∧ m' = m
theorem ok_person (T : Tx K mg) : FnOk P w K mg base CX0 1 T.a_Book_check_person T.f_Book_check_person ["self", "person"] (spD K (Fperson T.C_Book)) := by
  refine ok0 T.F_Book_check_person sc_Book_check_person rfl (fun _ _ _ _ _ h => h) (fun cdv A outer s H E hr => ⟨_, pss_one (ps_if (pt_not (pt_chain op_le op_lt (pe_int) (pv 1) (pe_fldK (K := K) (pe_fld (pv 0) rfl)))) (pss_one (ps_never)) (pss_nil)), ?_⟩)
  rintro ⟨k, B, x⟩ ds m ⟨rfl, h0, h1⟩ wf
  dsimp only at h0 h1
  try dsimp only
  walk_at "go"
  refine ⟨fun _ => ?_, fun hh => absurd h0 (of_decide_eq_false hh)⟩
  walk_at "go"
  refine we_fld ?_
  walk_at "go"
  refine ⟨_, _, _, _, rfl, T.cl_Book, T.na_Book__persons, rfl, ?_⟩
  walk_at "go"
  refine ⟨fun hh => ?_, fun _ => ?_⟩
  · rw [decide_eq_true h1] at hh
    cases hh
  · walk_at "go"
    exact fin_same wf rfl ⟨rfl, rfl⟩

/-! ### what may be refused: a row that is full, an entry that cannot be begun -/
def FplaceX (C : Addr) : FSp where
  ar := 2
  G := List Ent × Nat
  pre := fun g ds _ => ds = [rowD g.1, .int g.2] ∧ g.2 ≤ g.1.length ∧ g.1.length ≤ 8
  post := fun g m d m' => d = .non ∧ m' = m ∧ g.1.length < 8
  exc := fun g m cls oi m' => cls = .ref C ∧ oi = none ∧ m' = m ∧ g.1.length = 8
theorem ok_placeX (T : Tx K mg) : FnOk P w K mg base (L2.CX P w) 1 T.a_check_place T.f_check_place ["row", "place"] (spD K (FplaceX T.C_BadPlace)) := by
  refine okx T.F_check_place sc_check_place rfl (fun cdv A outer s H E hr => ⟨_, pss_cons (ps_if (pt_not (pt_chain op_le op_le (pe_int) (pv 1) (pe_callB (call_lenK (K := K)) (by rfl) T.n_len (by decide +kernel) (pa_cons (pv 0) (pa_nil))))) (pss_one (ps_never)) (pss_nil)) (pss_one (ps_if (pt_cmpR op_ge (pe_callB (call_lenK (K := K)) (by rfl) T.n_len (by decide +kernel) (pa_cons (pv 0) (pa_nil))) (pe_glob (v := .int (8)) rfl T.g_MOST_ENTRIES ⟨_, rfl⟩) (nomark _)) (pss_one (ps_raise rfl (takes_of rfl rfl rfl rfl) (pmk_args PySem.F.excBase_ValueError T.x_BadPlace T.c_BadPlace T.kc_BadPlace (raises_own T.sb_BadPlace T.ty_BadPlace) rfl (pa_cons (pe_joined (.cons (pe_str) (.cons (pe_fmt (pe_glob (v := .int (8)) rfl T.g_MOST_ENTRIES ⟨_, rfl⟩)) (.cons (pe_str) (.nil))))) (pa_nil))))) (pss_nil))), ?_⟩)
  rintro ⟨r, p⟩ ds m ⟨rfl, h0, h1⟩ wf
  dsimp only at h0 h1
  try dsimp only
  walk_at "go"
  refine ⟨fun _ => ?_, fun hh => absurd (Int.natCast_nonneg p) (of_decide_eq_false hh)⟩
  walk_at "go"
  refine ⟨fun hh => ?_, fun _ => ?_⟩
  · rw [List.length_map, decide_eq_true (by omega)] at hh
    cases hh
  · walk_at "go"
    refine ⟨fun hh => ?_, fun hh => ?_⟩
    · have := of_decide_eq_true hh
      rw [List.length_map] at this
      refine ws_raiseA (wa_cons (we_joined (wj_cons (we_str ⟨_, rfl, by decide +kernel, wj_cons (we_fmtI (we_c _ (fun _ _ => .int _) ⟨_, rfl, by decide +kernel, ⟨_, rfl, by decide +kernel, wj_cons (we_str ⟨_, rfl, by decide +kernel, wj_nil (wa_nil ?_)⟩)⟩⟩))⟩))))
      exact ⟨by show 1 ≤ 1000; omega, finx_same wf (fun _ _ h => by cases h) ⟨rfl, rfl, rfl, by show r.length = 8; omega⟩⟩
    · have := of_decide_eq_false hh
      rw [List.length_map] at this
      walk_at "go"
      exact fin_same wf rfl ⟨rfl, rfl, by show r.length < 8; omega⟩
theorem ok_timesInit (T : Tx K mg) : FnOk P w K mg base CX0 1 T.a_BadTimes_init T.f_BadTimes_init ["self", "place"] (spKeep T.C_BadTimes "place") := by
  refine T.F_BadTimes_init.ok sc_BadTimes_init (fun vs H Q E h => ?_) fun cdv A outer s H vs Q E hr h => ⟨_, pss_cons (ps_expr (pe_baseinit rfl T.c_KeyrollError T.sp_KeyrollError T.rd_KeyrollError T.vi_KeyrollError (pa_cons (pv 0) (pa_cons (pe_joined (.cons (pe_str) (.cons (pe_fmt (pv 1)) (.cons (pe_str) (.nil))))) (pa_nil))))) (pss_one (ps_ost (f := "place") (pv 0) (pv 1) rfl)), ?_⟩
  · obtain ⟨a, i, rfl, _⟩ := h
    rfl
  · obtain ⟨a, i, rfl, hi, ha, q⟩ := h
    obtain ⟨n, rfl⟩ : ∃ n : Nat, i = n := ⟨i.toNat, by omega⟩
    have hn : n < 101 := by omega
    have k1 : ∀ n : Fin 101, ((Str.empty ++ ("the entry at place " : Str)) ++ Str.ofString (toString ((n.1 : Nat) : Int))).length ≤ sizeLine := by decide +kernel
    have k2 : ∀ n : Fin 101, (((Str.empty ++ ("the entry at place " : Str)) ++ Str.ofString (toString ((n.1 : Nat) : Int))) ++ (" cannot be begun" : Str)).length ≤ sizeLine := by decide +kernel
    have k3 : ∀ n : Fin 101, ((n.1 : Nat) : Int).natAbs.log2 < 1920 := by decide +kernel
    refine ⟨_, rfl, _, rfl, by decide +kernel, _, rfl, .inr ⟨_, rfl, k3 ⟨n, hn⟩, _, rfl, k1 ⟨n, hn⟩, _, rfl, k2 ⟨n, hn⟩, a, T.C_BadTimes, _, rfl, by show 1 ≤ 1000; omega, T.o_BadTimes, ha, ?_⟩⟩
    exact ⟨_, rfl, _, rfl, a, T.C_BadTimes, rfl, T.o_BadTimes, T.nf_BadTimes, .inl ⟨ha, fun dx n ne => q dx n ne⟩⟩
def FrowX (C : Addr) : FSp where
  ar := 3
  G := List Ent × Nat × Ent
  pre := fun g ds _ => ds = [rowD g.1, .int g.2.1, entD g.2.2] ∧ g.2.1 ≤ g.1.length ∧ g.1.length ≤ 8 ∧ 0 ≤ g.2.2.2.1 ∧ g.2.2.2.2 ≤ 999 ∧ g.2.2.2.1 ≤ g.2.2.2.2
  post := fun g m d m' => d = rowD (putIn g.1 g.2.1 g.2.2) ∧ m' = m ∧ stuckF (putIn g.1 g.2.1 g.2.2) = none
  exc := fun g m cls oi m' => cls = .ref C ∧ m' = m ∧ ∃ i : Nat, oi = some (("place" : Str), D.int i) ∧ stuckF (putIn g.1 g.2.1 g.2.2) = some i
theorem stuck_lt : ∀ {l : List Ent} {r : Int} {i j : Nat}, stuckG r i l = some j → j < i + l.length
  | [], _, _, _, h => by cases h
  | e :: es, r, i, j, h => by
    have h : (if mx r e.2.1 > e.2.2 then some i else stuckG (mx r e.2.1) (i + 1) es) = some j := h
    rw [List.length_cons]
    split at h
    · have := Option.some.inj h
      omega
    · have := stuck_lt h
      omega
theorem ok_rowX (T : Tx K mg) : FnOk P w K mg base (L2.CX P w) 3 T.a_row_with T.f_row_with ["row", "place", "entry"] (spD K (FrowX T.C_BadTimes)) := by
  have G_first_stuck := ok_stuck (P := P) (w := w) (base := base) T
  have G_BadTimes_init := ok_timesInit (P := P) (w := w) (base := base) T
  refine okx T.F_row_with sc_row_with rfl (fun cdv A outer s H E hr => ⟨_, pss_cons (ps_asg (pv 2) (pg_tupK (K := K) (n := 3) (pg_tup (n := 3) rfl (pgs_cons (pg_name (i := 3) sc_row_with.nd rfl (by first | exact Or.inl rfl | exact Or.inr rfl)) (pgs_cons (pg_name (i := 4) sc_row_with.nd rfl (by first | exact Or.inl rfl | exact Or.inr rfl)) (pgs_cons (pg_name (i := 5) sc_row_with.nd rfl (by first | exact Or.inl rfl | exact Or.inr rfl)) (pgs_nil))))))) (pss_cons (ps_if (PW.pt (pw_or (pt_cmpR op_lt (pv 4) (pe_int) (nomark _)) (pw_or (pt_cmpR op_gt (pv 5) (pe_glob (v := .int (999)) rfl T.g_LAST_MOMENT ⟨_, rfl⟩) (nomark _)) (pw_or1 (pt_cmpR op_lt (pv 5) (pv 4) (nomark _)))))) (pss_one (ps_never)) (pss_nil)) (pss_cons (ps_asg (pe_op op_cat (pe_op op_cat (pe_slice (sl_listK (K := K)) (pv 0) po_none (po_some (pv 1))) (pe_lst (pa_cons (pv 2) (pa_nil)))) (pe_slice (sl_listK (K := K)) (pv 0) (po_some (pv 1)) po_none)) (pg_name (i := 6) sc_row_with.nd rfl (by first | exact Or.inl rfl | exact Or.inr rfl))) (pss_cons (ps_asg (pe_call G_first_stuck (hr.mono (by first | decide | omega)) rfl T.g_first_stuck T.k_first_stuck T.b_first_stuck .nil pass0 (pa_cons (pv 6) (pa_nil))) (pg_name (i := 7) sc_row_with.nd rfl (by first | exact Or.inl rfl | exact Or.inr rfl))) (pss_cons (ps_if (pt_cmp (pc_notN (pv 7)) rfl) (pss_one (ps_raise rfl (takes_of rfl rfl rfl rfl) (pmk_oex (k := 1) T.o_BadTimes T.i_BadTimes T.ti_BadTimes G_BadTimes_init (hr.mono (by first | decide | omega)) T.b_BadTimes_init .nil (fun _ _ _ _ _ _ _ h => h.elim) rfl T.c_BadTimes (pa_cons (pv 7) (pa_nil))))) (pss_nil)) (pss_one (ps_ret (pv 6))))))), ?_⟩)
  rintro ⟨r, p, e⟩ ds m ⟨rfl, hp, hl, h0, h1, h2⟩ wf
  dsimp only at hp hl h0 h1 h2
  try dsimp only
  walk_at "go"
  refine wg_tup rfl ?_
  walk_at "go"
  refine ⟨fun hb => absurd (of_decide_eq_true hb) (by omega), fun _ => ?_⟩
  walk_at "go"
  refine ⟨fun hb => absurd (of_decide_eq_true hb) (by omega), fun _ => ?_⟩
  walk_at "go"
  refine ⟨fun hb => absurd (of_decide_eq_true hb) (by omega), fun _ => ?_⟩
  walk_at "go"
  refine wsl_list rfl ?_
  rw [cut_to (by rw [List.length_map]; exact hp)]
  walk_at "go"
  refine we_lst ?_
  walk_at "go"
  refine wr_cat rfl rfl (by rw [List.length_take, List.length_map]; simp; omega) ?_
  walk_at "go"
  refine wsl_list rfl ?_
  rw [cut_from (by rw [List.length_map]; exact hp)]
  walk_at "go"
  refine wr_cat rfl rfl (by simp; omega) ?_
  have er : D.lst ((r.map entD).take p ++ [entD e] ++ (r.map entD).drop p) = rowD (putIn r p e) := by
    unfold rowD putIn
    rw [List.map_append, List.map_append, List.map_take, List.map_drop]
    rfl
  rw [er]
  walk_at "go"
  refine we_call0 ?_
  walk_at "go"
  refine calls_tells (putIn r p e) ⟨rfl, by rw [putIn_len hp]; omega⟩ ?_
  cases hst : stuckF (putIn r p e) with
  | none =>
    walk_at "go"
    refine ⟨fun hb => (by cases hb), fun _ => ?_⟩
    walk_at "go"
    exact fin_same wf (row_hb _ _) ⟨rfl, rfl, hst⟩
  | some i =>
    have hi := stuck_lt hst
    rw [putIn_len hp] at hi
    walk_at "go"
    refine ⟨fun _ => ?_, fun hb => (by cases hb)⟩
    refine ws_raiseO (wa_cons (we_var rfl (wa_nil ?_)))
    exact ⟨(i : Int), rfl, ⟨by omega, by omega⟩, finx_same wf (fun f x h => by cases h; rfl) ⟨rfl, rfl, i, rfl, hst⟩⟩

theorem put_keys {m : Store} {k : Nat} {B : Bk} {ks : List (List Ent)} (hB : IsBk m k B) : m.set (k + 2) (.lst (ks.map rowD)) = putBk m k { B with keys := ks } := by
  unfold putBk
  rw [set_id hB.c1]
  symm
  apply set_id
  rw [List.getElem?_set_ne (by omega)]
  exact hB.c3
theorem put_doors {m : Store} {k : Nat} {B : Bk} {ks : List (List Ent)} (hB : IsBk m k B) : m.set (k + 3) (.lst (ks.map rowD)) = putBk m k { B with doors := ks } := by
  unfold putBk
  rw [set_id hB.c1, set_id hB.c2]
theorem map_setRow (l : List (List Ent)) (i : Nat) (r : List Ent) : (l.map rowD).set i (rowD r) = (l.set i r).map rowD := (List.map_set ..).symm
/-- what an entry's times are to be -/
def EntOk (e : Ent) : Prop := 0 ≤ e.2.1 ∧ e.2.2 ≤ 999 ∧ e.2.1 ≤ e.2.2
def Fhand (C : Addr) : FSp where
  ar := 6
  G := Gm
  pre := fun g ds m => ds = [bookD C g.B.persons g.k, .int g.i, .int g.p, whatD g.e.1, .int g.e.2.1, .int g.e.2.2] ∧ g.pre m ∧ g.i < g.B.keys.length ∧ g.p ≤ (rowAt g.B.keys g.i).length ∧ (rowAt g.B.keys g.i).length < 8 ∧
    (∀ x, g.e.1 = some x → 0 ≤ x ∧ x < g.B.persons) ∧ EntOk g.e ∧ stuckF (putIn (rowAt g.B.keys g.i) g.p g.e) = none
  post := fun g m d m' => d = .non ∧ m' = putBk m g.k { g.B with keys := g.B.keys.set g.i (putIn (rowAt g.B.keys g.i) g.p g.e) }
theorem ok_hand (T : Tx K mg) : FnOk P w K mg base CX0 4 T.a_Book_hand T.f_Book_hand ["self", "name", "place", "person", "early", "late"] (spD K (Fhand T.C_Book)) := by
  have G_Book__key_row := ok_keyrow (P := P) (w := w) (base := base) T
  have G_check_place := ok_place (P := P) (w := w) (base := base) T
  have G_row_with := ok_row (P := P) (w := w) (base := base) T
  have G_Book_check_person := ok_person (P := P) (w := w) (base := base) T
  refine ok0 T.F_Book_hand sc_Book_hand rfl (fun _ _ _ _ _ h => h) (fun cdv A outer s H E hr => ⟨_, pss_cons (ps_asg (pe_meth (pv 0) T.cl_Book T.m_Book__key_row G_Book__key_row (hr.mono (by first | decide | omega)) T.b_Book__key_row .nil pass0 (pa_cons (pv 1) (pa_nil))) (pg_name (i := 6) sc_Book_hand.nd rfl (by first | exact Or.inl rfl | exact Or.inr rfl))) (pss_cons (ps_expr (pe_call G_check_place (hr.mono (by first | decide | omega)) rfl T.g_check_place T.k_check_place T.b_check_place .nil pass0 (pa_cons (pv 6) (pa_cons (pv 2) (pa_nil))))) (pss_cons (ps_if (pt_cmp (pc_notN (pv 3)) rfl) (pss_one (ps_expr (pe_meth (pv 0) T.cl_Book T.m_Book_check_person G_Book_check_person (hr.mono (by first | decide | omega)) T.b_Book_check_person .nil pass0 (pa_cons (pv 3) (pa_nil))))) (pss_nil)) (pss_one (ps_asg (pe_call G_row_with (hr.mono (by first | decide | omega)) rfl T.g_row_with T.k_row_with T.b_row_with .nil pass0 (pa_cons (pv 6) (pa_cons (pv 2) (pa_cons (pe_tup (pa_cons (pv 3) (pa_cons (pv 4) (pa_cons (pv 5) (pa_nil))))) (pa_nil))))) (pg_sub (pe_fldK (K := K) (pe_fld (pv 0) rfl)) (pv 1) set_list))))), ?_⟩)
  rintro ⟨k, B, i, e, p, t⟩ ds m ⟨rfl, hB, hi, hp, hl, hw, hE, hst⟩ wf
  dsimp only at hB hi hp hl hw hE hst
  try dsimp only
  walk_at "go"
  refine we_meth ?_
  walk_at "go"
  refine ⟨_, _, rfl, by decide, ?_⟩
  walk_at "go"
  refine ⟨rfl, ⟨k, B, i, e, p, t⟩, ⟨rfl, hB, hi⟩, fun d m2 ⟨ed, em⟩ => ?_, fun _ _ _ h => h.elim⟩
  subst ed
  subst em
  walk_at "go"
  refine calls_tells (rowAt B.keys i, p) ⟨rfl, hp, hl⟩ ?_
  walk_at "go"
  have last : KR.WS (C0 K) (tAsg (tCall (spD K Frow) [] E0 (tCons (tVar 6) (tCons (tVar 2) (tCons (tTup (tCons (tVar 3) (tCons (tVar 4) (tCons (tVar 5) tNil)))) tNil)))) (gSub (tFld K (tVar 0) "_key_rows") (tVar 1) rSetL))
      ((startD ["self", "name", "place", "person", "early", "late", "row"] [bookD T.C_Book B.persons k, .int i, .int p, whatD e.1, .int e.2.1, .int e.2.2]).set 6 (some (rowD (rowAt B.keys i)))) m2
      { nx := fun _ m' => KR.Fin (Fhand T.C_Book) ⟨k, B, i, e, p, t⟩ m2 .non m', rt := KR.Fin (Fhand T.C_Book) ⟨k, B, i, e, p, t⟩ m2 } := by
    walk_at "go"
    refine calls_tells (rowAt B.keys i, p, e) ⟨rfl, hp, by dsimp only; omega, hE.1, hE.2.1, hE.2.2, hst⟩ ?_
    walk_at "go"
    refine we_fld ?_
    walk_at "go"
    refine ⟨_, _, _, _, rfl, T.cl_Book, T.na_Book__key_rows, rfl, ?_⟩
    walk_at "go"
    refine ⟨k + 2, _, (i : Int), i, rfl, rfl, hB.1.c2, ixN_nat (by rw [List.length_map]; exact hi), ?_⟩
    rw [map_setRow, put_keys hB.1]
    exact fin_as (by rw [put_len]; exact Nat.le_refl _) (wf_put wf) rfl ⟨rfl, rfl⟩
  refine ⟨fun hn => ?_, fun _ => ?_⟩
  · obtain ⟨ow, e2⟩ := e
    cases ow with
    | none => cases hn
    | some x =>
      have hx := hw x rfl
      dsimp only [whatD]
      walk_at "go"
      refine we_meth ?_
      walk_at "go"
      refine ⟨_, _, rfl, by decide, ?_⟩
      walk_at "go"
      refine ⟨rfl, (k, B, x), ⟨rfl, hx.1, hx.2⟩, fun d m3 ⟨ed, em⟩ => ?_, fun _ _ _ h => h.elim⟩
      subst em
      exact last
  · walk_at "v"
    exact last
def Ffit (C : Addr) : FSp where
  ar := 6
  G := Gm
  pre := fun g ds m => ds = [bookD C g.B.persons g.k, .int g.i, .int g.p, whatD g.e.1, .int g.e.2.1, .int g.e.2.2] ∧ g.pre m ∧ g.i < g.B.doors.length ∧ g.p ≤ (rowAt g.B.doors g.i).length ∧ (rowAt g.B.doors g.i).length < 8 ∧
    (∃ x, g.e.1 = some x ∧ 0 ≤ x ∧ x ≤ 9) ∧ EntOk g.e ∧ stuckF (putIn (rowAt g.B.doors g.i) g.p g.e) = none
  post := fun g m d m' => d = .non ∧ m' = putBk m g.k { g.B with doors := g.B.doors.set g.i (putIn (rowAt g.B.doors g.i) g.p g.e) }
theorem ok_fit (T : Tx K mg) : FnOk P w K mg base CX0 4 T.a_Book_fit T.f_Book_fit ["self", "door", "place", "kind", "early", "late"] (spD K (Ffit T.C_Book)) := by
  have G_Book__door_row := ok_doorrow (P := P) (w := w) (base := base) T
  have G_check_place := ok_place (P := P) (w := w) (base := base) T
  have G_row_with := ok_row (P := P) (w := w) (base := base) T
  refine ok0 T.F_Book_fit sc_Book_fit rfl (fun _ _ _ _ _ h => h) (fun cdv A outer s H E hr => ⟨_, pss_cons (ps_asg (pe_meth (pv 0) T.cl_Book T.m_Book__door_row G_Book__door_row (hr.mono (by first | decide | omega)) T.b_Book__door_row .nil pass0 (pa_cons (pv 1) (pa_nil))) (pg_name (i := 6) sc_Book_fit.nd rfl (by first | exact Or.inl rfl | exact Or.inr rfl))) (pss_cons (ps_expr (pe_call G_check_place (hr.mono (by first | decide | omega)) rfl T.g_check_place T.k_check_place T.b_check_place .nil pass0 (pa_cons (pv 6) (pa_cons (pv 2) (pa_nil))))) (pss_cons (ps_if (pt_not (pt_chain op_le op_le (pe_int) (pv 3) (pe_glob (v := .int (9)) rfl T.g_LAST_KIND ⟨_, rfl⟩))) (pss_one (ps_never)) (pss_nil)) (pss_one (ps_asg (pe_call G_row_with (hr.mono (by first | decide | omega)) rfl T.g_row_with T.k_row_with T.b_row_with .nil pass0 (pa_cons (pv 6) (pa_cons (pv 2) (pa_cons (pe_tup (pa_cons (pv 3) (pa_cons (pv 4) (pa_cons (pv 5) (pa_nil))))) (pa_nil))))) (pg_sub (pe_fldK (K := K) (pe_fld (pv 0) rfl)) (pv 1) set_list))))), ?_⟩)
  rintro ⟨k, B, i, e, p, t⟩ ds m ⟨rfl, hB, hi, hp, hl, hw, hE, hst⟩ wf
  dsimp only at hB hi hp hl hw hE hst
  try dsimp only
  walk_at "go"
  refine we_meth ?_
  walk_at "go"
  refine ⟨_, _, rfl, by decide, ?_⟩
  walk_at "go"
  refine ⟨rfl, ⟨k, B, i, e, p, t⟩, ⟨rfl, hB, hi⟩, fun d m2 ⟨ed, em⟩ => ?_, fun _ _ _ h => h.elim⟩
  subst ed
  subst em
  walk_at "go"
  refine calls_tells (rowAt B.doors i, p) ⟨rfl, hp, hl⟩ ?_
  have last : KR.WS (C0 K) (tAsg (tCall (spD K Frow) [] E0 (tCons (tVar 6) (tCons (tVar 2) (tCons (tTup (tCons (tVar 3) (tCons (tVar 4) (tCons (tVar 5) tNil)))) tNil)))) (gSub (tFld K (tVar 0) "_door_rows") (tVar 1) rSetL))
      ((startD ["self", "door", "place", "kind", "early", "late", "row"] [bookD T.C_Book B.persons k, .int i, .int p, whatD e.1, .int e.2.1, .int e.2.2]).set 6 (some (rowD (rowAt B.doors i)))) m2
      { nx := fun _ m' => KR.Fin (Ffit T.C_Book) ⟨k, B, i, e, p, t⟩ m2 .non m', rt := KR.Fin (Ffit T.C_Book) ⟨k, B, i, e, p, t⟩ m2 } := by
    walk_at "go"
    refine calls_tells (rowAt B.doors i, p, e) ⟨rfl, hp, by dsimp only; omega, hE.1, hE.2.1, hE.2.2, hst⟩ ?_
    walk_at "go"
    refine we_fld ?_
    walk_at "go"
    refine ⟨_, _, _, _, rfl, T.cl_Book, T.na_Book__door_rows, rfl, ?_⟩
    walk_at "go"
    refine ⟨k + 3, _, (i : Int), i, rfl, rfl, hB.1.c3, ixN_nat (by rw [List.length_map]; exact hi), ?_⟩
    rw [map_setRow, put_doors hB.1]
    exact fin_as (by rw [put_len]; exact Nat.le_refl _) (wf_put wf) rfl ⟨rfl, rfl⟩
  obtain ⟨x, hx1, hx⟩ := hw
  obtain ⟨ow, e2⟩ := e
  subst hx1
  dsimp only [whatD]
  walk_at "go"
  refine ⟨fun _ => ?_, fun hh => absurd hx.1 (of_decide_eq_false hh)⟩
  walk_at "go"
  refine ⟨fun hh => ?_, fun _ => ?_⟩
  · rw [decide_eq_true hx.2] at hh
    cases hh
  walk_at "v"
  exact last
def Fcut (C : Addr) : FSp where
  ar := 3
  G := Gm × List Int × Bool
  pre := fun g ds m => ds = [bookD C g.1.B.persons g.1.k, .tup (g.2.1.map .int), .bl g.2.2] ∧ g.1.pre m ∧ g.1.B.keys.length < 6 ∧ g.2.1.Pairwise (· < ·) ∧ ∀ x ∈ g.2.1, 0 ≤ x ∧ x ≤ 9
  post := fun g m d m' => d = .int (g.1.B.keys.length : Int) ∧ m' = putBk m g.1.k { g.1.B with cuts := g.1.B.cuts ++ [g.2], keys := g.1.B.keys ++ [[]] }
theorem ok_cut (T : Tx K mg) : FnOk P w K mg base CX0 2 T.a_Book_cut T.f_Book_cut ["self", "opens", "plain"] (spD K (Fcut T.C_Book)) := by
  have G_are_kinds := ok_kinds (P := P) (w := w) (base := base) T
  refine ok0 T.F_Book_cut sc_Book_cut rfl (fun _ _ _ _ _ h => h) (fun cdv A outer s H E hr => ⟨_, pss_cons (ps_if (pt_not (pt_val (pe_call G_are_kinds (hr.mono (by first | decide | omega)) rfl T.g_are_kinds T.k_are_kinds T.b_are_kinds .nil pass0 (pa_cons (pv 1) (pa_nil))))) (pss_one (ps_never)) (pss_nil)) (pss_cons (ps_if (pt_cmpR op_ge (pe_callB (call_lenK (K := K)) (by rfl) T.n_len (by decide +kernel) (pa_cons (pe_fldK (K := K) (pe_fld (pv 0) rfl)) (pa_nil))) (pe_glob (v := .int (6)) rfl T.g_MOST_KEYS ⟨_, rfl⟩) (nomark _)) (pss_one (ps_never)) (pss_nil)) (pss_cons (ps_expr (pe_bmK (K := K) (pe_bm PySem.F.plainAttrs_list PySem.F.slot_list_append PySem.F.type_list_append mt_append (pe_fldK (K := K) (pe_fld (pv 0) rfl)) (pa_cons (pe_tup (pa_cons (pe_callTy (call_tupK (K := K)) (by rfl) T.n_tuple (by decide +kernel) (pa_cons (pv 1) (pa_nil))) (pa_cons (pv 2) (pa_nil)))) (pa_nil))))) (pss_cons (ps_expr (pe_bmK (K := K) (pe_bm PySem.F.plainAttrs_list PySem.F.slot_list_append PySem.F.type_list_append mt_append (pe_fldK (K := K) (pe_fld (pv 0) rfl)) (pa_cons (pe_lst (pa_nil)) (pa_nil))))) (pss_one (ps_ret (pe_op op_sub (pe_callB (call_lenK (K := K)) (by rfl) T.n_len (by decide +kernel) (pa_cons (pe_fldK (K := K) (pe_fld (pv 0) rfl)) (pa_nil))) (pe_int))))))), ?_⟩)
  rintro ⟨⟨k, B, i, e, p, t⟩, os, pl⟩ ds m ⟨rfl, hB, hl, hs, hb⟩ wf
  dsimp only at hB hl hs hb
  have cl : B.cuts.length = B.keys.length := hB.2.1.cl
  try dsimp only
  walk_at "go"
  refine calls_tells os ⟨rfl, hs, hb⟩ ?_
  walk_at "go"
  try refine ⟨fun hh => (by cases hh), fun _ => ?_⟩
  walk_at "go"
  refine we_fld ?_
  walk_at "go"
  refine ⟨_, _, _, _, rfl, T.cl_Book, T.na_Book__cuts, rfl, ?_⟩
  walk_at "go"
  refine wc_lenK (lstAt_of hB.1.c1) ?_
  walk_at "go"
  refine ⟨fun hh => ?_, fun _ => ?_⟩
  · have := of_decide_eq_true hh
    rw [List.length_map, cl] at this
    omega
  walk_at "go"
  refine we_fld ?_
  walk_at "go"
  refine ⟨_, _, _, _, rfl, T.cl_Book, T.na_Book__cuts, rfl, ?_⟩
  try walk_at "go"
  refine ⟨ty_list (lstAt_of hB.1.c1), ?_⟩
  walk_at "go"
  refine wc_tupK rfl ?_
  walk_at "go"
  refine wm_append hB.1.c1 (by rw [List.length_map, cl]; omega) ?_
  walk_at "go"
  refine we_fld ?_
  walk_at "go"
  refine ⟨_, _, _, _, rfl, T.cl_Book, T.na_Book__key_rows, rfl, ?_⟩
  have g2 : (m.set (k + 1) (Cell.lst (B.cuts.map cutD ++ [cutD (os, pl)])))[k + 2]? = some (.lst (B.keys.map rowD)) := by
    rw [List.getElem?_set_ne (by omega)]
    exact hB.1.c2
  refine ⟨ty_list (lstAt_of g2), ?_⟩
  walk_at "go"
  refine we_lst ?_
  walk_at "go"
  refine wm_append g2 (by rw [List.length_map]; omega) ?_
  walk_at "go"
  refine we_fld ?_
  walk_at "go"
  refine ⟨_, _, _, _, rfl, T.cl_Book, T.na_Book__cuts, rfl, ?_⟩
  have hk := hB.2.2
  walk_at "go"
  refine wc_lenK (ds := B.cuts.map cutD ++ [cutD (os, pl)]) (lstAt_of (by rw [List.getElem?_set_ne (by omega), List.getElem?_set_self (by dsimp only at hk; omega)]; rfl)) ?_
  walk_at "go"
  have em : (m.set (k + 1) (Cell.lst (B.cuts.map cutD ++ [cutD (os, pl)]))).set (k + 2) (.lst (B.keys.map rowD ++ [.lst []])) = putBk m k { B with cuts := B.cuts ++ [(os, pl)], keys := B.keys ++ [[]] } := by
    unfold putBk
    dsimp only
    rw [List.map_append, List.map_append]
    symm
    apply set_id
    rw [List.getElem?_set_ne (by omega), List.getElem?_set_ne (by omega)]
    exact hB.1.c3
  have ed : D.int (((B.cuts.map cutD ++ [cutD (os, pl)]).length : Int) - 1) = .int (B.keys.length : Int) := by
    rw [List.length_append, List.length_map, cl]
    show D.int (((B.keys.length + 1 : Nat) : Int) - 1) = _
    congr 1
    omega
  show KR.Fin _ _ _ (D.int (((B.cuts.map cutD ++ [cutD (os, pl)]).length : Int) - 1)) ((m.set (k + 1) (Cell.lst (B.cuts.map cutD ++ [cutD (os, pl)]))).set (k + 2) (.lst (B.keys.map rowD ++ [.lst []])))
  rw [em, ed]
  exact fin_as (by rw [put_len]; exact Nat.le_refl _) (wf_put wf) rfl ⟨rfl, rfl⟩

/-- who has a key, by what is told of it -/
def known (l : List (Option Int)) : List Int := l.filterMap fun o => if o = some (-1) then none else o
def holdF (persons : Int) (found : List (Option Int)) : Option Int × List Int :=
  if none ∈ found then (none, KR.upTo persons)
  else (if known found ≠ [] ∧ found.length = 1 then (sortI (known found)).head? else none, sortI (known found))
theorem known_whats {l : List (Option Int)} (h : ¬ none ∈ l) : (l.filter fun o => !decide (o = some (-1))).map whatD = (known l).map .int := by
  unfold known
  induction l with
  | nil => rfl
  | cons o l ih =>
    have ih' := ih fun e => h (List.mem_cons_of_mem _ e)
    cases o with
    | none => exact absurd List.mem_cons_self h
    | some x =>
      by_cases hx : x = -1
      · subst hx
        rw [List.filter_cons, if_neg (by simp), List.filterMap_cons]
        simpa using ih'
      · rw [List.filter_cons, if_pos (by simp [hx]), List.filterMap_cons]
        have e : (if (some x : Option Int) = some (-1) then none else some x) = some x := if_neg (fun e => hx (Option.some.inj e))
        rw [e, List.map_cons, List.map_cons, ih']
        rfl
theorem known_len (l : List (Option Int)) : (known l).length ≤ l.length := List.length_filterMap_le _ _
theorem told_len (r : List Ent) (t : Int) : (toldF r t).length ≤ r.length + 1 := by
  unfold toldF
  have h := addNew_len ((standF r t).map (whatAt r)) []
  have h2 := stand_len r t
  rw [List.length_map] at h
  simp at h
  omega
theorem what_scal (o : Option Int) : scal (whatV o) (.int (-1)) = true := by cases o <;> rfl
theorem what_ne (o : Option Int) : (!decide (whatV o = V.int (-1))) = !decide (o = some (-1)) := by
  cases o with
  | none => rfl
  | some x =>
    congr 1
    by_cases hx : x = -1
    · subst hx
      simp [whatV]
    · rw [decide_eq_false (fun e : whatV (some x) = V.int (-1) => hx (V.int.inj e)), decide_eq_false (fun e => hx (Option.some.inj e))]
def Fholders (C : Addr) : FSp where
  ar := 3
  G := Gm
  pre := fun g ds m => ds = [bookD C g.B.persons g.k, .int g.i, .int g.t] ∧ g.pre m ∧ g.i < g.B.keys.length ∧ 0 ≤ g.t ∧ g.t ≤ 999
  post := fun g m d m' => d = .tup [whatD (holdF g.B.persons (toldF (rowAt g.B.keys g.i) g.t)).1, .hd m.length] ∧ m' = m ++ [.lst ((holdF g.B.persons (toldF (rowAt g.B.keys g.i) g.t)).2.map .int)]
theorem fin_pair {F : FSp} {g : F.G} {m : Store} {x : D} {c : Cell} (wf : Wf m) (hc : c.hb (m.length + 1) = true) (hx : x.hb (m.length + 1) = true) (p : F.post g m (.tup [x, .hd m.length]) (m ++ [c])) : KR.Fin F g m (.tup [x, .hd m.length]) (m ++ [c]) := by
  refine fin_as (by simp) (fun y hy => ?_) ?_ p
  · rw [List.length_append]
    rcases List.mem_append.mp hy with h | h
    · exact hbC_mono (wf y h) (by simp)
    · rw [List.mem_singleton.mp h]
      exact hc
  · rw [List.length_append]
    show (x.hb (m.length + 1) && (decide (m.length < m.length + 1) && true)) = true
    rw [hx, decide_eq_true (by omega)]
    rfl
theorem ok_holders (T : Tx K mg) : FnOk P w K mg base CX0 5 T.a_Book_holders T.f_Book_holders ["self", "name", "moment"] (spD K (Fholders T.C_Book)) := by
  have G_Book__key_row := ok_keyrow (P := P) (w := w) (base := base) T
  have G_check_moment := ok_moment (P := P) (w := w) (base := base) T
  have G_told := ok_told (P := P) (w := w) (base := base) T
  have G_Book_everybody := ok_everybody (P := P) (w := w) (base := base) T
  refine ok0 T.F_Book_holders sc_Book_holders rfl (fun _ _ _ _ _ h => h) (fun cdv A outer s H E hr => ⟨_, pss_cons (ps_asg (pe_meth (pv 0) T.cl_Book T.m_Book__key_row G_Book__key_row (hr.mono (by first | decide | omega)) T.b_Book__key_row .nil pass0 (pa_cons (pv 1) (pa_nil))) (pg_name (i := 3) sc_Book_holders.nd rfl (by first | exact Or.inl rfl | exact Or.inr rfl))) (pss_cons (ps_expr (pe_call G_check_moment (hr.mono (by first | decide | omega)) rfl T.g_check_moment T.k_check_moment T.b_check_moment .nil pass0 (pa_cons (pv 2) (pa_nil)))) (pss_cons (ps_asg (pe_call G_told (hr.mono (by first | decide | omega)) rfl T.g_told T.k_told T.b_told .nil pass0 (pa_cons (pv 3) (pa_cons (pv 2) (pa_nil)))) (pg_name (i := 4) sc_Book_holders.nd rfl (by first | exact Or.inl rfl | exact Or.inr rfl))) (pss_cons (ps_if (pt_cmpR (op_inK (K := K)) (pe_non) (pv 4) (by rfl)) (pss_one (ps_ret (pe_tup (pa_cons (pe_non) (pa_cons (pe_meth0 (pv 0) T.cl_Book T.m_Book_everybody G_Book_everybody (hr.mono (by first | decide | omega)) T.b_Book_everybody .nil pass0) (pa_nil)))))) (pss_nil)) (pss_cons (ps_asg (pe_callB (cr_sortedK (K := K)) (by rfl) T.n_sorted (by decide +kernel) (pa_cons (pe_lc (own := [("person", 6)]) rfl sc_Book_holders.nd (pi_listK (K := K) (pi_list (pv 4))) (blkOk_by (N := ["self", "name", "moment", "row", "found", "persons", "person", "sure"]) (own := [("person", 6)]) (sc := defScope s_Book_holders) (by decide +kernel)) (fun _ _ _ _ _ => pg_name (i := 6) sc_Book_holders.nd rfl (by first | exact Or.inl rfl | exact Or.inr rfl)) (fun _ _ _ _ _ => pts_one (pt_cmpR op_ne (pv 6) (pe_glob (v := .int (-1)) rfl T.g_NOTHING_YET ⟨_, rfl⟩) (nomark _))) (fun _ _ _ _ _ => pv 6)) (pa_nil))) (pg_name (i := 5) sc_Book_holders.nd rfl (by first | exact Or.inl rfl | exact Or.inr rfl))) (pss_cons (ps_asg (pe_ifExp (PW.pt (pw_and (pt_truK (K := K) (pt_truth (pv 5) (by intro _; rfl))) (pw_and1 (pt_cmpR op_eq (pe_callB (call_lenK (K := K)) (by rfl) T.n_len (by decide +kernel) (pa_cons (pv 4) (pa_nil))) (pe_int) (nomark _))))) (pe_ix (ix_seqK (K := K)) (pv 5) (pe_int) (fun _ _ => rfl)) (pe_non)) (pg_name (i := 7) sc_Book_holders.nd rfl (by first | exact Or.inl rfl | exact Or.inr rfl))) (pss_one (ps_ret (pe_tup (pa_cons (pv 7) (pa_cons (pv 5) (pa_nil))))))))))), ?_⟩)
  rintro ⟨k, B, i, e, p, t⟩ ds m ⟨rfl, hB, hi, h0, h1⟩ wf
  dsimp only at hB hi h0 h1
  have hrl : (rowAt B.keys i).length ≤ 8 := hB.2.1.kr _ (rowAt_mem hi)
  have hp := hB.2.1.p0
  dsimp only at hp
  try dsimp only
  walk_at "go"
  refine we_meth ?_
  walk_at "go"
  refine ⟨_, _, rfl, by decide, ?_⟩
  walk_at "go"
  refine ⟨rfl, ⟨k, B, i, e, p, t⟩, ⟨rfl, hB, hi⟩, fun d m2 ⟨ed, em⟩ => ?_, fun _ _ _ h => h.elim⟩
  subst ed
  subst em
  walk_at "go"
  refine calls_tells t ⟨rfl, h0, h1⟩ ?_
  walk_at "go"
  refine calls_tells (rowAt B.keys i, t) ⟨rfl, hrl⟩ ?_
  walk_at "go"
  refine wr_in (a := whatV none) rfl rfl (whats_flat _) ?_
  rw [in_what]
  walk_at "go"
  refine ⟨fun hb => ?_, fun hb => ?_⟩
  · have hb : none ∈ toldF (rowAt B.keys i) t := by simpa using hb
    have eh : holdF B.persons (toldF (rowAt B.keys i) t) = (none, KR.upTo B.persons) := if_pos hb
    walk_at "go"
    refine we_meth ?_
    walk_at "go"
    refine ⟨_, _, rfl, by decide, ?_⟩
    walk_at "go"
    refine ⟨rfl, (k, B), ⟨rfl, hB.1, hB.2.1⟩, fun d m3 ⟨ed, em⟩ => ?_, fun _ _ _ h => h.elim⟩
    subst ed
    subst em
    walk_at "go"
    refine fin_pair (x := .non) wf (ints_hb _ _) rfl ⟨?_, ?_⟩
    · dsimp only
      rw [eh]
      rfl
    · dsimp only
      rw [eh]
  · have hb : ¬ none ∈ toldF (rowAt B.keys i) t := by simpa using hb
    have eh : holdF B.persons (toldF (rowAt B.keys i) t) = (if known (toldF (rowAt B.keys i) t) ≠ [] ∧ (toldF (rowAt B.keys i) t).length = 1 then (sortI (known (toldF (rowAt B.keys i) t))).head? else none, sortI (known (toldF (rowAt B.keys i) t))) := if_neg hb
    have hl := told_len (rowAt B.keys i) t
    generalize hf : toldF (rowAt B.keys i) t = found at hb eh hl
    have hkl := known_len found
    walk_at "go"
    refine we_lcP (f := whatD) (by decide) ?_
    walk_at "go"
    refine ⟨found, fun o => !decide (o = some (-1)), whatD, rfl, by omega, fun a m' _ _ => ?_, fun a m' _ _ _ => ?_, ?_⟩
    · walk_at "go"
      refine wr_ne (what_flat a) rfl (what_scal a) ?_
      walk_at "go"
      exact ⟨rfl, what_ne a⟩
    · walk_at "go"
      exact ⟨rfl, rfl, whatD_hb _ a⟩
    · rw [known_whats hb]
      walk_at "go"
      refine wc_sortedM (ns := known found) rfl (by omega) ?_
      walk_at "go"
      have ht : lstAt (m2 ++ [Cell.lst ((sortI (known found)).map D.int)]) m2.length = some ((sortI (known found)).map D.int) := lstAt_of app_get
      have hemp : ((sortI (known found)).map D.int).isEmpty = decide (known found = []) := by
        have hp := sortI_perm (known found)
        cases hk : known found with
        | nil => rfl
        | cons a l =>
          rw [hk] at hp
          cases hs : sortI (a :: l) with
          | nil =>
            rw [hs] at hp
            exact absurd hp.length_eq (by simp)
          | cons b l2 => rfl
      have fin : ∀ x : Option Int, x = (if known found ≠ [] ∧ found.length = 1 then (sortI (known found)).head? else none) → KR.Fin (Fholders T.C_Book) ⟨k, B, i, e, p, t⟩ m2 (.tup [whatD x, .hd m2.length]) (m2 ++ [Cell.lst ((sortI (known found)).map D.int)]) := fun x hx => by
        refine fin_pair wf (ints_hb _ _) (whatD_hb _ _) ⟨?_, ?_⟩
        · dsimp only
          rw [hf, eh, hx]
        · dsimp only
          rw [hf, eh]
      refine ⟨!decide (known found = []), ?_, fun hb1 => ?_, fun hb1 => ?_⟩
      · show (lstAt _ _).map _ = _
        rw [ht]
        exact congrArg (fun b => some (!b)) hemp
      · have hb1 : ¬ known found = [] := by simpa using hb1
        walk_at "go"
        refine ⟨fun hb2 => ?_, fun hb2 => ?_⟩
        · have hb2 : found.length = 1 := by
            have := V.int.inj (of_decide_eq_true hb2)
            rw [List.length_map] at this
            omega
          obtain ⟨a, l2, hs⟩ : ∃ a l2, sortI (known found) = a :: l2 := by
            cases hs : sortI (known found) with
            | nil => exact absurd ((List.perm_nil.mp ((sortI_perm (known found)).symm.trans (by rw [hs]))) ) hb1
            | cons a l2 => exact ⟨a, l2, rfl⟩
          walk_at "go"
          refine wr_ix (d := .int a) (lstAt_of app_get) ?_ ?_
          · rw [hs]
            exact atI_nat (j := 0) rfl
          walk_at "go"
          exact fin (some a) (by rw [if_pos ⟨hb1, hb2⟩, hs]; rfl)
        · have hb2 : ¬ found.length = 1 := fun e => by
            refine of_decide_eq_false hb2 ?_
            rw [List.length_map, e]
            rfl
          walk_at "go"
          exact fin none (by rw [if_neg fun e => hb2 e.2])
      · have hb1 : known found = [] := by simpa using hb1
        refine ⟨fun hh => (by cases hh), fun _ => ?_⟩
        walk_at "go"
        exact fin none (by rw [if_neg fun e => e.1 hb1])
/-- the locks that a door may have; nothing that isn't known among them -/
def locksF (found : List (Option Int)) : List Int := sortI (found.filterMap id)
theorem whats_all {l : List (Option Int)} (h : ¬ none ∈ l) : l.map whatD = (l.filterMap id).map .int := by
  induction l with
  | nil => rfl
  | cons o l ih =>
    have ih' := ih fun e => h (List.mem_cons_of_mem _ e)
    cases o with
    | none => exact absurd List.mem_cons_self h
    | some x =>
      rw [List.map_cons, ih']
      rfl
def Flocks (C : Addr) : FSp where
  ar := 3
  G := Gm
  pre := fun g ds m => ds = [bookD C g.B.persons g.k, .int g.i, .int g.t] ∧ g.pre m ∧ g.i < g.B.doors.length ∧ 0 ≤ g.t ∧ g.t ≤ 999 ∧ ¬ none ∈ toldF (rowAt g.B.doors g.i) g.t
  post := fun g m d m' => d = .hd m.length ∧ m' = m ++ [.lst ((locksF (toldF (rowAt g.B.doors g.i) g.t)).map .int)]
theorem ok_locks (T : Tx K mg) : FnOk P w K mg base CX0 5 T.a_Book_locks T.f_Book_locks ["self", "door", "moment"] (spD K (Flocks T.C_Book)) := by
  have G_Book__door_row := ok_doorrow (P := P) (w := w) (base := base) T
  have G_check_moment := ok_moment (P := P) (w := w) (base := base) T
  have G_told := ok_told (P := P) (w := w) (base := base) T
  refine ok0 T.F_Book_locks sc_Book_locks rfl (fun _ _ _ _ _ h => h) (fun cdv A outer s H E hr => ⟨_, pss_cons (ps_asg (pe_meth (pv 0) T.cl_Book T.m_Book__door_row G_Book__door_row (hr.mono (by first | decide | omega)) T.b_Book__door_row .nil pass0 (pa_cons (pv 1) (pa_nil))) (pg_name (i := 3) sc_Book_locks.nd rfl (by first | exact Or.inl rfl | exact Or.inr rfl))) (pss_cons (ps_expr (pe_call G_check_moment (hr.mono (by first | decide | omega)) rfl T.g_check_moment T.k_check_moment T.b_check_moment .nil pass0 (pa_cons (pv 2) (pa_nil)))) (pss_one (ps_ret (pe_callB (cr_sortedK (K := K)) (by rfl) T.n_sorted (by decide +kernel) (pa_cons (pe_call G_told (hr.mono (by first | decide | omega)) rfl T.g_told T.k_told T.b_told .nil pass0 (pa_cons (pv 3) (pa_cons (pv 2) (pa_nil)))) (pa_nil)))))), ?_⟩)
  rintro ⟨k, B, i, e, p, t⟩ ds m ⟨rfl, hB, hi, h0, h1, hnn⟩ wf
  dsimp only at hB hi h0 h1 hnn
  have hrl : (rowAt B.doors i).length ≤ 8 := hB.2.1.dr _ (rowAt_mem hi)
  try dsimp only
  walk_at "go"
  refine we_meth ?_
  walk_at "go"
  refine ⟨_, _, rfl, by decide, ?_⟩
  walk_at "go"
  refine ⟨rfl, ⟨k, B, i, e, p, t⟩, ⟨rfl, hB, hi⟩, fun d m2 ⟨ed, em⟩ => ?_, fun _ _ _ h => h.elim⟩
  subst ed
  subst em
  walk_at "go"
  refine calls_tells t ⟨rfl, h0, h1⟩ ?_
  walk_at "go"
  refine calls_tells (rowAt B.doors i, t) ⟨rfl, hrl⟩ ?_
  walk_at "go"
  have hl := told_len (rowAt B.doors i) t
  refine wc_sortedM (ns := (toldF (rowAt B.doors i) t).filterMap id) ?_ ?_ ?_
  · show some _ = some _
    rw [whats_all hnn]
  · have := List.length_filterMap_le id (toldF (rowAt B.doors i) t)
    omega
  · exact fin_cell wf (ints_hb _ _) ⟨rfl, rfl⟩

/-! ### hand and fit, which may refuse -/
inductive EntX (CP CT : Addr) (r : List Ent) (p : Nat) (e : Ent) : Value → Option (Str × D) → Prop
  | full : r.length = 8 → EntX CP CT r p e (.ref CP) none
  | times (i : Nat) : r.length < 8 → stuckF (putIn r p e) = some i → EntX CP CT r p e (.ref CT) (some (("place" : Str), D.int i))
def FhandX (C CP CT : Addr) : FSp where
  ar := 6
  G := Gm
  pre := fun g ds m => ds = [bookD C g.B.persons g.k, .int g.i, .int g.p, whatD g.e.1, .int g.e.2.1, .int g.e.2.2] ∧ g.pre m ∧ g.i < g.B.keys.length ∧ g.p ≤ (rowAt g.B.keys g.i).length ∧ (∀ x, g.e.1 = some x → 0 ≤ x ∧ x < g.B.persons) ∧ EntOk g.e
  post := fun g m d m' => d = .non ∧ m' = putBk m g.k { g.B with keys := g.B.keys.set g.i (putIn (rowAt g.B.keys g.i) g.p g.e) } ∧ (rowAt g.B.keys g.i).length < 8 ∧ stuckF (putIn (rowAt g.B.keys g.i) g.p g.e) = none
  exc := fun g m cls oi m' => m' = m ∧ EntX CP CT (rowAt g.B.keys g.i) g.p g.e cls oi
theorem entx_hb {CP CT : Addr} {r : List Ent} {p n : Nat} {e : Ent} {cls : Value} {oi : Option (Str × D)} (h : EntX CP CT r p e cls oi) : ∀ f x, oi = some (f, x) → x.hb n = true := fun f x e2 => by
  cases h with
  | full _ => cases e2
  | times i _ _ => cases e2; rfl
theorem ok_handX (T : Tx K mg) : FnOk P w K mg base (L2.CX P w) 4 T.a_Book_hand T.f_Book_hand ["self", "name", "place", "person", "early", "late"] (spD K (FhandX T.C_Book T.C_BadPlace T.C_BadTimes)) := by
  have G_Book__key_row := ok_keyrow (P := P) (w := w) (base := base) T
  have GX_check_place := ok_placeX (P := P) (w := w) (base := base) T
  have GX_row_with := ok_rowX (P := P) (w := w) (base := base) T
  have G_Book_check_person := ok_person (P := P) (w := w) (base := base) T
  refine okx T.F_Book_hand sc_Book_hand rfl (fun cdv A outer s H E hr => ⟨_, pss_cons (ps_asg (pe_meth (pv 0) T.cl_Book T.m_Book__key_row G_Book__key_row (hr.mono (by first | decide | omega)) T.b_Book__key_row .nil pass0 (pa_cons (pv 1) (pa_nil))) (pg_name (i := 6) sc_Book_hand.nd rfl (by first | exact Or.inl rfl | exact Or.inr rfl))) (pss_cons (ps_expr (pe_call GX_check_place (hr.mono (by first | decide | omega)) rfl T.g_check_place T.k_check_place T.b_check_place .nil (passes_call (takes_of rfl rfl rfl rfl) (fun _ _ _ _ h => h)) (pa_cons (pv 6) (pa_cons (pv 2) (pa_nil))))) (pss_cons (ps_if (pt_cmp (pc_notN (pv 3)) rfl) (pss_one (ps_expr (pe_meth (pv 0) T.cl_Book T.m_Book_check_person G_Book_check_person (hr.mono (by first | decide | omega)) T.b_Book_check_person .nil pass0 (pa_cons (pv 3) (pa_nil))))) (pss_nil)) (pss_one (ps_asg (pe_call GX_row_with (hr.mono (by first | decide | omega)) rfl T.g_row_with T.k_row_with T.b_row_with .nil (passes_call (takes_of rfl rfl rfl rfl) (fun _ _ _ _ h => h)) (pa_cons (pv 6) (pa_cons (pv 2) (pa_cons (pe_tup (pa_cons (pv 3) (pa_cons (pv 4) (pa_cons (pv 5) (pa_nil))))) (pa_nil))))) (pg_sub (pe_fldK (K := K) (pe_fld (pv 0) rfl)) (pv 1) set_list))))), ?_⟩)
  rintro ⟨k, B, i, e, p, t⟩ ds m ⟨rfl, hB, hi, hp, hw, hE⟩ wf
  dsimp only at hB hi hp hw hE
  try dsimp only
  have hlen : (rowAt B.keys i).length ≤ 8 := hB.2.1.kr _ (rowAt_mem hi)
  walk_at "go"
  refine we_methC0 ?_
  walk_at "go"
  refine ⟨_, _, rfl, by decide, ?_⟩
  walk_at "go"
  refine ⟨rfl, ⟨k, B, i, e, p, t⟩, ⟨rfl, hB, hi⟩, fun d m2 ⟨ed, em⟩ => ?_, fun _ _ _ h => h.elim⟩
  subst ed
  subst em
  walk_at "go"
  refine' ⟨rfl, (rowAt B.keys i, p), ⟨rfl, hp, hlen⟩, fun d m3 ⟨ed, em, hl⟩ => ?ok, fun cls oi m3 ⟨ec, eo, em, hl⟩ => ?bad⟩
  case bad =>
    subst ec
    subst eo
    subst em
    exact finx_same wf (fun _ _ h => by cases h) ⟨rfl, .full hl⟩
  dsimp only at hl
  subst em
  have last : KR.WS ⟨K, E, FinX (FhandX T.C_Book T.C_BadPlace T.C_BadTimes) ⟨k, B, i, e, p, t⟩ m3⟩ (tAsg (tCall (spD K (FrowX T.C_BadTimes)) [] E (tCons (tVar 6) (tCons (tVar 2) (tCons (tTup (tCons (tVar 3) (tCons (tVar 4) (tCons (tVar 5) tNil)))) tNil)))) (gSub (tFld K (tVar 0) "_key_rows") (tVar 1) rSetL))
      ((startD ["self", "name", "place", "person", "early", "late", "row"] [bookD T.C_Book B.persons k, .int i, .int p, whatD e.1, .int e.2.1, .int e.2.2]).set 6 (some (rowD (rowAt B.keys i)))) m3
      { nx := fun _ m' => KR.Fin (FhandX T.C_Book T.C_BadPlace T.C_BadTimes) ⟨k, B, i, e, p, t⟩ m3 .non m', rt := KR.Fin (FhandX T.C_Book T.C_BadPlace T.C_BadTimes) ⟨k, B, i, e, p, t⟩ m3 } := by
    walk_at "go"
    refine' ⟨rfl, (rowAt B.keys i, p, e), ⟨rfl, hp, hlen, hE.1, hE.2.1, hE.2.2⟩, fun d m4 ⟨ed, em, hst⟩ => ?ok2, fun cls oi m4 ⟨ec, em, j, eo, hst⟩ => ?bad2⟩
    case bad2 =>
      subst ec
      subst eo
      subst em
      exact finx_same wf (fun _ _ h => by cases h; rfl) ⟨rfl, .times j hl hst⟩
    subst ed
    subst em
    dsimp only at hst
    walk_at "go"
    refine we_fld ?_
    walk_at "go"
    refine ⟨_, _, _, _, rfl, T.cl_Book, T.na_Book__key_rows, rfl, ?_⟩
    walk_at "go"
    refine ⟨k + 2, _, (i : Int), i, rfl, rfl, hB.1.c2, ixN_nat (by rw [List.length_map]; exact hi), ?_⟩
    dsimp only
    rw [map_setRow, put_keys hB.1]
    exact fin_as (by rw [put_len]; exact Nat.le_refl _) (wf_put wf) rfl ⟨rfl, rfl, hl, hst⟩
  walk_at "go"
  refine ⟨fun hn => ?_, fun _ => ?_⟩
  · obtain ⟨ow, e2⟩ := e
    cases ow with
    | none => cases hn
    | some x =>
      have hx := hw x rfl
      dsimp only [whatD]
      walk_at "go"
      refine we_methC0 ?_
      walk_at "go"
      refine ⟨_, _, rfl, by decide, ?_⟩
      walk_at "go"
      refine ⟨rfl, (k, B, x), ⟨rfl, hx.1, hx.2⟩, fun d m5 ⟨ed, em⟩ => ?_, fun _ _ _ h => h.elim⟩
      subst em
      exact last
  · walk_at "v"
    exact last
def FfitX (C CP CT : Addr) : FSp where
  ar := 6
  G := Gm
  pre := fun g ds m => ds = [bookD C g.B.persons g.k, .int g.i, .int g.p, whatD g.e.1, .int g.e.2.1, .int g.e.2.2] ∧ g.pre m ∧ g.i < g.B.doors.length ∧ g.p ≤ (rowAt g.B.doors g.i).length ∧ (∃ x, g.e.1 = some x ∧ 0 ≤ x ∧ x ≤ 9) ∧ EntOk g.e
  post := fun g m d m' => d = .non ∧ m' = putBk m g.k { g.B with doors := g.B.doors.set g.i (putIn (rowAt g.B.doors g.i) g.p g.e) } ∧ (rowAt g.B.doors g.i).length < 8 ∧ stuckF (putIn (rowAt g.B.doors g.i) g.p g.e) = none
  exc := fun g m cls oi m' => m' = m ∧ EntX CP CT (rowAt g.B.doors g.i) g.p g.e cls oi
theorem ok_fitX (T : Tx K mg) : FnOk P w K mg base (L2.CX P w) 4 T.a_Book_fit T.f_Book_fit ["self", "door", "place", "kind", "early", "late"] (spD K (FfitX T.C_Book T.C_BadPlace T.C_BadTimes)) := by
  have G_Book__door_row := ok_doorrow (P := P) (w := w) (base := base) T
  have GX_check_place := ok_placeX (P := P) (w := w) (base := base) T
  have GX_row_with := ok_rowX (P := P) (w := w) (base := base) T
  refine okx T.F_Book_fit sc_Book_fit rfl (fun cdv A outer s H E hr => ⟨_, pss_cons (ps_asg (pe_meth (pv 0) T.cl_Book T.m_Book__door_row G_Book__door_row (hr.mono (by first | decide | omega)) T.b_Book__door_row .nil pass0 (pa_cons (pv 1) (pa_nil))) (pg_name (i := 6) sc_Book_fit.nd rfl (by first | exact Or.inl rfl | exact Or.inr rfl))) (pss_cons (ps_expr (pe_call GX_check_place (hr.mono (by first | decide | omega)) rfl T.g_check_place T.k_check_place T.b_check_place .nil (passes_call (takes_of rfl rfl rfl rfl) (fun _ _ _ _ h => h)) (pa_cons (pv 6) (pa_cons (pv 2) (pa_nil))))) (pss_cons (ps_if (pt_not (pt_chain op_le op_le (pe_int) (pv 3) (pe_glob (v := .int (9)) rfl T.g_LAST_KIND ⟨_, rfl⟩))) (pss_one (ps_never)) (pss_nil)) (pss_one (ps_asg (pe_call GX_row_with (hr.mono (by first | decide | omega)) rfl T.g_row_with T.k_row_with T.b_row_with .nil (passes_call (takes_of rfl rfl rfl rfl) (fun _ _ _ _ h => h)) (pa_cons (pv 6) (pa_cons (pv 2) (pa_cons (pe_tup (pa_cons (pv 3) (pa_cons (pv 4) (pa_cons (pv 5) (pa_nil))))) (pa_nil))))) (pg_sub (pe_fldK (K := K) (pe_fld (pv 0) rfl)) (pv 1) set_list))))), ?_⟩)
  rintro ⟨k, B, i, e, p, t⟩ ds m ⟨rfl, hB, hi, hp, hw, hE⟩ wf
  dsimp only at hB hi hp hw hE
  try dsimp only
  have hlen : (rowAt B.doors i).length ≤ 8 := hB.2.1.dr _ (rowAt_mem hi)
  walk_at "go"
  refine we_methC0 ?_
  walk_at "go"
  refine ⟨_, _, rfl, by decide, ?_⟩
  walk_at "go"
  refine ⟨rfl, ⟨k, B, i, e, p, t⟩, ⟨rfl, hB, hi⟩, fun d m2 ⟨ed, em⟩ => ?_, fun _ _ _ h => h.elim⟩
  subst ed
  subst em
  walk_at "go"
  refine' ⟨rfl, (rowAt B.doors i, p), ⟨rfl, hp, hlen⟩, fun d m3 ⟨ed, em, hl⟩ => ?ok, fun cls oi m3 ⟨ec, eo, em, hl⟩ => ?bad⟩
  case bad =>
    subst ec
    subst eo
    subst em
    exact finx_same wf (fun _ _ h => by cases h) ⟨rfl, .full hl⟩
  dsimp only at hl
  subst em
  have last : KR.WS ⟨K, E, FinX (FfitX T.C_Book T.C_BadPlace T.C_BadTimes) ⟨k, B, i, e, p, t⟩ m3⟩ (tAsg (tCall (spD K (FrowX T.C_BadTimes)) [] E (tCons (tVar 6) (tCons (tVar 2) (tCons (tTup (tCons (tVar 3) (tCons (tVar 4) (tCons (tVar 5) tNil)))) tNil)))) (gSub (tFld K (tVar 0) "_door_rows") (tVar 1) rSetL))
      ((startD ["self", "door", "place", "kind", "early", "late", "row"] [bookD T.C_Book B.persons k, .int i, .int p, whatD e.1, .int e.2.1, .int e.2.2]).set 6 (some (rowD (rowAt B.doors i)))) m3
      { nx := fun _ m' => KR.Fin (FfitX T.C_Book T.C_BadPlace T.C_BadTimes) ⟨k, B, i, e, p, t⟩ m3 .non m', rt := KR.Fin (FfitX T.C_Book T.C_BadPlace T.C_BadTimes) ⟨k, B, i, e, p, t⟩ m3 } := by
    walk_at "go"
    refine' ⟨rfl, (rowAt B.doors i, p, e), ⟨rfl, hp, hlen, hE.1, hE.2.1, hE.2.2⟩, fun d m4 ⟨ed, em, hst⟩ => ?ok2, fun cls oi m4 ⟨ec, em, j, eo, hst⟩ => ?bad2⟩
    case bad2 =>
      subst ec
      subst eo
      subst em
      exact finx_same wf (fun _ _ h => by cases h; rfl) ⟨rfl, .times j hl hst⟩
    subst ed
    subst em
    dsimp only at hst
    walk_at "go"
    refine we_fld ?_
    walk_at "go"
    refine ⟨_, _, _, _, rfl, T.cl_Book, T.na_Book__door_rows, rfl, ?_⟩
    walk_at "go"
    refine ⟨k + 3, _, (i : Int), i, rfl, rfl, hB.1.c3, ixN_nat (by rw [List.length_map]; exact hi), ?_⟩
    dsimp only
    rw [map_setRow, put_doors hB.1]
    exact fin_as (by rw [put_len]; exact Nat.le_refl _) (wf_put wf) rfl ⟨rfl, rfl, hl, hst⟩
  obtain ⟨x, hx1, hx⟩ := hw
  obtain ⟨ow, e2⟩ := e
  subst hx1
  dsimp only [whatD]
  walk_at "go"
  refine ⟨fun _ => ?_, fun hh => absurd hx.1 (of_decide_eq_false hh)⟩
  walk_at "go"
  refine ⟨fun hh => ?_, fun _ => ?_⟩
  · rw [decide_eq_true hx.2] at hh
    cases hh
  walk_at "v"
  exact last

/-! ### the def that tells refusals -/
/-- what is told of a refusal -/
inductive ToldW (CP CT : Addr) : Value → Option (Str × D) → D → Prop
  | place : ToldW CP CT (.ref CP) none (.tup [.str "place"])
  | times (i : Int) : ToldW CP CT (.ref CT) (some (("place" : Str), D.int i)) (.tup [.str "times", .int i])
theorem ok_lawtold (T : Tx K mg) : ToldOk P w K mg base T.a__law_told 4 (Caught K (ToldW T.C_BadPlace T.C_BadTimes)) := by
  intro A outer s H f c' q Q tl hr e0 LC hco ⟨Ech, h1, h2⟩
  obtain ⟨oc, od, kV, doc, pm, an, cdv, ct, osl, efd, lk, hcd⟩ := T.F__law_told.ex
  have hb := T.b__law_told s [.ref f] (e0.mod.kin.keeps fun b o e => (e0.bs b o e).1) rfl
  rw [efd] at lk hb
  refine LamX.run_ofS (N := ["_law_work", "e", "_law_kinds", "_law_words_here", "_law_word"]) (ps := ["_law_work"]) (us := [.ref f]) (vs := [.ref f]) lk hcd sc__law_told hr e0 hb (.cons rfl .nil) rfl fun hr' => ?_
  refine ⟨_, PSs.nox (pss_one (ps_try_as (X := (cxOf CX0 P w K mg base ["_law_work", "e", "_law_kinds", "_law_words_here", "_law_word"] "_law_told" (defScope s__law_told) T.a__law_told cdv A outer s H E0).nox) (c := .ref T.C_KeyrollError) (i := 1) rfl rfl sc__law_told.nd rfl rfl ⟨rfl, by decide, .inl T.c_KeyrollError⟩ takes0
    (fun W pn xe tk _ => pss_one (ps_ret (pe_actN (i := 0) LC hr' tk rfl (by first | exact Or.inl rfl | exact Or.inr (Or.inl rfl)))))
    (fun a oe cls d pn hz hf => pss_or (p1 := cls = .ref T.C_BadPlace) (p2 := cls = .ref T.C_BadTimes) (fun e => have hz : Zc (.ref T.C_BadPlace) d oe := e ▸ hz; pss_cons (ps_asg (pe_lst (pa_cons (pe_callB (call_isXK (K := K) T.ec_BadPlace hz hf) (by rfl) T.n_isinstance (by decide +kernel) (pa_cons (pv 1) (pa_cons (pe_glob (v := .ref T.C_BadBook) rfl T.c_BadBook rfl) pa_nil))) (pa_cons (pe_callB (call_isXK (K := K) T.ec_BadPlace hz hf) (by rfl) T.n_isinstance (by decide +kernel) (pa_cons (pv 1) (pa_cons (pe_glob (v := .ref T.C_BadKey) rfl T.c_BadKey rfl) pa_nil))) (pa_cons (pe_callB (call_isXK (K := K) T.ec_BadPlace hz hf) (by rfl) T.n_isinstance (by decide +kernel) (pa_cons (pv 1) (pa_cons (pe_glob (v := .ref T.C_NoOne) rfl T.c_NoOne rfl) pa_nil))) (pa_cons (pe_callB (call_isXK (K := K) T.ec_BadPlace hz hf) (by rfl) T.n_isinstance (by decide +kernel) (pa_cons (pv 1) (pa_cons (pe_glob (v := .ref T.C_BadPlace) rfl T.c_BadPlace rfl) pa_nil))) (pa_nil)))))) (pg_name (i := 2) sc__law_told.nd rfl (by first | exact Or.inl rfl | exact Or.inr rfl))) (pss_cons (ps_asg (pe_op op_cat (pv 2) (pe_lst (pa_cons (pe_callB (call_isXK (K := K) T.ec_BadPlace hz hf) (by rfl) T.n_isinstance (by decide +kernel) (pa_cons (pv 1) (pa_cons (pe_glob (v := .ref T.C_BadTimes) rfl T.c_BadTimes rfl) pa_nil))) (pa_cons (pe_callB (call_isXK (K := K) T.ec_BadPlace hz hf) (by rfl) T.n_isinstance (by decide +kernel) (pa_cons (pv 1) (pa_cons (pe_glob (v := .ref T.C_NoMoment) rfl T.c_NoMoment rfl) pa_nil))) (pa_nil))))) (pg_name (i := 2) sc__law_told.nd rfl (by first | exact Or.inl rfl | exact Or.inr rfl))) (pss_cons (ps_asg (pe_lst (pa_cons (pe_str) (pa_cons (pe_str) (pa_cons (pe_str) (pa_cons (pe_str) (pa_cons (pe_str) (pa_cons (pe_str) (pa_nil)))))))) (pg_name (i := 3) sc__law_told.nd rfl (by first | exact Or.inl rfl | exact Or.inr rfl))) (pss_cons (ps_if (PW.pt (pw_or (pt_cmpR op_ne (pe_bmK (K := K) (pe_bm PySem.F.plainAttrs_list PySem.F.slot_list_count PySem.F.type_list_count (mt_countFK (K := K)) (pv 2) (pa_cons (pe_bl) (pa_nil)))) (pe_int) (nomark _)) (pw_or1 (pt_not (pt_val (pe_callB (call_isXK (K := K) T.ec_BadPlace hz hf) (by rfl) T.n_isinstance (by decide +kernel) (pa_cons (pv 1) (pa_cons (pe_bltn (v := .ty "ValueError") (by rfl) T.n_ValueError (by decide +kernel) rfl) pa_nil)))))))) (pss_one (ps_ret (pe_tup (pa_cons (pe_str) (pa_nil))))) (pss_nil)) (pss_cons (ps_asg (pe_ix (ix_seqK (K := K)) (pv 3) (pe_bmK (K := K) (pe_bm PySem.F.plainAttrs_list PySem.F.slot_list_index PySem.F.type_list_index (mt_indexK (K := K)) (pv 2) (pa_cons (pe_bl) (pa_nil)))) (fun _ _ => rfl)) (pg_name (i := 4) sc__law_told.nd rfl (by first | exact Or.inl rfl | exact Or.inr rfl))) (pss_cons (ps_if (pt_cmpR op_eq (pv 4) (pe_str) (nomark _)) (pss_never) (pss_nil)) (pss_one (ps_ret (pe_ifExp (pt_cmpR op_eq (pv 4) (pe_str) (nomark _)) (pe_tup (pa_cons (pv 4) (pa_cons (pe_false) (pa_nil)))) (pe_tup (pa_cons (pv 4) (pa_nil)))))))))))) (fun e => have hz : Zc (.ref T.C_BadTimes) d oe := e ▸ hz; pss_cons (ps_asg (pe_lst (pa_cons (pe_callB (call_isXK (K := K) T.ec_BadTimes hz hf) (by rfl) T.n_isinstance (by decide +kernel) (pa_cons (pv 1) (pa_cons (pe_glob (v := .ref T.C_BadBook) rfl T.c_BadBook rfl) pa_nil))) (pa_cons (pe_callB (call_isXK (K := K) T.ec_BadTimes hz hf) (by rfl) T.n_isinstance (by decide +kernel) (pa_cons (pv 1) (pa_cons (pe_glob (v := .ref T.C_BadKey) rfl T.c_BadKey rfl) pa_nil))) (pa_cons (pe_callB (call_isXK (K := K) T.ec_BadTimes hz hf) (by rfl) T.n_isinstance (by decide +kernel) (pa_cons (pv 1) (pa_cons (pe_glob (v := .ref T.C_NoOne) rfl T.c_NoOne rfl) pa_nil))) (pa_cons (pe_callB (call_isXK (K := K) T.ec_BadTimes hz hf) (by rfl) T.n_isinstance (by decide +kernel) (pa_cons (pv 1) (pa_cons (pe_glob (v := .ref T.C_BadPlace) rfl T.c_BadPlace rfl) pa_nil))) (pa_nil)))))) (pg_name (i := 2) sc__law_told.nd rfl (by first | exact Or.inl rfl | exact Or.inr rfl))) (pss_cons (ps_asg (pe_op op_cat (pv 2) (pe_lst (pa_cons (pe_callB (call_isXK (K := K) T.ec_BadTimes hz hf) (by rfl) T.n_isinstance (by decide +kernel) (pa_cons (pv 1) (pa_cons (pe_glob (v := .ref T.C_BadTimes) rfl T.c_BadTimes rfl) pa_nil))) (pa_cons (pe_callB (call_isXK (K := K) T.ec_BadTimes hz hf) (by rfl) T.n_isinstance (by decide +kernel) (pa_cons (pv 1) (pa_cons (pe_glob (v := .ref T.C_NoMoment) rfl T.c_NoMoment rfl) pa_nil))) (pa_nil))))) (pg_name (i := 2) sc__law_told.nd rfl (by first | exact Or.inl rfl | exact Or.inr rfl))) (pss_cons (ps_asg (pe_lst (pa_cons (pe_str) (pa_cons (pe_str) (pa_cons (pe_str) (pa_cons (pe_str) (pa_cons (pe_str) (pa_cons (pe_str) (pa_nil)))))))) (pg_name (i := 3) sc__law_told.nd rfl (by first | exact Or.inl rfl | exact Or.inr rfl))) (pss_cons (ps_if (PW.pt (pw_or (pt_cmpR op_ne (pe_bmK (K := K) (pe_bm PySem.F.plainAttrs_list PySem.F.slot_list_count PySem.F.type_list_count (mt_countFK (K := K)) (pv 2) (pa_cons (pe_bl) (pa_nil)))) (pe_int) (nomark _)) (pw_or1 (pt_not (pt_val (pe_callB (call_isXK (K := K) T.ec_BadTimes hz hf) (by rfl) T.n_isinstance (by decide +kernel) (pa_cons (pv 1) (pa_cons (pe_bltn (v := .ty "ValueError") (by rfl) T.n_ValueError (by decide +kernel) rfl) pa_nil)))))))) (pss_one (ps_ret (pe_tup (pa_cons (pe_str) (pa_nil))))) (pss_nil)) (pss_cons (ps_asg (pe_ix (ix_seqK (K := K)) (pv 3) (pe_bmK (K := K) (pe_bm PySem.F.plainAttrs_list PySem.F.slot_list_index PySem.F.type_list_index (mt_indexK (K := K)) (pv 2) (pa_cons (pe_bl) (pa_nil)))) (fun _ _ => rfl)) (pg_name (i := 4) sc__law_told.nd rfl (by first | exact Or.inl rfl | exact Or.inr rfl))) (pss_cons (ps_if (pt_cmpR op_eq (pv 4) (pe_str) (nomark _)) (pss_never) (pss_nil)) (pss_one (ps_ret (pe_ifExp (pt_cmpR op_eq (pv 4) (pe_str) (nomark _)) (pe_tup (pa_cons (pv 4) (pa_cons (pe_xf T.xf_BadTimes T.nf_BadTimes hz hf (pv 1)) (pa_nil)))) (pe_tup (pa_cons (pv 4) (pa_nil))))))))))))))), ?_⟩
  refine ⟨rfl, hco, Ech, fun cls d H' he => ?_, h1⟩
  obtain ⟨w', m, oi, wd, hx, hs, ht, hk⟩ := h2 cls d H' he
  have ends : ∀ {c : Ct} (hc : c.K = K), EdOk c w' { nx := fun _ H' => Q .non H', rt := Q } { nx := fun _ _ => False, rt := fun d m' => d = wd ∧ m' = m } := fun {c} hc => by
    subst hc
    exact ⟨fun _ _ _ _ _ _ _ _ h => h.elim, hk, fun _ _ _ _ _ _ _ _ h => h.elim, fun _ _ _ _ _ _ _ _ h => h.elim⟩
  have env : ∀ a : Addr, EnvR K w' ((L2.start ["_law_work", "e", "_law_kinds", "_law_words_here", "_law_word"] [.ref f]).set 1 (some (.ref a))) ((startD ["_law_work", "e", "_law_kinds", "_law_words_here", "_law_word"] [.raw (.ref f)]).set 1 (some (.raw (.ref a)))) := fun a => (EnvR.start (N := ["_law_work", "e", "_law_kinds", "_law_words_here", "_law_word"]) (RepA.cons (.raw (.ref f)) .nil)).set 1 (.raw (.ref a))
  cases ht with
  | place =>
    refine ⟨true, T.te_BadPlace, fun _ a ha => .inl ⟨rfl, ?_⟩, fun q => nomatch q⟩
    have ed : d = none := by
      cases d with
      | none => rfl
      | some _ => exact hx.elim
    subst ed
    refine (?_ : KR.WS (Cd K none none) _ ((startD ["_law_work", "e", "_law_kinds", "_law_words_here", "_law_word"] [.raw (.ref f)]).set 1 (some (.raw (.ref a)))) m { nx := fun _ _ => False, rt := fun d m' => d = .tup [.str "place"] ∧ m' = m }) _ w' H' (env a) hs (Cd.of fun dd e => by cases e) _ (ends rfl)
    walk_at "go"
    refine we_lst ?_
    walk_at "go"
    refine wc_isX (fun u h => h) T.kt_BadPlace_BadBook ?_
    walk_at "go"
    refine wc_isX (fun u h => h) T.kt_BadPlace_BadKey ?_
    walk_at "go"
    refine wc_isX (fun u h => h) T.kt_BadPlace_NoOne ?_
    walk_at "go"
    refine wc_isX (fun u h => h) T.kt_BadPlace_BadPlace ?_
    walk_at "go"
    refine we_lst ?_
    walk_at "go"
    refine wc_isX (fun u h => h) T.kt_BadPlace_BadTimes ?_
    walk_at "go"
    refine wc_isX (fun u h => h) T.kt_BadPlace_NoMoment ?_
    walk_at "go"
    refine wr_cat rfl rfl (by decide) ?_
    walk_at "go"
    refine we_lst ?_
    walk_at "go"
    refine wm_countF (us := [.bl false, .bl false, .bl false, .bl true, .bl false, .bl false]) (v := .bl true) rfl rfl rfl ?_
    rw [show ((List.countP (fun z => eqV z (.bl true)) ([.bl false, .bl false, .bl false, .bl true, .bl false, .bl false] : List V) : Nat) : Int) = 1 by decide +kernel]
    walk_at "go"
    refine wc_isX (fun u h => h) T.kv_BadPlace ?_
    walk_at "go"
    refine wm_indexF (us := [.bl false, .bl false, .bl false, .bl true, .bl false, .bl false]) (v := .bl true) (j := 3) rfl rfl rfl (by decide +kernel) ?_
    walk_at "go"
    refine ⟨fun hb => absurd (of_decide_eq_true hb) (by decide), fun _ => ?_⟩
    walk_at "go"
    refine ⟨fun hb => absurd (of_decide_eq_true hb) (by decide), fun _ => ?_⟩
    walk_at "go"
    exact ⟨rfl, rfl⟩
  | times i =>
    refine ⟨true, T.te_BadTimes, fun _ a ha => .inr ⟨rfl, ?_⟩, fun q => nomatch q⟩
    cases d with
    | none => exact hx.elim
    | some dd =>
    obtain ⟨v, hz, rv⟩ := hx
    cases rv
    refine (?_ : KR.WS (Cd K (some dd) (some (("place" : Str), V.int i))) _ ((startD ["_law_work", "e", "_law_kinds", "_law_words_here", "_law_word"] [.raw (.ref f)]).set 1 (some (.raw (.ref a)))) m { nx := fun _ _ => False, rt := fun d m' => d = .tup [.str "times", .int i] ∧ m' = m }) _ w' H' (env a) hs (Cd.of fun d2 e => by cases e; exact ⟨_, _, rfl, hz⟩) _ (ends rfl)
    walk_at "go"
    refine we_lst ?_
    walk_at "go"
    refine wc_isX (fun u h => h) T.kt_BadTimes_BadBook ?_
    walk_at "go"
    refine wc_isX (fun u h => h) T.kt_BadTimes_BadKey ?_
    walk_at "go"
    refine wc_isX (fun u h => h) T.kt_BadTimes_NoOne ?_
    walk_at "go"
    refine wc_isX (fun u h => h) T.kt_BadTimes_BadPlace ?_
    walk_at "go"
    refine we_lst ?_
    walk_at "go"
    refine wc_isX (fun u h => h) T.kt_BadTimes_BadTimes ?_
    walk_at "go"
    refine wc_isX (fun u h => h) T.kt_BadTimes_NoMoment ?_
    walk_at "go"
    refine wr_cat rfl rfl (by decide) ?_
    walk_at "go"
    refine we_lst ?_
    walk_at "go"
    refine wm_countF (us := [.bl false, .bl false, .bl false, .bl false, .bl true, .bl false]) (v := .bl true) rfl rfl rfl ?_
    rw [show ((List.countP (fun z => eqV z (.bl true)) ([.bl false, .bl false, .bl false, .bl false, .bl true, .bl false] : List V) : Nat) : Int) = 1 by decide +kernel]
    walk_at "go"
    refine wc_isX (fun u h => h) T.kv_BadTimes ?_
    walk_at "go"
    refine wm_indexF (us := [.bl false, .bl false, .bl false, .bl false, .bl true, .bl false]) (v := .bl true) (j := 4) rfl rfl rfl (by decide +kernel) ?_
    walk_at "go"
    refine ⟨fun hb => absurd (of_decide_eq_true hb) (by decide), fun _ => ?_⟩
    walk_at "go"
    try refine ⟨fun _ => ?_, fun hb => absurd rfl (of_decide_eq_false hb)⟩
    walk_at "go"
    refine we_xf ?_
    walk_at "go"
    refine ⟨rfl, ?_⟩
    walk_at "go"
    exact ⟨rfl, rfl⟩

def Finit (C : Addr) : FSp where
  ar := 3
  G := Store × Int × Int
  pre := fun g ds m => ds = [.hd g.1.length, .int g.2.1, .int g.2.2] ∧ 1 ≤ g.2.1 ∧ g.2.1 ≤ 8 ∧ 1 ≤ g.2.2 ∧ g.2.2 ≤ 4 ∧ m = g.1 ++ [.ins C [] []]
  post := fun g _ d m' => d = .non ∧ m' = g.1 ++ [.ins C bkNames [.int g.2.1, .hd (g.1.length + 1), .hd (g.1.length + 2), .hd (g.1.length + 3)], .lst [], .lst [], .lst (List.replicate g.2.2.toNat (rowD []))]
theorem ok_init (T : Tx K mg) : FnOk P w K mg base CX0 1 T.a_Book_init T.f_Book_init ["self", "persons", "doors"] (spD K (Finit T.C_Book)) := by
  refine ok0 T.F_Book_init sc_Book_init rfl (fun _ _ _ _ _ h => h) (fun cdv A outer s H E hr => ⟨_, pss_cons (ps_if (pt_not (pt_chain op_le op_le (pe_int) (pv 1) (pe_glob (v := .int (8)) rfl T.g_MOST_PERSONS ⟨_, rfl⟩))) (pss_one (ps_never)) (pss_nil)) (pss_cons (ps_if (pt_not (pt_chain op_le op_le (pe_int) (pv 2) (pe_glob (v := .int (4)) rfl T.g_MOST_DOORS ⟨_, rfl⟩))) (pss_one (ps_never)) (pss_nil)) (pss_cons (ps_fldK (K := K) (ps_fld (pv 0) (pv 1) rfl)) (pss_cons (ps_fldK (K := K) (ps_fld (pv 0) (pe_lst (pa_nil)) rfl)) (pss_cons (ps_fldK (K := K) (ps_fld (pv 0) (pe_lst (pa_nil)) rfl)) (pss_one (ps_fldK (K := K) (ps_fld (pv 0) (pe_lc (own := [("_", 3)]) rfl sc_Book_init.nd (pi_range1 rfl T.n_range (pa_cons (pv 2) (pa_nil))) (blkOk_by (N := ["self", "persons", "doors", "_"]) (own := [("_", 3)]) (sc := defScope s_Book_init) (by decide +kernel)) (fun _ _ _ _ _ => pg_name (i := 3) sc_Book_init.nd rfl (by first | exact Or.inl rfl | exact Or.inr rfl)) (fun _ _ _ _ _ => pts_nil) (fun _ _ _ _ _ => pe_lst (pa_nil))) rfl))))))), ?_⟩)
  rintro ⟨m0, p, q⟩ ds m ⟨rfl, h1, h2, h3, h4, rfl⟩ wf
  dsimp only at h1 h2 h3 h4
  try dsimp only
  walk_at "go"
  refine ⟨fun _ => ?_, fun hh => absurd h1 (of_decide_eq_false hh)⟩
  walk_at "go"
  refine ⟨fun hh => ?_, fun _ => ?_⟩
  · rw [decide_eq_true h2] at hh
    cases hh
  walk_at "go"
  refine ⟨fun _ => ?_, fun hh => absurd h3 (of_decide_eq_false hh)⟩
  walk_at "go"
  refine ⟨fun hh => ?_, fun _ => ?_⟩
  · rw [decide_eq_true h4] at hh
    cases hh
  walk_at "go"
  refine ws_fld ?_
  walk_at "go"
  refine ⟨_, _, _, _, rfl, app_get, T.cl_Book, T.na_Book__persons, by decide, by decide, ?_⟩
  rw [app_set]
  walk_at "go"
  refine ws_fld ?_
  refine we_lstM ?_
  walk_at "go"
  simp only [List.append_assoc, List.cons_append, List.nil_append, List.length_append, List.length_cons, List.length_nil, Nat.zero_add]
  refine ⟨_, _, _, _, rfl, app_get, T.cl_Book, T.na_Book__cuts, by decide, by decide, ?_⟩
  rw [app_set]
  walk_at "go"
  refine ws_fld ?_
  refine we_lstM ?_
  walk_at "go"
  simp only [List.append_assoc, List.cons_append, List.nil_append, List.length_append, List.length_cons, List.length_nil, Nat.zero_add]
  refine ⟨_, _, _, _, rfl, app_get, T.cl_Book, T.na_Book__key_rows, by decide, by decide, ?_⟩
  rw [app_set]
  walk_at "go"
  refine ws_fld ?_
  refine we_lcRM (by decide) ?_
  walk_at "go"
  obtain ⟨n, rfl⟩ : ∃ n : Nat, q = (n : Int) := ⟨q.toNat, by omega⟩
  refine ⟨n, fun _ => true, fun _ => rowD [], rfl, by omega, fun a m' _ _ => ?_, fun a m' _ _ _ => ?_, ?_⟩
  · walk_at "go"
    exact ⟨rfl, rfl⟩
  · refine we_lst ?_
    walk_at "go"
    exact ⟨rfl, rfl⟩
  walk_at "go"
  simp only [List.append_assoc, List.cons_append, List.nil_append, List.length_append, List.length_cons, List.length_nil, Nat.zero_add, List.length_singleton]
  refine ⟨_, _, _, _, rfl, app_get, T.cl_Book, T.na_Book__door_rows, by decide, by decide, ?_⟩
  rw [app_set]
  have er : ((List.range n).filter fun _ => true).map (fun _ : Nat => rowD []) = List.replicate n (rowD []) := by
    rw [List.filter_eq_self.mpr (fun _ _ => rfl), List.map_const', List.length_range]
  rw [er]
  refine fin_as ?_ ?_ rfl ⟨rfl, rfl⟩
  · rw [List.length_append, List.length_append]
    simp
  · intro c hc
    rw [List.length_append]
    rcases List.mem_append.mp hc with h | h
    · have := wf c (List.mem_append_left _ h)
      rw [List.length_append] at this
      exact hbC_mono this (by simp)
    · simp only [List.mem_cons, List.not_mem_nil, or_false] at h
      rcases h with rfl | rfl | rfl | rfl
      · simp [Cell.hb, hbA, D.hb]
      · rfl
      · rfl
      · show hbA _ (List.replicate n (rowD [])) = true
        rw [hbA_all]
        intro d hd
        rw [(List.mem_replicate.mp hd).2]
        rfl

/-! ### the law's own helpers -/
theorem calls_next {c : Ct} {k : Nat} {n : Int} {m : Store} {P : PD} (hm : m[k]? = some .dice) (h0 : 0 < n) (h1 : n < 1073741824) (p : ∀ r, 0 ≤ r → r < n → P (.int r) m) : Calls c Fnext [.hd k, .int n] m P :=
  ⟨rfl, (k, n), ⟨rfl, hm, h0, h1⟩, fun d m2 ⟨r, ed, a, b, em⟩ => by
    rw [ed, em]
    exact p r a b, fun _ _ _ h => h.elim⟩
def Fwindow : FSp where
  ar := 2
  G := Nat × Int
  pre := fun g ds m => ds = [.hd g.1, .int g.2] ∧ m[g.1]? = some .dice ∧ 0 ≤ g.2 ∧ g.2 ≤ 10000
  post := fun g m d m' => ∃ e l, d = .tup [.int e, .int l] ∧ 0 ≤ e ∧ e ≤ l ∧ l ≤ g.2 ∧ m' = m
theorem ok_window (T : Tx K mg) : FnOk P w K mg base CX0 2 T.a__law_window T.f__law_window ["_law_d", "_law_far"] (spD K Fwindow) := by
  have G__law_next := ok_next (P := P) (w := w) (base := base) T
  refine ok0 T.F__law_window sc__law_window rfl (fun _ _ _ _ _ h => h) (fun cdv A outer s H E hr => ⟨_, pss_cons (ps_asg (pe_call G__law_next (hr.mono (by first | decide | omega)) rfl T.g__law_next T.k__law_next T.b__law_next .nil pass0 (pa_cons (pv 0) (pa_cons (pe_op op_add (pv 1) (pe_int)) (pa_nil)))) (pg_name (i := 2) sc__law_window.nd rfl (by first | exact Or.inl rfl | exact Or.inr rfl))) (pss_cons (ps_asg (pe_ix (ix_seqK (K := K)) (pe_lst (pa_cons (pe_int) (pa_cons (pe_op op_add (pe_int) (pe_call G__law_next (hr.mono (by first | decide | omega)) rfl T.g__law_next T.k__law_next T.b__law_next .nil pass0 (pa_cons (pv 0) (pa_cons (pe_int) (pa_nil))))) (pa_cons (pe_call G__law_next (hr.mono (by first | decide | omega)) rfl T.g__law_next T.k__law_next T.b__law_next .nil pass0 (pa_cons (pv 0) (pa_cons (pe_op op_add (pv 1) (pe_int)) (pa_nil)))) (pa_nil))))) (pe_call G__law_next (hr.mono (by first | decide | omega)) rfl T.g__law_next T.k__law_next T.b__law_next .nil pass0 (pa_cons (pv 0) (pa_cons (pe_int) (pa_nil)))) (fun _ _ => rfl)) (pg_name (i := 3) sc__law_window.nd rfl (by first | exact Or.inl rfl | exact Or.inr rfl))) (pss_one (ps_ret (pe_tup (pa_cons (pv 2) (pa_cons (pe_callB (call_min2 rfl) (by rfl) T.n_min (by decide +kernel) (pa_cons (pv 1) (pa_cons (pe_op op_add (pv 2) (pv 3)) (pa_nil)))) (pa_nil))))))), ?_⟩)
  rintro ⟨k, far⟩ ds m ⟨rfl, hm, h0, h1⟩ wf
  dsimp only at hm h0 h1
  try dsimp only
  walk_at "go"
  refine calls_next hm (by omega) (by omega) fun r r0 r1 => ?_
  walk_at "go"
  refine we_lst ?_
  walk_at "go"
  refine calls_next hm (by decide) (by decide) fun x x0 x1 => ?_
  walk_at "go"
  refine calls_next hm (by omega) (by omega) fun y y0 y1 => ?_
  walk_at "go"
  refine calls_next hm (by decide) (by decide) fun z z0 z1 => ?_
  have main : ∀ u : Int, 0 ≤ u → KR.Fin Fwindow (k, far) m (.tup [.int r, .int (if r + u < far then r + u else far)]) m := fun u hu => by
    refine fin_same wf rfl ⟨_, _, rfl, r0, ?_, ?_, rfl⟩
    · split <;> omega
    · dsimp only
      split <;> omega
  obtain rfl | rfl | rfl : z = 0 ∨ z = 1 ∨ z = 2 := by omega
  · refine wr_ix rfl rfl ?_
    walk_at "go"
    exact main 0 (by decide)
  · refine wr_ix rfl rfl ?_
    walk_at "go"
    exact main _ (by omega)
  · refine wr_ix rfl rfl ?_
    walk_at "go"
    exact main _ y0
def Ffits : FSp := tells 1 (List Ent) (fun r ds => ds = [rowD r] ∧ r.length ≤ 9) fun r => placeD (stuckF r)
theorem ok_fits (T : Tx K mg) : FnOk P w K mg base CX0 1 T.a__law_fits T.f__law_fits ["_law_rows"] (spD K Ffits) := by
  refine ok0 T.F__law_fits sc__law_fits rfl (fun _ _ _ _ _ h => h) (fun cdv A outer s H E hr => ⟨_, pss_cons (ps_asg (pe_int) (pg_name (i := 1) sc__law_fits.nd rfl (by first | exact Or.inl rfl | exact Or.inr rfl))) (pss_cons (ps_for PassesOwn.never rfl (pi_range1 rfl T.n_range (pa_cons (pe_callB (call_lenK (K := K)) (by rfl) T.n_len (by decide +kernel) (pa_cons (pv 0) (pa_nil))) (pa_nil))) (pg_name (i := 2) sc__law_fits.nd rfl (by first | exact Or.inl rfl | exact Or.inr rfl)) (pss_cons (ps_asg (pe_callB (call_max2 rfl) (by rfl) T.n_max (by decide +kernel) (pa_cons (pv 1) (pa_cons (pe_ix (ix_seqK (K := K)) (pe_ix (ix_seqK (K := K)) (pv 0) (pv 2) (fun _ _ => rfl)) (pe_int) (fun _ _ => rfl)) (pa_nil)))) (pg_name (i := 1) sc__law_fits.nd rfl (by first | exact Or.inl rfl | exact Or.inr rfl))) (pss_one (ps_if (pt_cmpR op_gt (pv 1) (pe_ix (ix_seqK (K := K)) (pe_ix (ix_seqK (K := K)) (pv 0) (pv 2) (fun _ _ => rfl)) (pe_int) (fun _ _ => rfl)) (nomark _)) (pss_one (ps_ret (pv 2))) (pss_nil))))) (pss_one (ps_ret (pe_non)))), ?_⟩)
  rintro (r : List Ent) ds m ⟨rfl, hl⟩ wf
  walk_at "go"
  refine ws_forN ?_
  walk_at "go"
  rw [List.length_map]
  refine ⟨by omega, fun i ρ' m' => ∃ y, ρ' = [some (rowD r), some (.int (reach 0 (r.take i))), y] ∧ m' = m ∧ ∀ p x q, r.take i = p ++ x :: q → mx (reach 0 p) x.2.1 ≤ x.2.2, ⟨none, rfl, rfl, fun p x q h => by cases p <;> simp at h⟩, ?_, ?_⟩
  · rintro i ρ' m' hi ⟨y, rfl, rfl, hp⟩
    obtain ⟨e, post, h1, h2, h3⟩ := take_step hi
    have g : (r.map entD)[i]? = some (entD e) := by rw [List.getElem?_map, h3]; rfl
    walk_at "go"
    refine wr_ix (d := entD e) rfl (at_nat g) ?_
    walk_at "go"
    refine wr_ix (d := entD e) rfl (at_nat g) ?_
    walk_at "go"
    refine ⟨fun hb => ?_, fun hb => ?_⟩
    · have hb := of_decide_eq_true hb
      walk_at "go"
      refine fin_same wf rfl ⟨?_, rfl⟩
      show D.int _ = placeD (stuckF r)
      unfold stuckF
      have hs := stuckG_some (i := 0) (post := post) hp hb
      rw [← h1, Nat.zero_add, List.length_take, Nat.min_eq_left (Nat.le_of_lt hi)] at hs
      rw [hs]
      rfl
    · have hb := of_decide_eq_false hb
      walk_at "go"
      dsimp only
      rw [h2]
      refine ⟨some (.int i), ?_, rfl, fun p x q h => ?_⟩
      · rw [reach_snoc]
        rfl
      · rcases q.eq_nil_or_concat with rfl | ⟨q', y, rfl⟩
        · have h' := List.append_inj' h rfl
          rw [← h'.1]
          have hx : e = x := by simpa using h'.2
          rw [← hx]
          have hb' : ¬ e.2.2 < mx (reach 0 (r.take i)) e.2.1 := hb
          omega
        · rw [List.concat_eq_append, ← List.cons_append, ← List.append_assoc] at h
          exact hp p x q' (List.append_inj_left' h rfl)
  · rintro ρ' m' ⟨y, rfl, rfl, hp⟩
    walk_at "go"
    refine fin_same wf rfl ⟨?_, rfl⟩
    show D.non = placeD (stuckF r)
    unfold stuckF
    rw [List.take_length] at hp
    rw [(stuckG_none 0 0 r).mpr fun p x q h => hp p x q h]
    rfl

theorem putIn_D (r : List Ent) (p : Nat) (e : Ent) : (r.map entD).take p ++ [entD e] ++ (r.map entD).drop p = (putIn r p e).map entD := by
  unfold putIn
  rw [List.map_append, List.map_append, List.map_take, List.map_drop]
  rfl
/-- r[:p] + [e] + r[p:] -/
theorem we_putin {c : Ct} {ρ : KR.Env} {m : Store} {Q : PD} {a b d : Nat} {r : List Ent} {p : Nat} {o : Option Int} {x y : Int} (ha : ρ[a]? = some (some (rowD r))) (hb : ρ[b]? = some (some (.int p))) (hd : ρ[d]? = some (some (.tup [whatD o, .int x, .int y])))
    (hp : p ≤ r.length) (hl : r.length ≤ 1000) (q : Q (rowD (putIn r p (o, x, y))) m) :
    KR.WE c (tOp rCat (tOp rCat (tSl (rSlL c.K) (tVar a) tNoPart (tPart (tVar b))) (tLst (tCons (tVar d) tNil))) (tSl (rSlL c.K) (tVar a) (tPart (tVar b)) tNoPart)) ρ m Q := by
  refine we_op (we_op (we_sl (we_var ha (wo_none (wo_some (we_var hb ⟨p, rfl, wsl_list rfl ?_⟩))))))
  rw [cut_to (by rw [List.length_map]; exact hp)]
  refine we_lst (wa_cons (we_var hd (wa_nil ⟨by simp, wr_cat rfl rfl (by rw [List.length_take, List.length_map]; simp; omega) ?_⟩)))
  refine we_sl (we_var ha (wo_some (we_var hb ⟨p, rfl, wo_none (wsl_list rfl ?_)⟩)))
  rw [cut_from (by rw [List.length_map]; exact hp)]
  refine wr_cat rfl rfl (by simp; omega) ?_
  have e := putIn_D r p (o, x, y)
  have e' : D.lst (List.take p (List.map entD r) ++ [D.tup [whatD o, D.int x, D.int y]] ++ List.drop p (List.map entD r)) = rowD (putIn r p (o, x, y)) := congrArg D.lst e
  rw [e']
  exact q
local macro_rules | `(tactic| walk_at "ce") => `(tactic| ((with_reducible refine' we_putin ?h1 ?h2 ?h3 ?h4 ?h5 ?_); (case h1 => exact rfl); (case h2 => exact rfl); (case h3 => exact rfl); (case h4 => first | assumption | omega); (case h5 => omega)))

/-- what holds of a row that a law draws -/
structure GoodRow (wh : Option Int → Prop) (most : Nat) (far : Int) (r : List Ent) : Prop where
  len : r.length ≤ most
  ent : ∀ e ∈ r, wh e.1 ∧ 0 ≤ e.2.1 ∧ e.2.1 ≤ e.2.2 ∧ e.2.2 ≤ far
  fit : stuckF r = none
def Frow2 : FSp where
  ar := 4
  G := Nat × Nat × Int × List (Option Int)
  pre := fun g ds m => ds = [.hd g.1, .int g.2.1, .int g.2.2.1, .lst (g.2.2.2.map whatD)] ∧ m[g.1]? = some .dice ∧ g.2.1 ≤ 8 ∧ 0 ≤ g.2.2.1 ∧ g.2.2.1 ≤ 10000 ∧ 0 < g.2.2.2.length ∧ g.2.2.2.length ≤ 100
  post := fun g m d m' => ∃ r, d = rowD r ∧ GoodRow (· ∈ g.2.2.2) g.2.1 g.2.2.1 r ∧ m' = m
theorem putIn_mem {r : List Ent} {p : Nat} {e x : Ent} (h : x ∈ putIn r p e) : x = e ∨ x ∈ r := by
  unfold putIn at h
  rcases List.mem_append.mp h with h | h
  · rcases List.mem_append.mp h with h | h
    · exact .inr (List.mem_of_mem_take h)
    · exact .inl (List.mem_singleton.mp h)
  · exact .inr (List.mem_of_mem_drop h)
structure KeyS where
  opens : List Int
  plain : Bool
  row : List Ent
def keyD (k : KeyS) : D := .tup [.tup (k.opens.map .int), .bl k.plain, rowD k.row]
def caseD (p : Int) (ks : List KeyS) (dr : List (List Ent)) : D := .tup [.int p, .lst (ks.map keyD), .lst (dr.map rowD)]
def IsPerson (p : Int) (w : Option Int) : Prop := ∀ x, w = some x → 0 ≤ x ∧ x < p
def IsKind (w : Option Int) : Prop := ∃ x, w = some x ∧ 0 ≤ x ∧ x ≤ 9
def Opens (l : List Int) : Prop := l.Pairwise (· < ·) ∧ ∀ x ∈ l, 0 ≤ x ∧ x ≤ 9
structure GoodCase (p : Int) (a b c : Nat) (far : Int) (ks : List KeyS) (dr : List (List Ent)) : Prop where
  k0 : 0 < ks.length
  k1 : ks.length ≤ a
  d0 : 0 < dr.length
  d1 : dr.length ≤ c
  key : ∀ k ∈ ks, Opens k.opens ∧ GoodRow (IsPerson p) b far k.row
  door : ∀ r ∈ dr, GoodRow IsKind b far r
theorem GoodRow.imp {P Q : Option Int → Prop} {n : Nat} {far : Int} {r : List Ent} (h : GoodRow P n far r) (k : ∀ w, P w → Q w) : GoodRow Q n far r := ⟨h.len, fun e he => ⟨k _ (h.ent e he).1, (h.ent e he).2⟩, h.fit⟩
def people (p : Int) (n : Nat) : List (Option Int) := (KR.upTo p).map some ++ List.replicate n none
theorem rep_flat (n : Nat) (d : D) : (List.replicate n [d]).flatten = List.replicate n d := by
  induction n with
  | zero => rfl
  | succ n ih =>
    rw [List.replicate_succ, List.flatten_cons, ih, List.replicate_succ]
    rfl
theorem people_D (p : Int) (n : Nat) : (KR.upTo p).map D.int ++ (List.replicate n [D.non]).flatten = (people p n).map whatD := by
  unfold people
  rw [List.map_append, List.map_map]
  congr 1
  induction n with
  | zero => rfl
  | succ n ih =>
    rw [List.replicate_succ, List.flatten_cons, ih]
    rfl
theorem upTo_mem {p x : Int} (h : x ∈ KR.upTo p) : 0 ≤ x ∧ x < p := by
  unfold KR.upTo at h
  obtain ⟨i, hi, rfl⟩ := List.mem_map.mp h
  have := List.mem_range.mp hi
  omega
theorem people_is {p : Int} {n : Nat} {w : Option Int} (h : w ∈ people p n) : IsPerson p w := by
  intro x hx
  subst hx
  unfold people at h
  rcases List.mem_append.mp h with h | h
  · obtain ⟨y, hy, e⟩ := List.mem_map.mp h
    cases e
    exact upTo_mem hy
  · have := (List.mem_replicate.mp h).2
    cases this
theorem kinds_D (n : Int) : (KR.upTo n).map D.int = ((KR.upTo n).map some).map whatD := by
  rw [List.map_map]
  rfl
theorem upTo_len (p : Int) : (KR.upTo p).length = p.toNat := by
  unfold KR.upTo
  rw [List.length_map, List.length_range]
theorem upTo_get {p : Int} {i : Nat} (h : i < (KR.upTo p).length) : (KR.upTo p)[i]? = some (i : Int) := by
  unfold KR.upTo at h ⊢
  rw [List.length_map, List.length_range] at h
  rw [List.getElem?_map, List.getElem?_range h]
  rfl
theorem upTo_sorted (p : Int) : (KR.upTo p).Pairwise (· < ·) := by
  unfold KR.upTo
  rw [List.pairwise_map]
  exact List.pairwise_lt_range.imp fun h => by omega
theorem keyD_hb (n : Nat) (k : KeyS) : (keyD k).hb n = true := by
  show (hbA n (k.opens.map D.int) && (true && (hbA n (k.row.map entD) && true))) = true
  rw [ints_hb, row_hb]
  rfl
theorem keys_hb (n : Nat) (l : List KeyS) : hbA n (l.map keyD) = true := by
  rw [hbA_all]
  intro d hd
  obtain ⟨k, _, rfl⟩ := List.mem_map.mp hd
  exact keyD_hb n k
def Fcase : FSp where
  ar := 4
  G := Nat × Int × (Nat × Nat × Nat) × Int
  pre := fun g ds m => ds = [.hd g.1, .int g.2.1, .tup [.int g.2.2.1.1, .int g.2.2.1.2.1, .int g.2.2.1.2.2], .int g.2.2.2] ∧ m[g.1]? = some .dice ∧ 1 ≤ g.2.1 ∧ g.2.1 ≤ 8 ∧ 0 < g.2.2.1.1 ∧ g.2.2.1.1 ≤ 6 ∧ g.2.2.1.2.1 ≤ 8 ∧ 0 < g.2.2.1.2.2 ∧ g.2.2.1.2.2 ≤ 4 ∧ 0 ≤ g.2.2.2 ∧ g.2.2.2 ≤ 999
  post := fun g m d m' => ∃ ks dr, d = caseD g.2.1 ks dr ∧ GoodCase g.2.1 g.2.2.1.1 g.2.2.1.2.1 g.2.2.1.2.2 g.2.2.2 ks dr ∧ m' = m
/-- a store that ends in a book -/
def withBk (m : Store) (B : Bk) : Store := m ++ [.dead, .lst (B.cuts.map cutD), .lst (B.keys.map rowD), .lst (B.doors.map rowD)]
theorem app_at {m : Store} {l : List Cell} {i : Nat} : (m ++ l)[m.length + i]? = l[i]? := by
  rw [List.getElem?_append_right (by omega), Nat.add_sub_cancel_left]
theorem isBk_with (m : Store) (B : Bk) : IsBk (withBk m B) m.length B := ⟨app_at, app_at, app_at⟩
theorem app_set_at {m : Store} {l : List Cell} {i : Nat} {c : Cell} : (m ++ l).set (m.length + i) c = m ++ l.set i c := by
  rw [List.set_append_right _ _ (by omega), Nat.add_sub_cancel_left]
theorem put_with (m : Store) (B B' : Bk) : putBk (withBk m B) m.length B' = withBk m B' := by
  unfold putBk withBk
  rw [app_set_at, app_set_at, app_set_at]
  rfl
theorem with_len (m : Store) (B : Bk) : (withBk m B).length = m.length + 4 := by
  unfold withBk
  rw [List.length_append]
  rfl
theorem pre_with {m : Store} {B : Bk} (h : BkOk B) {i : Nat} {e : Ent} {p : Nat} {t : Int} : Gm.pre ⟨m.length, B, i, e, p, t⟩ (withBk m B) := ⟨isBk_with m B, h, by rw [with_len]; show m.length + 3 < m.length + 4; omega⟩
theorem fits_prefix {a b : List Ent} (h : stuckF (a ++ b) = none) : stuckF a = none := by
  unfold stuckF at h ⊢
  rw [stuckG_none] at h ⊢
  intro p e q eq
  exact h p e (q ++ b) (by rw [eq]; simp)
theorem putIn_end (r : List Ent) (e : Ent) : putIn r r.length e = r ++ [e] := by
  unfold putIn
  simp
theorem rowAt_mid (a b : List (List Ent)) (r : List Ent) : rowAt (a ++ r :: b) a.length = r := by
  unfold rowAt
  rw [List.getD_eq_getElem?_getD, List.getElem?_append_right (Nat.le_refl _)]
  simp
theorem set_mid (a b : List (List Ent)) (r r' : List Ent) : (a ++ r :: b).set a.length r' = a ++ r' :: b := by
  rw [List.set_append_right _ _ (Nat.le_refl _)]
  simp
/-- the book of a case -/
def bookOf (p : Int) (ks : List KeyS) (dr : List (List Ent)) : Bk := ⟨p, ks.map fun k => (k.opens, k.plain), ks.map (·.row), dr⟩
/-- what law_book asks of a case -/
structure CaseOk (p : Int) (ks : List KeyS) (dr : List (List Ent)) : Prop where
  p0 : 1 ≤ p ∧ p ≤ 8
  kl : ks.length ≤ 6
  d0 : 0 < dr.length ∧ dr.length ≤ 4
  key : ∀ k ∈ ks, Opens k.opens ∧ GoodRow (IsPerson p) 8 999 k.row
  door : ∀ r ∈ dr, GoodRow IsKind 8 999 r
theorem GoodRow.wide {P : Option Int → Prop} {a b : Nat} {x y : Int} {r : List Ent} (h : GoodRow P a x r) (ha : a ≤ b) (hx : x ≤ y) : GoodRow P b y r := ⟨Nat.le_trans h.len ha, fun e he => by
  obtain ⟨h1, h2, h3, h4⟩ := h.ent e he
  exact ⟨h1, h2, h3, Int.le_trans h4 hx⟩, h.fit⟩
theorem GoodCase.ok {p : Int} {a b c : Nat} {far : Int} {ks : List KeyS} {dr : List (List Ent)} (h : GoodCase p a b c far ks dr) (hp : 1 ≤ p ∧ p ≤ 8) (ha : a ≤ 6) (hb : b ≤ 8) (hc : c ≤ 4) (hf : far ≤ 999) : CaseOk p ks dr :=
  ⟨hp, Nat.le_trans h.k1 ha, ⟨h.d0, Nat.le_trans h.d1 hc⟩, fun k hk => ⟨(h.key k hk).1, (h.key k hk).2.wide hb hf⟩, fun r hr => (h.door r hr).wide hb hf⟩
theorem bkOk_of {p : Int} {cs : List (List Int × Bool)} {ks dr : List (List Ent)} (hp : 0 ≤ p ∧ p ≤ 8) (hc : cs.length = ks.length) (hk : ks.length ≤ 6) (hd : dr.length ≤ 4) (kr : ∀ r ∈ ks, r.length ≤ 8) (hr : ∀ r ∈ dr, r.length ≤ 8) : BkOk ⟨p, cs, ks, dr⟩ := ⟨hp, hc, hk, hd, kr, hr⟩
def Fbook (C : Addr) : FSp where
  ar := 1
  G := Int × List KeyS × List (List Ent)
  pre := fun g ds _ => ds = [caseD g.1 g.2.1 g.2.2] ∧ CaseOk g.1 g.2.1 g.2.2
  post := fun g m d m' => d = bookD C g.1 m.length ∧ m' = withBk m (bookOf g.1 g.2.1 g.2.2)
/-- plain data, less than so deep -/
inductive Pl : Nat → D → Prop
  | non (n : Nat) : Pl (n + 1) .non
  | bl (n : Nat) (b : Bool) : Pl (n + 1) (.bl b)
  | int (n : Nat) (i : Int) : Pl (n + 1) (.int i)
  | str (n : Nat) (x : Str) : Pl (n + 1) (.str x)
  | tup {n : Nat} {ds : List D} (h : ∀ d ∈ ds, Pl n d) (hl : ds.length ≤ 1000) : Pl (n + 1) (.tup ds)
  | lst {n : Nat} {ds : List D} (h : ∀ d ∈ ds, Pl n d) (hl : ds.length ≤ 1000) : Pl (n + 1) (.lst ds)
theorem Pl.zero {d : D} (h : Pl 0 d) : False := by cases h
/-- what is found (cells among it) is what is due -/
inductive Lk (m : Store) : D → D → Prop
  | refl (d : D) : Lk m d d
  | hd {k : Nat} {xs : List D} (h : m[k]? = some (.lst xs)) : Lk m (.hd k) (.lst xs)
  | tup {xs ys : List D} (hl : xs.length = ys.length) (h : ∀ (i : Nat) (x y : D), xs[i]? = some x → ys[i]? = some y → Lk m x y) : Lk m (.tup xs) (.tup ys)
def Flk (n : Nat) : FSp where
  ar := 2
  G := D × D
  pre := fun g ds m => ds = [g.1, g.2] ∧ Lk m g.1 g.2 ∧ Pl n g.2
  post := fun _ m d m' => d = .bl true ∧ m' = m
theorem calls_lk {c : Ct} {n : Nat} {x y : D} {m : Store} {P : PD} (h : Lk m x y) (hp : Pl n y) (p : P (.bl true) m) : Calls c (Flk n) [x, y] m P :=
  ⟨rfl, (x, y), ⟨rfl, h, hp⟩, fun d m2 ⟨e1, e2⟩ => by rw [e1, e2]; exact p, fun _ _ _ h => h.elim⟩
theorem lk_end {n : Nat} {g : D × D} {m : Store} (wf : Wf m) : KR.Fin (Flk n) g m (.bl true) m := fin_same wf rfl ⟨rfl, rfl⟩
/-! ### worlds that show something -/
def hadD : Option (Nat × Int) → D
  | none => .non
  | some (a, w) => .tup [.int ((a : Int) - 1), .int w]
theorem find_range {n i : Nat} {p : Nat → Bool} (hi : i < n) (h : ∀ a, a < i → p a = false) (hp : p i = true) : (List.range n).find? p = some i :=
  List.find?_range_eq_some.mpr ⟨hp, List.mem_range.mpr hi, fun j hj => by rw [h j hj]; rfl⟩
theorem find_range_none {n : Nat} {p : Nat → Bool} (h : ∀ a, a < n → p a = false) : (List.range n).find? p = none :=
  List.find?_eq_none.mpr fun a ha => by rw [h a (List.mem_range.mp ha)]; exact Bool.false_ne_true
theorem pick_niT {A B : Prop} {d : D} (e : d.isNon = false) (h : A) : ((!d.isNon) = true → A) ∧ ((!d.isNon) = false → B) := by rw [e]; exact pick_t h
theorem pick_niF {A B : Prop} {d : D} (e : d.isNon = true) (h : B) : ((!d.isNon) = true → A) ∧ ((!d.isNon) = false → B) := by rw [e]; exact pick_f h
theorem wt_is {c : Ct} {ρ : KR.Env} {m : Store} {t : TT} {P : Bool → Store → Prop} {b0 : Bool} (h : KR.WT c t ρ m fun b m1 => b = b0 ∧ m1 = m) (p : P b0 m) : KR.WT c t ρ m P := h.imp fun b m1 ⟨e1, e2⟩ => by
  rw [e1, e2]
  exact p
def Fhad : FSp := tells 4 (List Ent × Int × Bool × Int) (fun g ds => ds = [rowD g.1, .int g.2.1, .bl g.2.2.1, .int g.2.2.2] ∧ g.1.length ≤ 8) fun g => hadD (hadF g.1 g.2.1 g.2.2.1 g.2.2.2)
theorem ok_had (T : Tx K mg) : FnOk P w K mg base CX0 3 T.a_place_had T.f_place_had ["row", "person", "plain", "moment"] (spD K Fhad) := by
  have G_spans := ok_spans (P := P) (w := w) (base := base) T
  have G_in_force := ok_inf (P := P) (w := w) (base := base) T
  refine ok0 T.F_place_had sc_place_had rfl (fun _ _ _ _ _ h => h) (fun cdv A outer s H E hr => ⟨_, pss_cons (ps_for PassesOwn.never rfl (pi_enumKK (K := K) (pi_enumK' rfl T.n_enumerate (pa_cons (pe_call G_spans (hr.mono (by first | decide | omega)) rfl T.g_spans T.k_spans T.b_spans .nil pass0 (pa_cons (pv 0) (pa_nil))) (pa_nil)) (pk_cons (pe_glob (v := .int (-1)) rfl T.g_NOTHING_YET ⟨_, rfl⟩) pk_nil))) (pg_tupK (K := K) (n := 2) (pg_tup (n := 2) rfl (pgs_cons (pg_name (i := 4) sc_place_had.nd rfl (by first | exact Or.inl rfl | exact Or.inr rfl)) (pgs_cons (pg_tupK (K := K) (n := 2) (pg_tup (n := 2) rfl (pgs_cons (pg_name (i := 5) sc_place_had.nd rfl (by first | exact Or.inl rfl | exact Or.inr rfl)) (pgs_cons (pg_name (i := 6) sc_place_had.nd rfl (by first | exact Or.inl rfl | exact Or.inr rfl)) (pgs_nil))))) (pgs_nil))))) (pss_cons (ps_asg (pe_callB (call_min2 rfl) (by rfl) T.n_min (by decide +kernel) (pa_cons (pv 3) (pa_cons (pe_op op_sub (pv 6) (pe_int)) (pa_nil)))) (pg_name (i := 7) sc_place_had.nd rfl (by first | exact Or.inl rfl | exact Or.inr rfl))) (pss_one (ps_if (PW.pt (pw_and (pt_cmpR op_le (pv 5) (pv 7) (nomark _)) (pw_and (PW.pt (pw_or (pt_val (pv 2)) (pw_or1 (pt_cmpR op_eq (pv 7) (pv 3) (nomark _))))) (pw_and1 (pt_cmpR (op_inK (K := K)) (pe_call G_in_force (hr.mono (by first | decide | omega)) rfl T.g_in_force T.k_in_force T.b_in_force .nil pass0 (pa_cons (pv 0) (pa_cons (pv 4) (pa_nil)))) (pe_tup (pa_cons (pv 1) (pa_cons (pe_non) (pa_nil)))) (by rfl)))))) (pss_one (ps_ret (pe_tup (pa_cons (pv 4) (pa_cons (pv 7) (pa_nil)))))) (pss_nil))))) (pss_one (ps_ret (pe_non))), ?_⟩)
  rintro ⟨r, who, plain, t⟩ ds m ⟨rfl, hl⟩ wf
  dsimp only at hl
  try dsimp only
  walk_at "go"
  refine ws_for (wi_enumK ?_)
  walk_at "go"
  refine calls_tells r ⟨rfl, by omega⟩ ?_
  walk_at "go"
  rw [spans_len]
  refine ⟨fun i ρ' m' => (∀ a, a < i → hadT r who plain t a = false) ∧ m' = m ∧ ∃ x y z u, ρ' = [some (rowD r), some (.int who), some (.bl plain), some (.int t), x, y, z, u], ⟨fun a ha => (by omega), rfl, none, none, none, none, rfl⟩, ?_, ?_⟩
  · rintro i ρ' m' hi ⟨hno, rfl, x, y, z, u, rfl⟩
    dsimp only
    rw [spans_get hi, show (-1 : Int) + (i : Int) = (i : Int) - 1 by omega]
    refine wg_tup rfl (wgs_cons (wg_name (wgs_cons (wg_tup rfl (wgs_cons (wg_name (wgs_cons (wg_name (wgs_nil (wgs_nil ?_))))))))))
    have next : hadT r who plain t i = false → ∀ a, a < i + 1 → hadT r who plain t a = false := fun h a ha => by
      rcases Nat.lt_or_ge a i with h1 | h1
      · exact hno a h1
      · rw [show a = i by omega]
        exact h
    refine ws_seq (ws_asg ?_)
    walk_at "ex"
    show WS _ _ [some (rowD r), some (.int who), some (.bl plain), some (.int t), some (.int ((i : Int) - 1)), some (.int (beginF r i)), some (.int (endF r i)), some (.int (mn t (endF r i - 1)))] _ _
    refine ws_if (wt_is (b0 := hadT r who plain t i) ?_ ⟨fun hb => ?_, fun hb => ?_⟩)
    rotate_left
    · walk_at "go"
      refine fin_same wf rfl ⟨?_, rfl⟩
      show _ = hadD (hadF r who plain t)
      unfold hadF
      rw [find_range hi hno hb]
      rfl
    · walk_at "go"
      exact ⟨next hb, rfl, _, _, _, _, rfl⟩
    have hT : hadT r who plain t i = (decide (beginF r i ≤ mn t (endF r i - 1)) && ((plain || decide (mn t (endF r i - 1) = t)) && (decide (wh r i = some who) || decide (wh r i = none)))) := Bool.and_assoc ..
    rw [hT]
    walk_at "go"
    refine ⟨fun h1 => ?_, fun h1 => by rw [h1, Bool.false_and]; exact ⟨rfl, rfl⟩⟩
    rw [h1, Bool.true_and]
    have last : KR.WT (C0 K) (tTest (tOp (rIn K false) (tCall (spD K Finf) [] E0 (tCons (tVar 0) (tCons (tVar 4) tNil))) (tTup (tCons (tVar 1) (tCons (tC .non) tNil))))) [some (rowD r), some (.int who), some (.bl plain), some (.int t), some (.int ((i : Int) - 1)), some (.int (beginF r i)), some (.int (endF r i)), some (.int (mn t (endF r i - 1)))] m' fun b m1 => b = (decide (wh r i = some who) || decide (wh r i = none)) ∧ m1 = m' := by
      walk_at "go"
      refine calls_tells (r, i) ⟨rfl, by dsimp only; omega, by dsimp only; omega⟩ ?_
      walk_at "go"
      refine wr_in (a := whatV (wh r i)) (what_flat _) rfl (whats_flat [some who, none]) ?_
      rw [in_what]
      walk_at "go"
      refine ⟨?_, rfl⟩
      show decide (_ ∈ [_, _]) = _
      simp
    refine wt_and (wt_is (b0 := plain || decide (mn t (endF r i - 1) = t)) ?_ ⟨fun h2 => ?_, fun h2 => ?_⟩)
    · cases plain with
      | true =>
        walk_at "go"
        exact ⟨rfl, rfl⟩
      | false =>
        walk_at "go"
        refine ⟨?_, rfl⟩
        rw [Bool.false_or]
        exact decide_eq_decide.mpr ⟨fun h => V.int.inj h, fun h => congrArg V.int h⟩
    · rw [h2, Bool.true_and]
      exact last
    · rw [h2, Bool.false_and]
      exact ⟨rfl, rfl⟩
  · rintro ρ' m' ⟨hno, rfl, x, y, z, u, rfl⟩
    walk_at "go"
    refine fin_same wf rfl ⟨?_, rfl⟩
    show D.non = hadD _
    unfold hadF
    rw [find_range_none hno]
    rfl

local macro_rules | `(tactic| walk_at "r") => `(tactic| first
  | ((with_reducible refine' pick_niT ?h1 ?_); (case h1 => exact rfl)) | ((with_reducible refine' pick_niF ?h1 ?_); (case h1 => exact rfl)))

/-! ### lists that are the asker's own -/
theorem find_mid {α : Type} {p : α → Bool} {pre post : List α} {a : α} (h : ∀ x ∈ pre, p x = false) (ha : p a = true) : (pre ++ a :: post).find? p = some a := by
  induction pre with
  | nil => rw [List.nil_append, List.find?_cons_of_pos ha]
  | cons x pre ih =>
    rw [List.cons_append, List.find?_cons_of_neg (by rw [h x List.mem_cons_self]; exact Bool.false_ne_true)]
    exact ih fun y hy => h y (List.mem_cons_of_mem _ hy)
theorem find_no {α : Type} {p : α → Bool} {l : List α} (h : ∀ x ∈ l, p x = false) : l.find? p = none := List.find?_eq_none.mpr fun x hx => by rw [h x hx]; exact Bool.false_ne_true
theorem snoc_all {α : Type} {p : α → Prop} {l : List α} {a : α} (h : ∀ x ∈ l, p x) (ha : p a) : ∀ x ∈ l ++ [a], p x := fun x hx => by
  rcases List.mem_append.mp hx with hx | hx
  · exact h x hx
  · rw [List.mem_singleton.mp hx]
    exact ha
theorem in_opens (o : Option Int) (opens : List Int) : inV (whatV o) (opens.map V.int) = opn opens o := by
  have e : opens.map V.int = (opens.map some).map whatV := by rw [List.map_map]; rfl
  rw [e, in_what]
  unfold opn
  rw [Bool.eq_iff_iff, decide_eq_true_eq, List.mem_map, List.any_eq_true]
  exact ⟨fun ⟨k, h1, h2⟩ => ⟨k, h1, decide_eq_true h2.symm⟩, fun ⟨k, h1, h2⟩ => ⟨k, h1, (of_decide_eq_true h2).symm⟩⟩
theorem opens_flat (opens : List Int) : (opens.map D.int).map D.flat = (opens.map V.int).map some := by rw [List.map_map, List.map_map]; rfl
theorem ne_whatI (o : Option Int) (x : Int) : (!decide (whatV o = V.int x)) = !decide (o = some x) := by
  cases o with
  | none => rfl
  | some y =>
    congr 1
    by_cases hx : y = x
    · subst hx
      simp [whatV]
    · rw [decide_eq_false (fun e : whatV (some y) = V.int x => hx (V.int.inj e)), decide_eq_false (fun e => hx (Option.some.inj e))]
theorem scal_whatI (o : Option Int) (x : Int) : scal (whatV o) (.int x) = true := by cases o <;> rfl
theorem stand_Aints (r : List Ent) (t : Int) : intsD (standF r t) = .lst ((standA r t).map fun a : Nat => D.int ((a : Int) - 1)) := by
  unfold intsD
  rw [stand_A, List.map_map]
  rfl
theorem A_le {r : List Ent} {t : Int} {a : Nat} (h : a ∈ standA r t) : a ≤ r.length := by
  unfold standA at h
  have := List.mem_range.mp (List.mem_filter.mp h).1
  omega
def fresh (ar : Nat) (G : Type) (pre : G → List D → Prop) (f : G → List D) : FSp where
  ar := ar
  G := G
  pre := fun g ds _ => pre g ds
  post := fun g m d m' => d = .hd m.length ∧ m' = m ++ [.lst (f g)]
theorem calls_fresh {c : Ct} {ar : Nat} {G : Type} {pre : G → List D → Prop} {f : G → List D} {ds : List D} {m : Store} {P : PD} (g : G) (hp : pre g ds) (p : P (.hd m.length) (m ++ [.lst (f g)])) (hl : ds.length = ar := by rfl) : Calls c (fresh ar G pre f) ds m P :=
  ⟨hl, g, hp, fun d m2 ⟨e1, e2⟩ => by rw [e1, e2]; exact p, fun _ _ _ h => h.elim⟩
theorem wr_catM {c : Ct} {m : Store} {P : PD} {x y : D} {xs ys : List D} (hx : listD m x = some xs) (hy : listD m y = some ys) (hl : xs.length + ys.length ≤ 10000000) (p : P (.hd m.length) (m ++ [.lst (xs ++ ys)])) : WR c rCat x y m P := fun vx vy w H rx ry s o Q q => by
  obtain ⟨a, us, rfl, h1, r1⟩ := s.list rx hx
  obtain ⟨b, vs, rfl, h2, r2⟩ := s.list ry hy
  refine ⟨a, b, us, vs, rfl, rfl, h1, h2, by rw [r1.length, r2.length]; exact Nat.le_trans hl (by decide), fun e he => ?_⟩
  obtain ⟨w2, l2, s2, r3⟩ := newL s he (r1.append r2)
  exact q _ _ _ _ _ l2 r3 s2 p
def FsoonM : FSp := fresh 1 (List Ent) (fun r ds => ds = [rowD r] ∧ r.length ≤ 9) fun r => (soonF 0 r).map .int
theorem ok_soonM (T : Tx K mg) : FnOk P w K mg base CX0 1 T.a_soonest T.f_soonest ["row"] (spD K FsoonM) := by
  refine ok0 T.F_soonest sc_soonest rfl (fun _ _ _ _ _ h => h) (fun cdv A outer s H E hr => ⟨_, pss_cons (ps_asg (pe_lst (pa_nil)) (pg_name (i := 1) sc_soonest.nd rfl (by first | exact Or.inl rfl | exact Or.inr rfl))) (pss_cons (ps_asg (pe_int) (pg_name (i := 2) sc_soonest.nd rfl (by first | exact Or.inl rfl | exact Or.inr rfl))) (pss_cons (ps_for PassesOwn.never rfl (pi_listK (K := K) (pi_list (pv 0))) (pg_name (i := 3) sc_soonest.nd rfl (by first | exact Or.inl rfl | exact Or.inr rfl)) (pss_cons (ps_asg (pe_callB (call_max2 rfl) (by rfl) T.n_max (by decide +kernel) (pa_cons (pv 2) (pa_cons (pe_ix (ix_seqK (K := K)) (pv 3) (pe_int) (fun _ _ => rfl)) (pa_nil)))) (pg_name (i := 2) sc_soonest.nd rfl (by first | exact Or.inl rfl | exact Or.inr rfl))) (pss_one (ps_expr (pe_bmK (K := K) (pe_bm PySem.F.plainAttrs_list PySem.F.slot_list_append PySem.F.type_list_append mt_append (pv 1) (pa_cons (pv 2) (pa_nil)))))))) (pss_one (ps_ret (pv 1))))), ?_⟩)
  rintro (r : List Ent) ds m ⟨rfl, hl⟩ wf
  walk_at "go"
  refine we_lstM ?_
  walk_at "go"
  refine ws_forL (f := entD) ?_
  walk_at "go"
  refine ⟨fun pre ρ' m' => ∃ y, ρ' = [some (rowD r), some (.hd m.length), some (.int (reach 0 pre)), y] ∧ m' = m ++ [.lst ((soonF 0 pre).map .int)], ⟨none, rfl, rfl⟩, ?_, ?_⟩
  · rintro pre e post ρ' m' hr ⟨y, rfl, rfl⟩
    walk_at "go"
    refine wm_append app_get ?_ ?_
    · rw [List.length_map, soonF_len]
      have := congrArg List.length hr
      simp at this
      omega
    · rw [app_set]
      refine ⟨some (entD e), ?_, ?_⟩
      · rw [reach_snoc]
        rfl
      · rw [soonF_snoc, List.map_append]
        rfl
  · rintro ρ' m' ⟨y, rfl, rfl⟩
    walk_at "go"
    exact fin_cell wf (ints_hb _ _) ⟨rfl, rfl⟩
def FmomsM : FSp := fresh 2 (List Ent × Nat) (fun g ds => ds = [rowD g.1, .int ((g.2 : Int) - 1)] ∧ g.1.length ≤ 9 ∧ g.2 ≤ g.1.length) fun g => (momsBy g.1 g.2).map .int
theorem ok_momsM (T : Tx K mg) : FnOk P w K mg base CX0 2 T.a_moments_by T.f_moments_by ["row", "place"] (spD K FmomsM) := by
  have G_soonest := ok_soon (P := P) (w := w) (base := base) T
  have G_latest := ok_lat (P := P) (w := w) (base := base) T
  refine ok0 T.F_moments_by sc_moments_by rfl (fun _ _ _ _ _ h => h) (fun cdv A outer s H E hr => ⟨_, pss_one (ps_ret (pe_op op_cat (pe_slice (sl_listK (K := K)) (pe_call G_soonest (hr.mono (by first | decide | omega)) rfl T.g_soonest T.k_soonest T.b_soonest .nil pass0 (pa_cons (pv 0) (pa_nil))) po_none (po_some (pe_op op_add (pv 1) (pe_int)))) (pe_slice (sl_listK (K := K)) (pe_call G_latest (hr.mono (by first | decide | omega)) rfl T.g_latest T.k_latest T.b_latest .nil pass0 (pa_cons (pv 0) (pa_nil))) (po_some (pe_op op_add (pv 1) (pe_int))) po_none))), ?_⟩)
  rintro ⟨r, a⟩ ds m ⟨rfl, hl, ha⟩ wf
  dsimp only at hl ha
  try dsimp only
  walk_at "go"
  refine calls_tells r ⟨rfl, hl⟩ ?_
  walk_at "go"
  rw [show (a : Int) - 1 + 1 = (a : Int) by omega]
  refine wsl_list (ds := (soonF 0 r).map .int) rfl ?_
  rw [cutZ_to (by rw [List.length_map, soonF_len]; exact ha)]
  walk_at "go"
  refine calls_tells r ⟨rfl, hl⟩ ?_
  walk_at "go"
  rw [show (a : Int) - 1 + 1 = (a : Int) by omega]
  refine wsl_list (ds := (latF r).map .int) rfl ?_
  rw [cutZ_on (by rw [List.length_map, latF_len]; exact ha)]
  refine wr_catM rfl rfl ?_ ?_
  · rw [List.length_take, List.length_drop, List.length_map, List.length_map, soonF_len, latF_len]
    omega
  have e : ((soonF 0 r).map D.int).take a ++ ((latF r).map D.int).drop a = (momsBy r a).map .int := by
    unfold momsBy
    rw [List.map_append, List.map_take, List.map_drop]
  rw [e]
  exact fin_cell wf (ints_hb _ _) ⟨rfl, rfl⟩
def atD : Option Nat → D
  | none => .non
  | some b => .int ((b : Int) - 1)
def Fopened : FSp := tells 3 (List Ent × List Int × Int) (fun g ds => ds = [rowD g.1, .tup (g.2.1.map .int), .int g.2.2] ∧ g.1.length ≤ 8) fun g => atD (openedF g.1 g.2.1 g.2.2)
theorem ok_opened (T : Tx K mg) : FnOk P w K mg base CX0 4 T.a_place_opened T.f_place_opened ["fitted", "opens", "moment"] (spD K Fopened) := by
  have G_standing := ok_stand (P := P) (w := w) (base := base) T
  have G_in_force := ok_inf (P := P) (w := w) (base := base) T
  refine ok0 T.F_place_opened sc_place_opened rfl (fun _ _ _ _ _ h => h) (fun cdv A outer s H E hr => ⟨_, pss_cons (ps_for PassesOwn.never rfl (pi_listK (K := K) (pi_list (pe_call G_standing (hr.mono (by first | decide | omega)) rfl T.g_standing T.k_standing T.b_standing .nil pass0 (pa_cons (pv 0) (pa_cons (pv 2) (pa_nil)))))) (pg_name (i := 3) sc_place_opened.nd rfl (by first | exact Or.inl rfl | exact Or.inr rfl)) (pss_one (ps_if (pt_cmpR (op_inK (K := K)) (pe_call G_in_force (hr.mono (by first | decide | omega)) rfl T.g_in_force T.k_in_force T.b_in_force .nil pass0 (pa_cons (pv 0) (pa_cons (pv 3) (pa_nil)))) (pv 1) (by rfl)) (pss_one (ps_ret (pv 3))) (pss_nil)))) (pss_one (ps_ret (pe_non))), ?_⟩)
  rintro ⟨f, opens, t⟩ ds m ⟨rfl, hl⟩ wf
  dsimp only at hl
  try dsimp only
  walk_at "go"
  refine ws_forL (f := fun a : Nat => D.int ((a : Int) - 1)) ?_
  walk_at "go"
  refine calls_tells (f, t) ⟨rfl, hl⟩ ?_
  refine ⟨standA f t, stand_Aints f t, fun pre ρ' m' => (∀ a ∈ pre, opn opens (wh f a) = false) ∧ m' = m ∧ ∃ x, ρ' = [some (rowD f), some (.tup (opens.map .int)), some (.int t), x], ⟨fun a ha => (by cases ha), rfl, none, rfl⟩, ?_, ?_⟩
  · rintro pre a post ρ' m' ea ⟨hno, rfl, x, rfl⟩
    have ha := A_le (r := f) (t := t) (a := a) (by rw [ea]; simp)
    walk_at "go"
    refine calls_tells (f, a) ⟨rfl, by dsimp only; omega, ha⟩ ?_
    walk_at "go"
    refine wr_in (a := whatV (wh f a)) (what_flat _) rfl (opens_flat _) ?_
    rw [in_opens]
    walk_at "go"
    refine ⟨fun hb => ?_, fun hb => ?_⟩
    · have hb : opn opens (wh f a) = true := hb
      walk_at "go"
      refine fin_same wf rfl ⟨?_, rfl⟩
      show _ = atD (openedF f opens t)
      unfold openedF
      rw [ea, find_mid (p := fun b => opn opens (wh f b)) hno hb]
      rfl
    · have hb : opn opens (wh f a) = false := hb
      walk_at "go"
      exact ⟨snoc_all hno hb, rfl, _, rfl⟩
  · rintro ρ' m' ⟨hno, rfl, x, rfl⟩
    walk_at "go"
    refine fin_same wf rfl ⟨?_, rfl⟩
    show _ = atD (openedF f opens t)
    unfold openedF
    rw [find_no hno]
    rfl
/-- a list of its own, or none -/
def OptHd (m m' : Store) (d : D) : Option (List Int) → Prop
  | none => d = .non ∧ ∃ j, m' = m ++ j
  | some l => d = .hd m.length ∧ m' = m ++ [.lst (l.map .int)]
def Fwithout : FSp where
  ar := 3
  G := List Ent × Int × Int
  pre := fun g ds _ => ds = [rowD g.1, .int g.2.1, .int g.2.2] ∧ g.1.length ≤ 8
  post := fun g m d m' => OptHd m m' d ((withoutF g.1 g.2.1 g.2.2).map (momsBy g.1))
theorem ok_without (T : Tx K mg) : FnOk P w K mg base CX0 4 T.a_moments_without T.f_moments_without ["row", "person", "moment"] (spD K Fwithout) := by
  have G_standing := ok_stand (P := P) (w := w) (base := base) T
  have G_in_force := ok_inf (P := P) (w := w) (base := base) T
  have G_moments_by := ok_momsM (P := P) (w := w) (base := base) T
  refine ok0 T.F_moments_without sc_moments_without rfl (fun _ _ _ _ _ h => h) (fun cdv A outer s H E hr => ⟨_, pss_cons (ps_for PassesOwn.never rfl (pi_listK (K := K) (pi_list (pe_call G_standing (hr.mono (by first | decide | omega)) rfl T.g_standing T.k_standing T.b_standing .nil pass0 (pa_cons (pv 0) (pa_cons (pv 2) (pa_nil)))))) (pg_name (i := 3) sc_moments_without.nd rfl (by first | exact Or.inl rfl | exact Or.inr rfl)) (pss_one (ps_if (pt_cmpR op_ne (pe_call G_in_force (hr.mono (by first | decide | omega)) rfl T.g_in_force T.k_in_force T.b_in_force .nil pass0 (pa_cons (pv 0) (pa_cons (pv 3) (pa_nil)))) (pv 1) (nomark _)) (pss_one (ps_ret (pe_call G_moments_by (hr.mono (by first | decide | omega)) rfl T.g_moments_by T.k_moments_by T.b_moments_by .nil pass0 (pa_cons (pv 0) (pa_cons (pv 3) (pa_nil)))))) (pss_nil)))) (pss_one (ps_ret (pe_non))), ?_⟩)
  rintro ⟨r, who, t⟩ ds m ⟨rfl, hl⟩ wf
  dsimp only at hl
  try dsimp only
  walk_at "go"
  refine ws_forL (f := fun a : Nat => D.int ((a : Int) - 1)) ?_
  walk_at "go"
  refine calls_tells (r, t) ⟨rfl, hl⟩ ?_
  refine ⟨standA r t, stand_Aints r t, fun pre ρ' m' => (∀ a ∈ pre, (!decide (wh r a = some who)) = false) ∧ m' = m ∧ ∃ x, ρ' = [some (rowD r), some (.int who), some (.int t), x], ⟨fun a ha => (by cases ha), rfl, none, rfl⟩, ?_, ?_⟩
  · rintro pre a post ρ' m' ea ⟨hno, rfl, x, rfl⟩
    have ha := A_le (r := r) (t := t) (a := a) (by rw [ea]; simp)
    walk_at "go"
    refine calls_tells (r, a) ⟨rfl, by dsimp only; omega, ha⟩ ?_
    walk_at "go"
    refine wr_ne (what_flat (wh r a)) rfl (scal_whatI _ _) ?_
    rw [ne_whatI]
    walk_at "go"
    refine ⟨fun hb => ?_, fun hb => ?_⟩
    · walk_at "go"
      refine calls_fresh (r, a) ⟨rfl, by dsimp only; omega, ha⟩ ?_
      refine fin_cell wf (ints_hb _ _) ?_
      show OptHd m' (m' ++ [_]) _ ((withoutF r who t).map (momsBy r))
      unfold withoutF
      rw [ea, find_mid (p := fun a => !decide (wh r a = some who)) hno hb]
      exact ⟨rfl, rfl⟩
    · walk_at "go"
      exact ⟨snoc_all hno hb, rfl, _, rfl⟩
  · rintro ρ' m' ⟨hno, rfl, x, rfl⟩
    walk_at "go"
    refine fin_same wf rfl ?_
    show OptHd m' m' _ ((withoutF r who t).map (momsBy r))
    unfold withoutF
    rw [find_no hno]
    exact ⟨rfl, [], (List.append_nil _).symm⟩

/-! ### keys and doors of a book -/
def Bk.ks (B : Bk) : List KeyW := (B.cuts.zip B.keys).map fun p => ⟨p.1.1, p.1.2, p.2⟩
def kcutD (k : KeyW) : D := .tup [.tup (k.opens.map .int), .bl k.plain]
theorem ks_cuts {B : Bk} (h : B.cuts.length = B.keys.length) : B.cuts.map cutD = B.ks.map kcutD := by
  unfold Bk.ks
  rw [List.map_map]
  have : B.cuts.map cutD = ((B.cuts.zip B.keys).map Prod.fst).map cutD := by rw [List.map_fst_zip (by omega)]
  rw [this, List.map_map]
  rfl
theorem ks_len {B : Bk} (h : B.cuts.length = B.keys.length) : B.ks.length = B.keys.length := by
  unfold Bk.ks
  rw [List.length_map, List.length_zip, h, Nat.min_self]
theorem ks_row {B : Bk} (h : B.cuts.length = B.keys.length) {pre post : List KeyW} {k : KeyW} (e : B.ks = pre ++ k :: post) : pre.length < B.keys.length ∧ rowAt B.keys pre.length = k.row := by
  have hl : pre.length < B.ks.length := by rw [e, List.length_append, List.length_cons]; omega
  have hk : pre.length < B.keys.length := by rw [← ks_len h]; exact hl
  refine ⟨hk, ?_⟩
  have h1 : B.ks[pre.length]? = some k := by rw [e, List.getElem?_append_right (Nat.le_refl _)]; simp
  unfold Bk.ks at h1
  rw [List.getElem?_map, Option.map_eq_some_iff] at h1
  obtain ⟨p, hp, rfl⟩ := h1
  rw [List.getElem?_zip_eq_some] at hp
  unfold rowAt
  rw [List.getD_eq_getElem?_getD, hp.2]
  rfl
theorem ks_mem_row {B : Bk} {k : KeyW} (h : k ∈ B.ks) : k.row ∈ B.keys := by
  unfold Bk.ks at h
  obtain ⟨p, hp, rfl⟩ := List.mem_map.mp h
  exact (List.of_mem_zip hp).2
theorem kcuts_hb (n : Nat) (l : List KeyW) : hbA n (l.map kcutD) = true := by
  rw [hbA_all]
  intro d hd
  obtain ⟨r, _, rfl⟩ := List.mem_map.mp hd
  show (hbA n (r.opens.map D.int) && (true && true)) = true
  rw [ints_hb]
  rfl
/-- in cells behind A a list of ints, or None -/
def OptAt (a : Nat) (m : Store) (d : D) : Option (List Int) → Prop
  | none => d = .non
  | some l => ∃ h, d = .hd h ∧ a < h ∧ m[h]? = some (.lst (l.map .int))
def OptsAt (a : Nat) (m : Store) : List D → List (Option (List Int)) → Prop
  | [], [] => True
  | d :: ds, o :: os => OptAt a m d o ∧ OptsAt a m ds os
  | _, _ => False
theorem optAt_mono {a : Nat} {m m' : Store} {d : D} {o : Option (List Int)} (h : OptAt a m d o) (g : ∀ (k : Nat) (x : Cell), a < k → m[k]? = some x → m'[k]? = some x) : OptAt a m' d o := by
  cases o with
  | none => exact h
  | some l =>
    obtain ⟨k, e, h1, h2⟩ := h
    exact ⟨k, e, h1, g _ _ h1 h2⟩
theorem optsAt_mono {a : Nat} {m m' : Store} (g : ∀ (k : Nat) (x : Cell), a < k → m[k]? = some x → m'[k]? = some x) : ∀ {ds : List D} {os : List (Option (List Int))}, OptsAt a m ds os → OptsAt a m' ds os
  | [], [], _ => trivial
  | _ :: _, _ :: _, h => ⟨optAt_mono h.1 g, optsAt_mono g h.2⟩
  | [], _ :: _, h => h
  | _ :: _, [], h => h
theorem optsAt_snoc {a : Nat} {m : Store} {d : D} {o : Option (List Int)} (hd : OptAt a m d o) : ∀ {ds : List D} {os : List (Option (List Int))}, OptsAt a m ds os → OptsAt a m (ds ++ [d]) (os ++ [o])
  | [], [], _ => ⟨hd, trivial⟩
  | _ :: _, _ :: _, h => ⟨h.1, optsAt_snoc hd h.2⟩
  | [], _ :: _, h => h.elim
  | _ :: _, [], h => h.elim
theorem optsAt_len {a : Nat} {m : Store} : ∀ {ds : List D} {os : List (Option (List Int))}, OptsAt a m ds os → ds.length = os.length
  | [], [], _ => rfl
  | _ :: _, _ :: _, h => congrArg (· + 1) (optsAt_len h.2)
  | [], _ :: _, h => h.elim
  | _ :: _, [], h => h.elim
theorem optsAt_hb {a : Nat} {m : Store} : ∀ {ds : List D} {os : List (Option (List Int))}, OptsAt a m ds os → hbA m.length ds = true
  | [], [], _ => rfl
  | d :: ds, o :: os, h => by
    show (d.hb m.length && hbA m.length ds) = true
    rw [optsAt_hb h.2, Bool.and_true]
    cases o with
    | none => rw [h.1]; rfl
    | some l =>
      obtain ⟨k, e, h1, h2⟩ := h.1
      rw [e]
      exact decide_eq_true (List.getElem?_eq_some_iff.mp h2).1
  | [], _ :: _, h => h.elim
  | _ :: _, [], h => h.elim
theorem meth_entries {c : Ct} {C : Addr} {m : Store} {P : PD} {k : Nat} {B : Bk} {i : Nat} (hB : HasBk m k B) (hi : i < B.keys.length) (p : P (.hd m.length) (m ++ [.lst ((rowAt B.keys i).map entD)])) : Calls c (Fentries C) [bookD C B.persons k, .int i] m P :=
  ⟨rfl, ⟨k, B, i, (none, 0, 0), 0, 0⟩, ⟨rfl, hB.pre, hi⟩, fun d m2 ⟨e1, e2⟩ => by rw [e1, e2]; exact p, fun _ _ _ h => h.elim⟩
theorem meth_fitted {c : Ct} {C : Addr} {m : Store} {P : PD} {k : Nat} {B : Bk} {i : Nat} (hB : HasBk m k B) (hi : i < B.doors.length) (p : P (.hd m.length) (m ++ [.lst ((rowAt B.doors i).map entD)])) : Calls c (Ffitted C) [bookD C B.persons k, .int i] m P :=
  ⟨rfl, ⟨k, B, i, (none, 0, 0), 0, 0⟩, ⟨rfl, hB.pre, hi⟩, fun d m2 ⟨e1, e2⟩ => by rw [e1, e2]; exact p, fun _ _ _ h => h.elim⟩
theorem meth_cuts {c : Ct} {C : Addr} {m : Store} {P : PD} {k : Nat} {B : Bk} (hB : HasBk m k B) (p : P (.hd m.length) (m ++ [.lst (B.ks.map kcutD)])) : Calls c (Fcuts C) [bookD C B.persons k] m P :=
  ⟨rfl, (k, B), ⟨rfl, hB⟩, fun d m2 ⟨e1, e2⟩ => by
    rw [e1, e2]
    dsimp only
    rw [ks_cuts hB.ok.cl]
    exact p, fun _ _ _ h => h.elim⟩
theorem meth_everybody {c : Ct} {C : Addr} {m : Store} {P : PD} {k : Nat} {B : Bk} (hB : HasBk m k B) (p : P (.hd m.length) (m ++ [.lst ((KR.upTo B.persons).map .int)])) : Calls c (Feverybody C) [bookD C B.persons k] m P :=
  ⟨rfl, (k, B), ⟨rfl, hB⟩, fun d m2 ⟨e1, e2⟩ => by rw [e1, e2]; exact p, fun _ _ _ h => h.elim⟩
theorem meth_person {c : Ct} {C : Addr} {m : Store} {P : PD} {k : Nat} {B : Bk} {x : Int} (h0 : 0 ≤ x) (h1 : x < B.persons) (p : P .non m) : Calls c (Fperson C) [bookD C B.persons k, .int x] m P :=
  ⟨rfl, (k, B, x), ⟨rfl, h0, h1⟩, fun d m2 ⟨e1, e2⟩ => by rw [e1, e2]; exact p, fun _ _ _ h => h.elim⟩
/-- a list that is handed back and changed no more -/
theorem frz_new {m : Store} {P : PD} {ds : List D} (p : P (.lst ds) (m ++ [.dead])) : Frz P (.hd m.length) (m ++ [.lst ds]) := .inr ⟨m.length, ds, rfl, app_get, by rw [app_set]; exact p⟩
def Fagainst (C : Addr) : FSp where
  ar := 4
  G := Nat × Bk × Int × Option Int × Int
  pre := fun g ds m => ds = [bookD C g.2.1.persons g.1, .int g.2.2.1, whatD g.2.2.2.1, .int g.2.2.2.2] ∧ HasBk m g.1 g.2.1
  post := fun g m d m' => d = .hd m.length ∧ ∃ hs j, m' = m ++ .lst hs :: j ∧ OptsAt m.length m' hs (g.2.1.ks.map (againstK g.2.2.1 g.2.2.2.1 g.2.2.2.2))
theorem ok_against (T : Tx K mg) : FnOk P w K mg base CX0 5 T.a_moments_against T.f_moments_against ["book", "person", "kind", "moment"] (spD K (Fagainst T.C_Book)) := by
  have G_Book_cuts := ok_cuts (P := P) (w := w) (base := base) T
  have G_Book_entries := ok_entries (P := P) (w := w) (base := base) T
  have G_moments_without := ok_without (P := P) (w := w) (base := base) T
  have G_soonest := ok_soonM (P := P) (w := w) (base := base) T
  refine ok0 T.F_moments_against sc_moments_against rfl (fun _ _ _ _ _ h => h) (fun cdv A outer s H E hr => ⟨_, pss_cons (ps_asg (pe_lst (pa_nil)) (pg_name (i := 4) sc_moments_against.nd rfl (by first | exact Or.inl rfl | exact Or.inr rfl))) (pss_cons (ps_for PassesOwn.never rfl (pi_enumK (K := K) (pi_enum rfl T.n_enumerate (pa_cons (pe_meth0 (pv 0) T.cl_Book T.m_Book_cuts G_Book_cuts (hr.mono (by first | decide | omega)) T.b_Book_cuts .nil pass0) (pa_nil)))) (pg_tupK (K := K) (n := 2) (pg_tup (n := 2) rfl (pgs_cons (pg_name (i := 5) sc_moments_against.nd rfl (by first | exact Or.inl rfl | exact Or.inr rfl)) (pgs_cons (pg_tupK (K := K) (n := 2) (pg_tup (n := 2) rfl (pgs_cons (pg_name (i := 6) sc_moments_against.nd rfl (by first | exact Or.inl rfl | exact Or.inr rfl)) (pgs_cons (pg_name (i := 7) sc_moments_against.nd rfl (by first | exact Or.inl rfl | exact Or.inr rfl)) (pgs_nil))))) (pgs_nil))))) (pss_cons (ps_asg (pe_meth (pv 0) T.cl_Book T.m_Book_entries G_Book_entries (hr.mono (by first | decide | omega)) T.b_Book_entries .nil pass0 (pa_cons (pv 5) (pa_nil))) (pg_name (i := 8) sc_moments_against.nd rfl (by first | exact Or.inl rfl | exact Or.inr rfl))) (pss_one (ps_if (pt_cmpR (op_inK (K := K)) (pv 2) (pv 6) (by rfl)) (pss_one (ps_expr (pe_bmK (K := K) (pe_bm PySem.F.plainAttrs_list PySem.F.slot_list_append PySem.F.type_list_append mt_append (pv 4) (pa_cons (pe_call G_moments_without (hr.mono (by first | decide | omega)) rfl T.g_moments_without T.k_moments_without T.b_moments_without .nil pass0 (pa_cons (pv 8) (pa_cons (pv 1) (pa_cons (pv 3) (pa_nil))))) (pa_nil)))))) (pss_one (ps_expr (pe_bmK (K := K) (pe_bm PySem.F.plainAttrs_list PySem.F.slot_list_append PySem.F.type_list_append mt_append (pv 4) (pa_cons (pe_call G_soonest (hr.mono (by first | decide | omega)) rfl T.g_soonest T.k_soonest T.b_soonest .nil pass0 (pa_cons (pv 8) (pa_nil))) (pa_nil)))))))))) (pss_one (ps_ret (pv 4)))), ?_⟩)
  rintro ⟨k, B, who, kind, t⟩ ds m ⟨rfl, hB⟩ wf
  dsimp only at hB
  try dsimp only
  have cl := hB.ok.cl
  walk_at "go"
  refine we_lstM ?_
  walk_at "go"
  refine ws_forE (f := kcutD) (wa_cons (we_frz ?_))
  walk_at "all"
  refine meth_cuts hB.app (frz_new ?_)
  walk_at "go"
  refine ⟨fun pre ρ' m' => (∃ hs j, m' = m ++ .lst hs :: j ∧ OptsAt m.length m' hs (pre.map (againstK who kind t))) ∧ ∃ x y z u, ρ' = [some (bookD T.C_Book B.persons k), some (.int who), some (whatD kind), some (.int t), some (.hd m.length), x, y, z, u], ⟨⟨[], [.dead], by rw [List.append_assoc]; rfl, trivial⟩, none, none, none, none, rfl⟩, ?_, ?_⟩
  · rintro pre key post ρ' m' ek ⟨⟨hs, j, rfl, hopt⟩, x, y, z, u, rfl⟩
    obtain ⟨hi, hrow⟩ := ks_row cl ek
    have hkr : key.row.length ≤ 8 := hB.ok.kr _ (ks_mem_row (by rw [ek]; simp))
    have hlen : hs.length ≤ 6 := by
      have h1 := optsAt_len hopt
      have h2 := congrArg List.length ek
      have h3 := ks_len cl
      have h4 := hB.ok.kl
      rw [List.length_map] at h1
      rw [List.length_append] at h2
      omega
    refine wg_tup rfl (wgs_cons (wg_name (wgs_cons (wg_tup rfl (wgs_cons (wg_name (wgs_cons (wg_name (wgs_nil (wgs_nil ?_))))))))))
    refine ws_seq (ws_asg (we_frz ?_))
    walk_at "all"
    refine meth_entries hB.app hi (frz_new ?_)
    rw [hrow]
    refine wg_name ?_
    show WS _ _ [some (bookD T.C_Book B.persons k), some (.int who), some (whatD kind), some (.int t), some (.hd m.length), some (.int pre.length), some (.tup (key.opens.map .int)), some (.bl key.plain), some (rowD key.row)] _ _
    rw [List.append_assoc, List.cons_append]
    walk_at "go"
    refine wr_in (what_flat kind) rfl (opens_flat _) ?_
    rw [in_opens]
    have keep : ∀ (c : Cell) (js : List Cell) (i : Nat) (x : Cell), m.length < i → (m ++ Cell.lst hs :: j)[i]? = some x → (m ++ c :: (j ++ js))[i]? = some x := fun c js i x hi h => by
      have hi' : i < (m ++ Cell.lst hs :: j).length := (List.getElem?_eq_some_iff.mp h).1
      rw [List.length_append, List.length_cons] at hi'
      rw [List.getElem?_append_right (by omega)] at h ⊢
      obtain ⟨q, hq⟩ : ∃ q, i - m.length = q + 1 := ⟨i - m.length - 1, by omega⟩
      rw [hq] at h ⊢
      rw [List.getElem?_cons_succ] at h ⊢
      rw [List.getElem?_append_left (by omega)]
      exact h
    have again : againstK who kind t key = if opn key.opens kind = true then (withoutF key.row who t).map (momsBy key.row) else some (soonF 0 key.row) := rfl
    have step : ∀ (d : D) (js : List Cell), OptAt m.length (m ++ Cell.lst hs :: (j ++ js)) d (againstK who kind t key) → WM (C0 K) rAppend (.hd m.length) [d] (m ++ Cell.lst hs :: (j ++ js)) fun _ m1 => (∃ hs j, m1 = m ++ .lst hs :: j ∧ OptsAt m.length m1 hs ((pre ++ [key]).map (againstK who kind t))) ∧ ∃ x y z u, [some (bookD T.C_Book B.persons k), some (D.int who), some (whatD kind), some (.int t), some (.hd m.length), some (.int pre.length), some (.tup (key.opens.map .int)), some (.bl key.plain), some (rowD key.row)] = [some (bookD T.C_Book B.persons k), some (D.int who), some (whatD kind), some (.int t), some (.hd m.length), x, y, z, u] := fun d js hd => by
      refine wm_append app_get (by omega) ?_
      rw [app_set]
      have mv : ∀ (i : Nat) (x : Cell), m.length < i → (m ++ Cell.lst hs :: (j ++ js))[i]? = some x → (m ++ Cell.lst (hs ++ [d]) :: (j ++ js))[i]? = some x := fun i x hi h => by
        rw [List.getElem?_append_right (by omega)] at h ⊢
        obtain ⟨q, hq⟩ : ∃ q, i - m.length = q + 1 := ⟨i - m.length - 1, by omega⟩
        rw [hq] at h ⊢
        exact h
      refine ⟨⟨_, _, rfl, ?_⟩, _, _, _, _, rfl⟩
      rw [List.map_append]
      exact optsAt_snoc (optAt_mono hd mv) (optsAt_mono (fun i x hi h => mv i x hi (keep _ _ i x hi h)) hopt)
    refine ⟨_, rfl, fun hb => ?_, fun hb => ?_⟩
    · have hb : opn key.opens kind = true := hb
      rw [if_pos hb] at again
      walk_at "go"
      refine ⟨rfl, (key.row, who, t), ⟨rfl, hkr⟩, fun d m2 h => ?_, fun _ _ _ h => h.elim⟩
      have h : OptHd _ m2 d ((withoutF key.row who t).map (momsBy key.row)) := h
      rw [← again] at h
      cases ha : againstK who kind t key with
      | none =>
        rw [ha] at h
        obtain ⟨rfl, j2, rfl⟩ := h
        walk_at "go"
        rw [List.append_assoc, List.cons_append, List.append_assoc]
        refine step .non _ ?_
        rw [ha]
        rfl
      | some l =>
        rw [ha] at h
        obtain ⟨rfl, rfl⟩ := h
        walk_at "go"
        have hl : (m ++ Cell.lst hs :: (j ++ [Cell.dead])).length = m.length + (j.length + 2) := by rw [List.length_append, List.length_cons, List.length_append]; rfl
        rw [List.append_assoc, List.cons_append, List.append_assoc]
        refine step _ _ ?_
        rw [ha]
        refine ⟨_, rfl, by omega, ?_⟩
        rw [hl, List.getElem?_append_right (by omega), show m.length + (j.length + 2) - m.length = j.length + 1 + 1 by omega, List.getElem?_cons_succ, List.getElem?_append_right (by omega), Nat.add_sub_cancel_left]
        rfl
    · have hb : opn key.opens kind = false := hb
      rw [hb, if_neg Bool.false_ne_true] at again
      walk_at "go"
      refine calls_fresh key.row ⟨rfl, by omega⟩ ?_
      walk_at "go"
      have hl : (m ++ Cell.lst hs :: (j ++ [Cell.dead])).length = m.length + (j.length + 2) := by rw [List.length_append, List.length_cons, List.length_append]; rfl
      rw [List.append_assoc, List.cons_append, List.append_assoc]
      refine step _ _ ?_
      rw [again]
      refine ⟨_, rfl, by omega, ?_⟩
      rw [hl, List.getElem?_append_right (by omega), show m.length + (j.length + 2) - m.length = j.length + 1 + 1 by omega, List.getElem?_cons_succ, List.getElem?_append_right (by omega), Nat.add_sub_cancel_left]
      rfl
  · rintro ρ' m' ⟨⟨hs, j, rfl, hopt⟩, x, y, z, u, rfl⟩
    refine ws_wf fun wf' => ?_
    walk_at "go"
    refine fin_as (by rw [List.length_append]; omega) wf' ?_ ⟨rfl, hs, j, rfl, hopt⟩
    show decide (m.length < _) = true
    rw [List.length_append, List.length_cons]
    exact decide_eq_true (by omega)

/-! ### a world in which somebody cannot, one in which somebody can -/
structure Ask where
  k : Nat
  B : Bk
  who : Int
  door : Nat
  t : Int
structure Ask.Ok (g : Ask) (C : Addr) (ds : List D) (m : Store) : Prop where
  args : ds = [bookD C g.B.persons g.k, .int g.who, .int g.door, .int g.t]
  bk : HasBk m g.k g.B
  who : 0 ≤ g.who ∧ g.who < g.B.persons
  door : g.door < g.B.doors.length
  t : 0 ≤ g.t ∧ g.t ≤ 999
def Ask.f (g : Ask) : List Ent := rowAt g.B.doors g.door
def DeniedAt (m m' : Store) (d : D) (f : List Ent) (who t : Int) (ks : List KeyW) : Option Nat → Prop
  | none => d = .non ∧ ∃ j, m' = m ++ j
  | some b => ∃ a h hs j, d = .tup [.hd a, .hd h] ∧ m' = m ++ j ∧ m.length ≤ a ∧ a < h ∧ m'[a]? = some (.lst hs) ∧ OptsAt a m' hs (ks.map (againstK who (wh f b) t)) ∧ m'[h]? = some (.lst ((momsBy f b).map .int))
def Fdenied (C : Addr) : FSp where
  ar := 4
  G := Ask
  pre := fun g ds m => g.Ok C ds m
  post := fun g m d m' => DeniedAt m m' d g.f g.who g.t g.B.ks (deniedF g.f g.who g.t g.B.ks)
def optPy : Option (List Int) → PyData
  | none => .none
  | some l => .list (l.map .int)
theorem py_ints (m : Store) (n : Nat) (l : List Int) : PyA m n (l.map D.int) (l.map PyData.int) := PyA.map fun x _ => .int n x
theorem optsAt_py {a : Nat} {m : Store} : ∀ {ds : List D} {os : List (Option (List Int))}, OptsAt a m ds os → PyA m 1 ds (os.map optPy)
  | [], [], _ => .nil _
  | d :: ds, o :: os, h => by
    refine .cons ?_ (optsAt_py h.2)
    cases o with
    | none =>
      rw [h.1]
      exact .non _
    | some l =>
      obtain ⟨k, e, h1, h2⟩ := h.1
      rw [e]
      exact .hd h2 (py_ints m 0 l)
  | [], _ :: _, h => h.elim
  | _ :: _, [], h => h.elim
theorem any_none (os : List (Option (List Int))) : (os.map optPy).any (fun z => PyData.eqv z .none) = decide (none ∈ os) := by
  induction os with
  | nil => rfl
  | cons o os ih =>
    rw [List.map_cons, List.any_cons, ih]
    cases o with
    | none => simp [optPy, PyData.eqv]
    | some l => simp [optPy, PyData.eqv]
theorem ok_denied (T : Tx K mg) : FnOk P w K mg base CX0 6 T.a_denied T.f_denied ["book", "person", "door", "moment"] (spD K (Fdenied T.C_Book)) := by
  have G_Book_check_person := ok_person (P := P) (w := w) (base := base) T
  have G_Book_fitted := ok_fitted (P := P) (w := w) (base := base) T
  have G_check_moment := ok_moment (P := P) (w := w) (base := base) T
  have G_standing := ok_stand (P := P) (w := w) (base := base) T
  have G_in_force := ok_inf (P := P) (w := w) (base := base) T
  have G_moments_against := ok_against (P := P) (w := w) (base := base) T
  have G_moments_by := ok_momsM (P := P) (w := w) (base := base) T
  refine ok0 T.F_denied sc_denied rfl (fun _ _ _ _ _ h => h) (fun cdv A outer s H E hr => ⟨_, pss_cons (ps_expr (pe_meth (pv 0) T.cl_Book T.m_Book_check_person G_Book_check_person (hr.mono (by first | decide | omega)) T.b_Book_check_person .nil pass0 (pa_cons (pv 1) (pa_nil)))) (pss_cons (ps_asg (pe_meth (pv 0) T.cl_Book T.m_Book_fitted G_Book_fitted (hr.mono (by first | decide | omega)) T.b_Book_fitted .nil pass0 (pa_cons (pv 2) (pa_nil))) (pg_name (i := 4) sc_denied.nd rfl (by first | exact Or.inl rfl | exact Or.inr rfl))) (pss_cons (ps_expr (pe_call G_check_moment (hr.mono (by first | decide | omega)) rfl T.g_check_moment T.k_check_moment T.b_check_moment .nil pass0 (pa_cons (pv 3) (pa_nil)))) (pss_cons (ps_for PassesOwn.never rfl (pi_listK (K := K) (pi_list (pe_call G_standing (hr.mono (by first | decide | omega)) rfl T.g_standing T.k_standing T.b_standing .nil pass0 (pa_cons (pv 4) (pa_cons (pv 3) (pa_nil)))))) (pg_name (i := 5) sc_denied.nd rfl (by first | exact Or.inl rfl | exact Or.inr rfl)) (pss_cons (ps_asg (pe_call G_moments_against (hr.mono (by first | decide | omega)) rfl T.g_moments_against T.k_moments_against T.b_moments_against .nil pass0 (pa_cons (pv 0) (pa_cons (pv 1) (pa_cons (pe_call G_in_force (hr.mono (by first | decide | omega)) rfl T.g_in_force T.k_in_force T.b_in_force .nil pass0 (pa_cons (pv 4) (pa_cons (pv 5) (pa_nil)))) (pa_cons (pv 3) (pa_nil)))))) (pg_name (i := 6) sc_denied.nd rfl (by first | exact Or.inl rfl | exact Or.inr rfl))) (pss_one (ps_if (pt_cmpR (op_notInDK hr.u65 (K := K)) (pe_non) (pv 6) (by rfl)) (pss_one (ps_ret (pe_tup (pa_cons (pv 6) (pa_cons (pe_call G_moments_by (hr.mono (by first | decide | omega)) rfl T.g_moments_by T.k_moments_by T.b_moments_by .nil pass0 (pa_cons (pv 4) (pa_cons (pv 5) (pa_nil)))) (pa_nil)))))) (pss_nil))))) (pss_one (ps_ret (pe_non)))))), ?_⟩)
  rintro ⟨k, B, who, door, t⟩ ds m ⟨e, hB, hw, hd, ht⟩ wf
  dsimp only at e hB hw hd ht
  subst e
  have hfl : (rowAt B.doors door).length ≤ 8 := hB.ok.dr _ (rowAt_mem hd)
  walk_at "all"
  refine meth_person hw.1 hw.2 ?_
  refine ws_seq (ws_asg (we_frz ?_))
  walk_at "all"
  refine meth_fitted hB hd (frz_new ?_)
  generalize hf : rowAt B.doors door = f at hfl
  walk_at "go"
  refine calls_tells t ⟨rfl, ht.1, ht.2⟩ ?_
  walk_at "go"
  refine ws_forL (f := fun a : Nat => D.int ((a : Int) - 1)) ?_
  walk_at "go"
  refine calls_tells (f, t) ⟨rfl, hfl⟩ ?_
  refine ⟨standA f t, stand_Aints f t, fun pre ρ' m' => (∀ b ∈ pre, decide (¬ none ∈ B.ks.map (againstK who (wh f b) t)) = false) ∧ (∃ j, m' = m ++ j) ∧ ∃ x y, ρ' = [some (bookD T.C_Book B.persons k), some (.int who), some (.int door), some (.int t), some (rowD f), x, y], ⟨fun a ha => (by cases ha), ⟨_, rfl⟩, none, none, rfl⟩, ?_, ?_⟩
  · rintro pre b post ρ' m' ea ⟨hno, ⟨j, rfl⟩, x, y, rfl⟩
    have hb := A_le (r := f) (t := t) (a := b) (by rw [ea]; simp)
    refine wg_name (ws_seq (ws_asg ?_))
    walk_at "go"
    refine calls_tells (f, b) ⟨rfl, by dsimp only; omega, hb⟩ ?_
    walk_at "go"
    refine ⟨rfl, (k, B, who, wh f b, t), ⟨rfl, hB.app⟩, fun d m2 ⟨ed, hs, j2, em, hopt⟩ => ?_, fun _ _ _ h => h.elim⟩
    dsimp only at hopt
    subst ed
    subst em
    have hcell : (m ++ j ++ Cell.lst hs :: j2)[(m ++ j).length]? = some (.lst hs) := app_get
    walk_at "go"
    refine wr_notInDp (n := 1) (k := 2) (.non _) (.hd hcell (optsAt_py hopt)) (by decide) (by decide) ?_
    rw [any_none, ← decide_not]
    refine ⟨_, rfl, fun hh => ?_, fun hh => ?_⟩
    · have hh : decide (¬ none ∈ B.ks.map (againstK who (wh f b) t)) = true := hh
      refine ws_ret (we_wf fun wf' => ?_)
      walk_at "go"
      refine calls_fresh (f, b) ⟨rfl, by dsimp only; omega, hb⟩ ?_
      walk_at "go"
      have wf2 : Wf (m ++ j ++ Cell.lst hs :: j2 ++ [Cell.lst ((momsBy f b).map .int)]) := fun c hc => by
        rw [List.length_append]
        rcases List.mem_append.mp hc with h | h
        · exact hbC_mono (wf' c h) (by simp)
        · rw [List.mem_singleton.mp h]
          exact ints_hb _ _
      refine fin_as (by simp) wf2 ?_ ?_
      · show (decide (_ < _) && (decide (_ < _) && true)) = true
        simp
      · show DeniedAt _ _ _ (rowAt B.doors door) who t B.ks (deniedF (rowAt B.doors door) who t B.ks)
        rw [hf]
        unfold deniedF
        rw [ea, find_mid (p := fun b => decide (¬ none ∈ B.ks.map (againstK who (wh f b) t))) hno hh]
        refine ⟨(m ++ j).length, (m ++ j ++ Cell.lst hs :: j2).length, hs, j ++ Cell.lst hs :: j2 ++ [Cell.lst ((momsBy f b).map .int)], rfl, by simp, by simp, by simp, ?_, optsAt_mono (fun i c _ h => Grow.app _ _ _ _ h) hopt, app_get⟩
        exact Grow.app _ _ _ _ hcell
    · have hh : decide (¬ none ∈ B.ks.map (againstK who (wh f b) t)) = false := hh
      walk_at "go"
      exact ⟨snoc_all hno hh, ⟨_, by rw [List.append_assoc]⟩, _, _, rfl⟩
  · rintro ρ' m' ⟨hno, ⟨j, rfl⟩, x, y, rfl⟩
    walk_at "go"
    refine fin_trim wf rfl ?_
    show DeniedAt _ _ _ (rowAt B.doors door) who t B.ks (deniedF (rowAt B.doors door) who t B.ks)
    rw [hf]
    unfold deniedF
    rw [find_no hno]
    exact ⟨rfl, [], (List.append_nil _).symm⟩
def ShownAt (m m' : Store) (d : D) (f : List Ent) (ks : List KeyW) : Option (Nat × Nat × Int × Nat) → Prop
  | none => d = .non ∧ ∃ j, m' = m ++ j
  | some (i, a, w, b) => ∃ key h1 h2 j, ks[i]? = some key ∧ d = .tup [.int (i : Int), .hd h1, .int w, .hd h2] ∧ m' = m ++ j ∧ m.length ≤ h1 ∧ h1 < h2 ∧ m'[h1]? = some (.lst ((momsBy key.row a).map .int)) ∧ m'[h2]? = some (.lst ((momsBy f b).map .int))
def Fshown (C : Addr) : FSp where
  ar := 4
  G := Ask
  pre := fun g ds m => g.Ok C ds m
  post := fun g m d m' => ShownAt m m' d g.f g.B.ks (shownG g.f g.who g.t 0 g.B.ks)
theorem had_le {r : List Ent} {who t : Int} {plain : Bool} {a : Nat} {w : Int} (h : hadF r who plain t = some (a, w)) : a ≤ r.length := by
  unfold hadF at h
  rw [Option.map_eq_some_iff] at h
  obtain ⟨b, hb, e⟩ := h
  have := List.mem_range.mp (List.mem_of_find?_eq_some hb)
  injection e with e1 _
  omega
theorem opened_le {f : List Ent} {opens : List Int} {t : Int} {b : Nat} (h : openedF f opens t = some b) : b ≤ f.length := A_le (List.mem_of_find?_eq_some h)
theorem ok_shown (T : Tx K mg) : FnOk P w K mg base CX0 5 T.a_shown T.f_shown ["book", "person", "door", "moment"] (spD K (Fshown T.C_Book)) := by
  have G_Book_check_person := ok_person (P := P) (w := w) (base := base) T
  have G_Book_fitted := ok_fitted (P := P) (w := w) (base := base) T
  have G_check_moment := ok_moment (P := P) (w := w) (base := base) T
  have G_Book_cuts := ok_cuts (P := P) (w := w) (base := base) T
  have G_Book_entries := ok_entries (P := P) (w := w) (base := base) T
  have G_place_had := ok_had (P := P) (w := w) (base := base) T
  have G_place_opened := ok_opened (P := P) (w := w) (base := base) T
  have G_moments_by := ok_momsM (P := P) (w := w) (base := base) T
  refine ok0 T.F_shown sc_shown rfl (fun _ _ _ _ _ h => h) (fun cdv A outer s H E hr => ⟨_, pss_cons (ps_expr (pe_meth (pv 0) T.cl_Book T.m_Book_check_person G_Book_check_person (hr.mono (by first | decide | omega)) T.b_Book_check_person .nil pass0 (pa_cons (pv 1) (pa_nil)))) (pss_cons (ps_asg (pe_meth (pv 0) T.cl_Book T.m_Book_fitted G_Book_fitted (hr.mono (by first | decide | omega)) T.b_Book_fitted .nil pass0 (pa_cons (pv 2) (pa_nil))) (pg_name (i := 4) sc_shown.nd rfl (by first | exact Or.inl rfl | exact Or.inr rfl))) (pss_cons (ps_expr (pe_call G_check_moment (hr.mono (by first | decide | omega)) rfl T.g_check_moment T.k_check_moment T.b_check_moment .nil pass0 (pa_cons (pv 3) (pa_nil)))) (pss_cons (ps_for PassesOwn.never rfl (pi_enumK (K := K) (pi_enum rfl T.n_enumerate (pa_cons (pe_meth0 (pv 0) T.cl_Book T.m_Book_cuts G_Book_cuts (hr.mono (by first | decide | omega)) T.b_Book_cuts .nil pass0) (pa_nil)))) (pg_tupK (K := K) (n := 2) (pg_tup (n := 2) rfl (pgs_cons (pg_name (i := 5) sc_shown.nd rfl (by first | exact Or.inl rfl | exact Or.inr rfl)) (pgs_cons (pg_tupK (K := K) (n := 2) (pg_tup (n := 2) rfl (pgs_cons (pg_name (i := 6) sc_shown.nd rfl (by first | exact Or.inl rfl | exact Or.inr rfl)) (pgs_cons (pg_name (i := 7) sc_shown.nd rfl (by first | exact Or.inl rfl | exact Or.inr rfl)) (pgs_nil))))) (pgs_nil))))) (pss_cons (ps_asg (pe_meth (pv 0) T.cl_Book T.m_Book_entries G_Book_entries (hr.mono (by first | decide | omega)) T.b_Book_entries .nil pass0 (pa_cons (pv 5) (pa_nil))) (pg_name (i := 8) sc_shown.nd rfl (by first | exact Or.inl rfl | exact Or.inr rfl))) (pss_cons (ps_asg (pe_call G_place_had (hr.mono (by first | decide | omega)) rfl T.g_place_had T.k_place_had T.b_place_had .nil pass0 (pa_cons (pv 8) (pa_cons (pv 1) (pa_cons (pv 7) (pa_cons (pv 3) (pa_nil)))))) (pg_name (i := 9) sc_shown.nd rfl (by first | exact Or.inl rfl | exact Or.inr rfl))) (pss_cons (ps_asg (pe_call G_place_opened (hr.mono (by first | decide | omega)) rfl T.g_place_opened T.k_place_opened T.b_place_opened .nil pass0 (pa_cons (pv 4) (pa_cons (pv 6) (pa_cons (pv 3) (pa_nil))))) (pg_name (i := 10) sc_shown.nd rfl (by first | exact Or.inl rfl | exact Or.inr rfl))) (pss_one (ps_if (PW.pt (pw_and (pt_cmp (pc_notN (pv 9)) rfl) (pw_and1 (pt_cmp (pc_notN (pv 10)) rfl)))) (pss_cons (ps_asg (pv 9) (pg_tupK (K := K) (n := 2) (pg_tup (n := 2) rfl (pgs_cons (pg_name (i := 11) sc_shown.nd rfl (by first | exact Or.inl rfl | exact Or.inr rfl)) (pgs_cons (pg_name (i := 12) sc_shown.nd rfl (by first | exact Or.inl rfl | exact Or.inr rfl)) (pgs_nil)))))) (pss_one (ps_ret (pe_tup (pa_cons (pv 5) (pa_cons (pe_call G_moments_by (hr.mono (by first | decide | omega)) rfl T.g_moments_by T.k_moments_by T.b_moments_by .nil pass0 (pa_cons (pv 8) (pa_cons (pv 11) (pa_nil)))) (pa_cons (pv 12) (pa_cons (pe_call G_moments_by (hr.mono (by first | decide | omega)) rfl T.g_moments_by T.k_moments_by T.b_moments_by .nil pass0 (pa_cons (pv 4) (pa_cons (pv 10) (pa_nil)))) (pa_nil))))))))) (pss_nil))))))) (pss_one (ps_ret (pe_non)))))), ?_⟩)
  rintro ⟨k, B, who, door, t⟩ ds m ⟨e, hB, hw, hd, ht⟩ wf
  dsimp only at e hB hw hd ht
  subst e
  have cl := hB.ok.cl
  have hfl : (rowAt B.doors door).length ≤ 8 := hB.ok.dr _ (rowAt_mem hd)
  walk_at "all"
  refine meth_person hw.1 hw.2 ?_
  refine ws_seq (ws_asg (we_frz ?_))
  walk_at "all"
  refine meth_fitted hB hd (frz_new ?_)
  generalize hf : rowAt B.doors door = f at hfl
  walk_at "go"
  refine calls_tells t ⟨rfl, ht.1, ht.2⟩ ?_
  walk_at "go"
  refine ws_forE (f := kcutD) (wa_cons (we_frz ?_))
  walk_at "all"
  refine meth_cuts hB.app (frz_new ?_)
  walk_at "go"
  refine ⟨fun pre ρ' m' => (∀ rest, B.ks = pre ++ rest → shownG f who t 0 B.ks = shownG f who t pre.length rest) ∧ (∃ j, m' = m ++ j) ∧ ∃ x y z u v p q r, ρ' = [some (bookD T.C_Book B.persons k), some (.int who), some (.int door), some (.int t), some (rowD f), x, y, z, u, v, p, q, r], ⟨fun rest h => (by rw [h]; rfl), ⟨_, by rw [List.append_assoc]⟩, none, none, none, none, none, none, none, none, rfl⟩, ?_, ?_⟩
  · rintro pre key post ρ' m' ek ⟨hno, ⟨j, rfl⟩, x, y, z, u, v, p, q, r, rfl⟩
    obtain ⟨hi, hrow⟩ := ks_row cl ek
    have hkr : key.row.length ≤ 8 := hB.ok.kr _ (ks_mem_row (by rw [ek]; simp))
    have hkm : B.ks[pre.length]? = some key := by rw [ek, List.getElem?_append_right (Nat.le_refl _)]; simp
    have hsh := hno _ ek
    refine wg_tup rfl (wgs_cons (wg_name (wgs_cons (wg_tup rfl (wgs_cons (wg_name (wgs_cons (wg_name (wgs_nil (wgs_nil ?_))))))))))
    refine ws_seq (ws_asg (we_frz ?_))
    walk_at "all"
    refine meth_entries hB.app hi (frz_new ?_)
    rw [hrow]
    refine wg_name ?_
    refine ws_seq (ws_asg ?_)
    walk_at "ex"
    refine calls_tells (key.row, who, key.plain, t) ⟨rfl, hkr⟩ ?_
    refine wg_name ?_
    refine ws_seq (ws_asg ?_)
    walk_at "ex"
    refine calls_tells (f, key.opens, t) ⟨rfl, hfl⟩ ?_
    refine wg_name ?_
    show WS _ _ [some (bookD T.C_Book B.persons k), some (.int who), some (.int door), some (.int t), some (rowD f), some (.int pre.length), some (.tup (key.opens.map .int)), some (.bl key.plain), some (rowD key.row), some (hadD (hadF key.row who key.plain t)), some (atD (openedF f key.opens t)), q, r] _ _
    have cont : hadF key.row who key.plain t = none ∨ openedF f key.opens t = none → ∀ rest, B.ks = pre ++ [key] ++ rest → shownG f who t 0 B.ks = shownG f who t (pre ++ [key]).length rest := fun h rest hr => by
      have er : rest = post := by
        rw [ek, List.append_assoc] at hr
        have := List.append_cancel_left hr
        simpa using this.symm
      rw [hsh, er, List.length_append, List.length_singleton]
      rw [shownG]
      rcases h with h | h
      · rw [h]
      · rw [h]
        cases hadF key.row who key.plain t with
        | none => rfl
        | some aw => rfl
    cases hh : hadF key.row who key.plain t with
    | none =>
      walk_at "go"
      exact ⟨cont (.inl hh), ⟨_, by rw [List.append_assoc]⟩, _, _, _, _, _, _, _, _, rfl⟩
    | some aw =>
      obtain ⟨a, wn⟩ := aw
      cases ho : openedF f key.opens t with
      | none =>
        walk_at "go"
        exact ⟨cont (.inr ho), ⟨_, by rw [List.append_assoc]⟩, _, _, _, _, _, _, _, _, rfl⟩
      | some b =>
        have ha := had_le hh
        have hb := opened_le ho
        refine ws_wf fun wf' => ?_
        walk_at "go"
        refine wg_tup rfl (wgs_cons (wg_name (wgs_cons (wg_name (wgs_nil ?_)))))
        walk_at "go"
        refine calls_fresh (key.row, a) ⟨rfl, by dsimp only; omega, ha⟩ ?_
        walk_at "go"
        refine calls_fresh (f, b) ⟨rfl, by dsimp only; omega, hb⟩ ?_
        walk_at "go"
        have wf2 : ∀ (m1 : Store) (l : List Int), Wf m1 → Wf (m1 ++ [Cell.lst (l.map .int)]) := fun m1 l h1 c hc => by
          rw [List.length_append]
          rcases List.mem_append.mp hc with h | h
          · exact hbC_mono (h1 c h) (by simp)
          · rw [List.mem_singleton.mp h]
            exact ints_hb _ _
        refine fin_as (by simp) (wf2 _ _ (wf2 _ _ wf')) ?_ ?_
        · show (true && (decide (_ < _) && (true && (decide (_ < _) && true)))) = true
          simp
        · show ShownAt _ _ _ (rowAt B.doors door) B.ks (shownG (rowAt B.doors door) who t 0 B.ks)
          rw [hf, hsh, shownG, hh, ho]
          exact ⟨key, _, _, j ++ [Cell.dead] ++ [Cell.lst ((momsBy key.row a).map .int)] ++ [Cell.lst ((momsBy f b).map .int)], hkm, rfl, by simp, by simp, by simp, Grow.app _ _ _ _ app_get, app_get⟩
  · rintro ρ' m' ⟨hno, ⟨j, rfl⟩, x, y, z, u, v, p, q, r, rfl⟩
    walk_at "go"
    refine fin_trim wf rfl ?_
    show ShownAt _ _ _ (rowAt B.doors door) B.ks (shownG (rowAt B.doors door) who t 0 B.ks)
    rw [hf, hno [] (List.append_nil _).symm]
    exact ⟨rfl, [], (List.append_nil _).symm⟩

/-! ### could, openers, first -/
def couldW (f : List Ent) (who t : Int) (ks : List KeyW) : Str := if (deniedF f who t ks).isNone then ("surely" : Str) else if (shownG f who t 0 ks).isNone then ("no" : Str) else ("maybe" : Str)
def Fcould (C : Addr) : FSp where
  ar := 4
  G := Ask
  pre := fun g ds m => g.Ok C ds m
  post := fun g m d m' => d = .str (couldW g.f g.who g.t g.B.ks) ∧ m' = m
theorem ok_could (T : Tx K mg) : FnOk P w K mg base CX0 7 T.a_could T.f_could ["book", "person", "door", "moment"] (spD K (Fcould T.C_Book)) := by
  have G_denied := ok_denied (P := P) (w := w) (base := base) T
  have G_shown := ok_shown (P := P) (w := w) (base := base) T
  refine ok0 T.F_could sc_could rfl (fun _ _ _ _ _ h => h) (fun cdv A outer s H E hr => ⟨_, pss_cons (ps_if (pt_cmp (pc_isN (pe_call G_denied (hr.mono (by first | decide | omega)) rfl T.g_denied T.k_denied T.b_denied .nil pass0 (pa_cons (pv 0) (pa_cons (pv 1) (pa_cons (pv 2) (pa_cons (pv 3) (pa_nil))))))) rfl) (pss_one (ps_ret (pe_glob (v := .str "surely") rfl T.g_SURELY ⟨_, rfl⟩))) (pss_nil)) (pss_cons (ps_if (pt_cmp (pc_isN (pe_call G_shown (hr.mono (by first | decide | omega)) rfl T.g_shown T.k_shown T.b_shown .nil pass0 (pa_cons (pv 0) (pa_cons (pv 1) (pa_cons (pv 2) (pa_cons (pv 3) (pa_nil))))))) rfl) (pss_one (ps_ret (pe_glob (v := .str "no") rfl T.g_NOT ⟨_, rfl⟩))) (pss_nil)) (pss_one (ps_ret (pe_glob (v := .str "maybe") rfl T.g_MAYBE ⟨_, rfl⟩)))), ?_⟩)
  rintro g ds m hg wf
  have e := hg.args
  subst e
  walk_at "go"
  refine ⟨rfl, g, hg, fun d m2 h => ?_, fun _ _ _ h => h.elim⟩
  have h : DeniedAt _ _ _ _ _ _ _ _ := h
  have hc : couldW g.f g.who g.t g.B.ks = if (deniedF g.f g.who g.t g.B.ks).isNone then ("surely" : Str) else if (shownG g.f g.who g.t 0 g.B.ks).isNone then ("no" : Str) else ("maybe" : Str) := rfl
  cases hd : deniedF g.f g.who g.t g.B.ks with
  | none =>
    rw [hd] at h hc
    obtain ⟨rfl, j, rfl⟩ := h
    walk_at "go"
    refine fin_trim wf rfl ⟨?_, rfl⟩
    rw [hc]
    rfl
  | some b =>
    rw [hd] at h hc
    obtain ⟨a, h', hs, j, rfl, rfl, _⟩ := h
    walk_at "go"
    refine ⟨rfl, g, ⟨rfl, hg.bk.app, hg.who, hg.door, hg.t⟩, fun d m2 h => ?_, fun _ _ _ h => h.elim⟩
    have h : ShownAt _ _ _ _ _ _ := h
    cases hs : shownG g.f g.who g.t 0 g.B.ks with
    | none =>
      rw [hs] at h hc
      obtain ⟨rfl, j2, rfl⟩ := h
      walk_at "go"
      rw [List.append_assoc]
      refine fin_trim wf rfl ⟨?_, rfl⟩
      rw [hc]
      rfl
    | some q =>
      obtain ⟨i, a, w, b⟩ := q
      rw [hs] at h hc
      obtain ⟨key, h1, h2, j2, _, rfl, rfl, _⟩ := h
      walk_at "go"
      rw [List.append_assoc]
      refine fin_trim wf rfl ⟨?_, rfl⟩
      rw [hc]
      rfl
theorem fn_could {c : Ct} {C : Addr} {m : Store} {P : PD} {k : Nat} {B : Bk} {who t : Int} {door : Nat} (hB : HasBk m k B) (hw : 0 ≤ who ∧ who < B.persons) (hd : door < B.doors.length) (ht : 0 ≤ t ∧ t ≤ 999) (p : P (.str (couldW (rowAt B.doors door) who t B.ks)) m) : Calls c (Fcould C) [bookD C B.persons k, .int who, .int door, .int t] m P :=
  ⟨rfl, ⟨k, B, who, door, t⟩, ⟨rfl, hB, hw, hd, ht⟩, fun d m2 ⟨e1, e2⟩ => by rw [e1, e2]; exact p, fun _ _ _ h => h.elim⟩
/-- [e(a) for a in l if p(a)] over a list that stands still, a cell -/
theorem we_lcPM {c : Ct} {ρ : KR.Env} {m : Store} {P : PD} {tb te : TE} {α : Type} {f : α → D} {j : Nat} {tt : TT} {vs : List Nat} (hj : j ∈ vs)
    (h : KR.WE c tb ρ m fun x m1 => ∃ (l : List α) (p : α → Bool) (v : α → D), x = .lst (l.map f) ∧ l.length ≤ 1000000 ∧
      (∀ a m', a ∈ l → Grow m1 m' → KR.WT c tt ((wipeD ρ vs).set j (some (f a))) m' fun b m3 => m3 = m' ∧ b = p a) ∧
      (∀ a m', a ∈ l → Grow m1 m' → p a = true → KR.WE c te ((wipeD ρ vs).set j (some (f a))) m' fun d m4 => m4 = m' ∧ d = v a) ∧
      P (.hd m1.length) (m1 ++ [.lst ((l.filter p).map v)])) : KR.WE c (tLc (iList c.K tb) (gName j) tt te vs) ρ m P := by
  refine we_lcNM (wi_list (h.imp fun x m1 ⟨l, p, v, ex, hl, ht, he, pp⟩ => ⟨_, ex, ?_⟩))
  rw [List.length_map]
  refine ⟨fun i acc => acc = ((l.take i).filter p).map v, rfl, ?_, hl, fun acc _ e => by
    have e : acc = ((l.take l.length).filter p).map v := e
    rw [List.take_length] at e
    rw [e]
    exact pp⟩
  rintro i acc m' hi hg wf _ e
  obtain ⟨a, post, h1, h2, h3⟩ := take_step hi
  dsimp only
  rw [getD_map h3]
  have ha := List.mem_of_getElem? h3
  refine wgo_name hj ⟨rfl, (ht a m' ha hg).imp fun b m3 ⟨em, eb⟩ => ⟨em, fun hbt => (he a m' ha hg (by rw [← eb]; exact hbt)).imp fun d m4 ⟨em4, ed⟩ => ⟨em4, ?_⟩, fun hbf => ?_⟩⟩
  · rw [h2, List.filter_append, List.map_append, e, ed]
    congr 1
    rw [List.filter_cons, if_pos (by rw [← eb]; exact hbt)]
    rfl
  · rw [h2, List.filter_append, List.map_append, e]
    rw [List.filter_cons, if_neg (by rw [← eb, hbf]; decide)]
    simp
def wordL (f : List Ent) (persons t : Int) (ks : List KeyW) (wd : Str) : List Int := (KR.upTo persons).filter fun p => decide (couldW f p t ks = wd)
def Fopeners (C : Addr) : FSp where
  ar := 3
  G := Nat × Bk × Nat × Int
  pre := fun g ds m => ds = [bookD C g.2.1.persons g.1, .int g.2.2.1, .int g.2.2.2] ∧ HasBk m g.1 g.2.1 ∧ g.2.2.1 < g.2.1.doors.length ∧ 0 ≤ g.2.2.2 ∧ g.2.2.2 ≤ 999
  post := fun g m d m' => ∃ h1 h2 j, d = .tup [.hd h1, .hd h2] ∧ m' = m ++ j ∧ m.length ≤ h1 ∧ h1 < h2 ∧ m'[h1]? = some (.lst ((wordL (rowAt g.2.1.doors g.2.2.1) g.2.1.persons g.2.2.2 g.2.1.ks "surely").map .int)) ∧ m'[h2]? = some (.lst ((wordL (rowAt g.2.1.doors g.2.2.1) g.2.1.persons g.2.2.2 g.2.1.ks "maybe").map .int))
theorem str_eqV (a b : Str) : decide (V.str a = V.str b) = decide (a = b) := decide_eq_decide.mpr ⟨fun h => V.str.inj h, fun h => congrArg V.str h⟩
theorem ok_openers (T : Tx K mg) : FnOk P w K mg base CX0 8 T.a_openers T.f_openers ["book", "door", "moment"] (spD K (Fopeners T.C_Book)) := by
  have G_Book_everybody := ok_everybody (P := P) (w := w) (base := base) T
  have G_could := ok_could (P := P) (w := w) (base := base) T
  refine ok0 T.F_openers sc_openers rfl (fun _ _ _ _ _ h => h) (fun cdv A outer s H E hr => ⟨_, pss_cons (ps_asg (pe_meth0 (pv 0) T.cl_Book T.m_Book_everybody G_Book_everybody (hr.mono (by first | decide | omega)) T.b_Book_everybody .nil pass0) (pg_name (i := 3) sc_openers.nd rfl (by first | exact Or.inl rfl | exact Or.inr rfl))) (pss_cons (ps_asg (pe_lc (own := [("person", 5)]) rfl sc_openers.nd (pi_listK (K := K) (pi_list (pv 3))) (blkOk_by (N := ["book", "door", "moment", "persons", "answers", "person", "surely", "maybe"]) (own := [("person", 5)]) (sc := defScope s_openers) (by decide +kernel)) (fun _ _ _ _ _ => pg_name (i := 5) sc_openers.nd rfl (by first | exact Or.inl rfl | exact Or.inr rfl)) (fun _ _ _ _ _ => pts_nil) (fun _ _ _ _ _ => pe_call G_could (hr.mono (by first | decide | omega)) rfl T.g_could T.k_could T.b_could .nil pass0 (pa_cons (pv 0) (pa_cons (pv 5) (pa_cons (pv 1) (pa_cons (pv 2) (pa_nil))))))) (pg_name (i := 4) sc_openers.nd rfl (by first | exact Or.inl rfl | exact Or.inr rfl))) (pss_cons (ps_setLc (i := 6) (own := [("person", 5)]) rfl sc_openers.nd rfl rfl (sw_true rfl rfl rfl (by decide +kernel)) (pi_listK (K := K) (pi_list (pv 3))) (blkOk_by (N := ["book", "door", "moment", "persons", "answers", "person", "surely", "maybe"]) (own := [("person", 5)]) (sc := defScope s_openers) (by decide +kernel)) (fun _ _ _ _ _ => pg_name (i := 5) sc_openers.nd rfl (by first | exact Or.inl rfl | exact Or.inr rfl)) (fun _ _ _ _ _ => pts_one (pt_cmpR op_eq (pe_ix (ix_seqK (K := K)) (pv 4) (pv 5) (fun _ _ => rfl)) (pe_glob (v := .str "surely") rfl T.g_SURELY ⟨_, rfl⟩) (nomark _))) (fun _ _ _ _ _ => pv 5)) (pss_cons (ps_setLc (i := 7) (own := [("person", 5)]) rfl sc_openers.nd rfl rfl (sw_true rfl rfl rfl (by decide +kernel)) (pi_listK (K := K) (pi_list (pv 3))) (blkOk_by (N := ["book", "door", "moment", "persons", "answers", "person", "surely", "maybe"]) (own := [("person", 5)]) (sc := defScope s_openers) (by decide +kernel)) (fun _ _ _ _ _ => pg_name (i := 5) sc_openers.nd rfl (by first | exact Or.inl rfl | exact Or.inr rfl)) (fun _ _ _ _ _ => pts_one (pt_cmpR op_eq (pe_ix (ix_seqK (K := K)) (pv 4) (pv 5) (fun _ _ => rfl)) (pe_glob (v := .str "maybe") rfl T.g_MAYBE ⟨_, rfl⟩) (nomark _))) (fun _ _ _ _ _ => pv 5)) (pss_one (ps_ret (pe_tup (pa_cons (pv 6) (pa_cons (pv 7) (pa_nil))))))))), ?_⟩)
  rintro ⟨k, B, door, t⟩ ds m ⟨rfl, hB, hd, ht⟩ wf
  dsimp only at hB hd ht
  try dsimp only
  have hp := hB.ok.p0
  have hul : (KR.upTo B.persons).length = B.persons.toNat := by unfold KR.upTo; rw [List.length_map, List.length_range]
  have mem : ∀ p, p ∈ KR.upTo B.persons → 0 ≤ p ∧ p < B.persons := fun p h => by
    unfold KR.upTo at h
    obtain ⟨i, hi, rfl⟩ := List.mem_map.mp h
    have := List.mem_range.mp hi
    omega
  have get : ∀ p, p ∈ KR.upTo B.persons → atI ((KR.upTo B.persons).map fun p => D.str (couldW (rowAt B.doors door) p t B.ks)) p = some (D.str (couldW (rowAt B.doors door) p t B.ks)) := fun p h => by
    have h2 := mem p h
    obtain ⟨q, rfl⟩ : ∃ q : Nat, p = (q : Int) := ⟨p.toNat, by omega⟩
    refine at_nat ?_
    unfold KR.upTo
    rw [List.getElem?_map, List.getElem?_map, List.getElem?_range (by omega)]
    rfl
  refine ws_seq (ws_asg (we_frz ?_))
  walk_at "all"
  refine meth_everybody hB (frz_new ?_)
  walk_at "go"
  refine we_lcP (f := .int) (by decide) ?_
  walk_at "go"
  refine ⟨KR.upTo B.persons, fun _ => true, fun p => .str (couldW (rowAt B.doors door) p t B.ks), rfl, by omega, fun a m' _ _ => wt_yes ⟨rfl, rfl⟩, fun a m' ha hg _ => ?_, ?_⟩
  · walk_at "go"
    exact fn_could (hB.app.grow hg) (mem a ha) hd ht ⟨rfl, rfl, rfl⟩
  rw [List.filter_eq_self.mpr (fun _ _ => rfl)]
  walk_at "go"
  have comp : ∀ (wd : Str) (tw : TE) (ρ : KR.Env) (M : Store) (P : PD), ρ[3]? = some (some (.lst ((KR.upTo B.persons).map .int))) → ρ[4]? = some (some (.lst ((KR.upTo B.persons).map fun p => D.str (couldW (rowAt B.doors door) p t B.ks)))) → ρ.length = 8 → (∀ σ H Q, tw σ H Q = Q (.str wd) H) →
      P (.hd M.length) (M ++ [.lst ((wordL (rowAt B.doors door) B.persons t B.ks wd).map .int)]) →
      KR.WE (C0 K) (tLc (iList K (tVar 3)) (gName 5) (tTest (tOp rEq (tOp (rIx K) (tVar 4) (tVar 5)) tw)) (tVar 5) [5]) ρ M P := fun wd tw ρ M P h3 h4 h8 htw hP => by
    have tw' : tw = tC (.str wd) := by
      funext σ H Q
      exact htw σ H Q
    subst tw'
    have e4 : ∀ x, ((wipeD ρ [5]).set 5 (some x))[4]? = some (some (.lst ((KR.upTo B.persons).map fun p => D.str (couldW (rowAt B.doors door) p t B.ks)))) := fun x => by
      rw [List.getElem?_set_ne (by decide)]
      show ((ρ.set 5 none)[4]?) = _
      rw [List.getElem?_set_ne (by decide)]
      exact h4
    have e5 : ∀ x, ((wipeD ρ [5]).set 5 (some x))[5]? = some (some x) := fun x => List.getElem?_set_self (by show 5 < (ρ.set 5 none).length; rw [List.length_set]; omega)
    refine we_lcPM (c := C0 K) (f := .int) (by decide) (we_var h3 ⟨KR.upTo B.persons, fun p => decide (couldW (rowAt B.doors door) p t B.ks = wd), .int, rfl, by omega, fun a m' ha hg => ?_, fun a m' ha hg _ => ?_, hP⟩)
    · refine wt_test (we_op (we_op (we_var (e4 _) (we_var (e5 _) ?_))))
      refine wr_ix (c := C0 K) (x := .lst ((KR.upTo B.persons).map fun p => D.str (couldW (rowAt B.doors door) p t B.ks))) rfl (get a ha) ?_
      refine we_str ?_
      refine wr_eq (a := .str (couldW (rowAt B.doors door) a t B.ks)) (b := .str wd) rfl rfl rfl ?_
      exact ⟨_, rfl, rfl, str_eqV _ _⟩
    · exact we_var (e5 _) ⟨rfl, rfl⟩
  refine comp "surely" _ _ _ _ rfl rfl rfl (fun _ _ _ => rfl) ?_
  walk_at "go"
  refine comp "maybe" _ _ _ _ rfl rfl rfl (fun _ _ _ => rfl) ?_
  walk_at "go"
  have wf2 : ∀ (m1 : Store) (l : List Int), Wf m1 → Wf (m1 ++ [Cell.lst (l.map .int)]) := fun m1 l h1 c hc => by
    rw [List.length_append]
    rcases List.mem_append.mp hc with h | h
    · exact hbC_mono (h1 c h) (by simp)
    · rw [List.mem_singleton.mp h]
      exact ints_hb _ _
  have wfd : Wf (m ++ [Cell.dead]) := fun c hc => by
    rw [List.length_append]
    rcases List.mem_append.mp hc with h | h
    · exact hbC_mono (wf c h) (by simp)
    · rw [List.mem_singleton.mp h]
      rfl
  refine fin_as (by simp) (wf2 _ _ (wf2 _ _ wfd)) ?_ ⟨_, _, [Cell.dead] ++ [Cell.lst ((wordL (rowAt B.doors door) B.persons t B.ks "surely").map .int)] ++ [Cell.lst ((wordL (rowAt B.doors door) B.persons t B.ks "maybe").map .int)], rfl, by simp, by simp, by simp, Grow.app _ _ _ _ app_get, app_get⟩
  show (decide (_ < _) && (decide (_ < _) && true)) = true
  simp

/-! ### first -/
def begins (f : List Ent) (ks : List KeyW) : List Int := soonF 0 f ++ (ks.map fun k => soonF 0 k.row).flatten
theorem mem_begins {f : List Ent} {ks : List KeyW} {x : Int} : x ∈ begins f ks ↔ x ∈ soonF 0 f ∨ ∃ k ∈ ks, x ∈ soonF 0 k.row := by
  unfold begins
  rw [List.mem_append, List.mem_flatten]
  refine or_congr Iff.rfl ⟨fun ⟨l, hl, hx⟩ => ?_, fun ⟨k, hk, hx⟩ => ⟨_, List.mem_map.mpr ⟨k, hk, rfl⟩, hx⟩⟩
  obtain ⟨k, hk, rfl⟩ := List.mem_map.mp hl
  exact ⟨k, hk, hx⟩
theorem soon_in {r : List Ent} (h : RowOk r) {x : Int} (hx : x ∈ soonF 0 r) : 0 ≤ x ∧ x ≤ 999 := by
  obtain ⟨i, hi, rfl⟩ := List.mem_iff_getElem.mp hx
  rw [soonF_len] at hi
  have e : (soonF 0 r)[i]'(by rw [soonF_len]; exact hi) = (soonF 0 r).getD i 0 := by rw [List.getD_eq_getElem?_getD, List.getElem?_eq_getElem (by rw [soonF_len]; exact hi)]; rfl
  rw [e]
  have h1 := fit_le h.fit hi
  have h2 := (h.g hi).2
  have h3 := (soon_self hi).1
  omega
/-- rows of a book that can be begun -/
def RowsOk (B : Bk) : Prop := (∀ r ∈ B.keys, RowOk r) ∧ ∀ r ∈ B.doors, RowOk r
def firstR (f : List Ent) (who : Int) (ks : List KeyW) (o : Option Int) : Prop := ∃ zs : List Int, zs.Pairwise (· < ·) ∧ (∀ x, x ∈ zs ↔ x ∈ begins f ks) ∧ o = zs.find? fun t => !(shownG f who t 0 ks).isNone
structure Ask1 where
  k : Nat
  B : Bk
  who : Int
  door : Nat
def Ffirst (C : Addr) : FSp where
  ar := 3
  G := Ask1
  pre := fun g ds m => ds = [bookD C g.B.persons g.k, .int g.who, .int g.door] ∧ HasBk m g.k g.B ∧ RowsOk g.B ∧ (0 ≤ g.who ∧ g.who < g.B.persons) ∧ g.door < g.B.doors.length
  post := fun g m d m' => ∃ o, firstR (rowAt g.B.doors g.door) g.who g.B.ks o ∧ d = whatD o ∧ m' = m
theorem beg_len (f : List Ent) (ks : List KeyW) (hf : f.length ≤ 8) (hk : ∀ k ∈ ks, k.row.length ≤ 8) : (begins f ks).length ≤ 8 + 8 * ks.length := by
  unfold begins
  rw [List.length_append, soonF_len]
  have : ∀ l : List KeyW, (∀ k ∈ l, k.row.length ≤ 8) → ((l.map fun k => soonF 0 k.row).flatten).length ≤ 8 * l.length := fun l => by
    induction l with
    | nil => intro _; exact Nat.le_refl _
    | cons k l ih =>
      intro h
      rw [List.map_cons, List.flatten_cons, List.length_append, soonF_len, List.length_cons]
      have h1 := h k List.mem_cons_self
      have h2 := ih fun x hx => h x (List.mem_cons_of_mem _ hx)
      omega
  have := this ks hk
  omega
theorem begins_snoc (f : List Ent) (ks : List KeyW) (k : KeyW) : begins f (ks ++ [k]) = begins f ks ++ soonF 0 k.row := by
  unfold begins
  rw [List.map_append, List.flatten_append, List.append_assoc]
  simp
/-! ### what the laws share -/
def KeyS.kw (k : KeyS) : KeyW := ⟨k.opens, k.plain, k.row⟩
theorem GoodRow.rk {W : Option Int → Prop} {n : Nat} {far : Int} {r : List Ent} (h : GoodRow W n far r) (hf : far ≤ 999) : RowOk r := ⟨h.fit, fun e he => ⟨(h.ent e he).2.1, (h.ent e he).2.2.1, Int.le_trans (h.ent e he).2.2.2 hf⟩⟩
structure AskL where
  p : Int
  ks : List KeyS
  dr : List (List Ent)
  who : Int
  door : Nat
  t : Int
structure AskL.Ok (g : AskL) : Prop where
  case : CaseOk g.p g.ks g.dr
  w0 : 0 ≤ g.who
  door : g.door < g.dr.length
  t0 : 0 ≤ g.t ∧ g.t ≤ 999
theorem may_lenA (r : List Ent) (t : Int) : (mayF r t).length ≤ r.length + 1 := by
  unfold mayF standF
  rw [List.length_map, List.length_map]
  refine Nat.le_trans (List.length_filter_le _ _) ?_
  rw [List.length_range]
  exact Nat.le_refl _
theorem plains (l : List (Option Int)) : ∀ u ∈ l.map whatV, Plain u := fun u hu => by
  obtain ⟨o, _, rfl⟩ := List.mem_map.mp hu
  cases o with
  | none => exact .inl rfl
  | some i => exact .inr ⟨i, rfl⟩
theorem flats (l : List (Option Int)) : (l.map whatD).map D.flat = (l.map whatV).map some := by
  rw [List.map_map, List.map_map]
  exact List.map_congr_left fun o _ => what_flat o
theorem what_eq (o : Option Int) (i : Int) : decide (whatV o = V.int i) = decide (o = some i) := by
  cases o with
  | none => rfl
  | some x => exact decide_eq_decide.mpr ⟨fun h => by cases h; rfl, fun h => by cases h; rfl⟩
theorem what_scal2 (o : Option Int) (i : Int) : scal (whatV o) (.int i) = true := by cases o <;> rfl
theorem nil_whats (l : List (Option Int)) : (l.map whatD).isEmpty = l.isEmpty := by cases l <;> rfl
theorem filt_all (l : List (Option Int)) (q : Option Int → Bool) : (l.filter fun o => !q o).isEmpty = l.all q := by
  rw [Bool.eq_iff_iff, List.isEmpty_iff, List.filter_eq_nil_iff, List.all_eq_true]
  simp
theorem filt_any (l : List (Option Int)) (q : Option Int → Bool) : (!(l.filter q).isEmpty) = l.any q := by
  rw [Bool.eq_iff_iff]
  simp [List.any_eq_true]
def Flaw : FSp where
  ar := 1
  G := List Int
  pre := fun ns ds m => ds = [.scr ns] ∧ ns.length ≤ 63 ∧ m = []
  post := fun _ _ d _ => d = .bl true
theorem book_ks (p : Int) (ks : List KeyS) (dr : List (List Ent)) : (bookOf p ks dr).ks = ks.map KeyS.kw := by
  unfold Bk.ks bookOf
  dsimp only
  rw [List.zip_map', List.map_map]
  rfl
theorem CaseOk.bk {p : Int} {ks : List KeyS} {dr : List (List Ent)} (hok : CaseOk p ks dr) : BkOk (bookOf p ks dr) := bkOk_of ⟨by have := hok.p0; omega, hok.p0.2⟩ (by rw [List.length_map, List.length_map]) (by rw [List.length_map]; exact hok.kl) hok.d0.2 (fun r hr => by
    obtain ⟨k, hk, rfl⟩ := List.mem_map.mp hr
    exact (hok.key k hk).2.len) (fun r hr => (hok.door r hr).len)
theorem what_pl (n : Nat) (o : Option Int) : Pl (n + 1) (whatD o) := by cases o with
  | none => exact .non n
  | some i => exact .int n i
theorem ints_pl (n : Nat) (l : List Int) (h : l.length ≤ 1000) : Pl (n + 2) (.lst (l.map .int)) := .lst (fun d hd => by
  obtain ⟨i, _, rfl⟩ := List.mem_map.mp hd
  exact .int n i) (by rw [List.length_map]; exact h)
theorem int_flats (l : List Int) : (l.map D.int).map D.flat = (l.map V.int).map some := by
  rw [List.map_map, List.map_map]
  rfl
theorem int_plains (l : List Int) : ∀ u ∈ l.map V.int, Plain u := fun u hu => by
  obtain ⟨i, _, rfl⟩ := List.mem_map.mp hu
  exact .inr ⟨i, rfl⟩
theorem could_no {f : List Ent} {who t : Int} {ks : List KeyW} (hf : RowOk f) (hk : ∀ k ∈ ks, RowOk k.row) (h0 : 0 ≤ t) (h9 : t < 1000) : couldW f who t ks = ("no" : Str) ↔ ¬ MayP f who t ks := by
  have e1 := denied_sure (f := f) (who := who) (t := t) (ks := ks)
  have e2 := shown_may (f := f) (who := who) (t := t) (fun k h => (hk k h).l9) h9 (i := 0)
  unfold couldW
  cases hd : deniedF f who t ks with
  | none =>
    have := sure_may hf hk h0 h9 (e1.mp hd)
    exact ⟨fun h => absurd (show ("surely" : Str) = "no" from h) (by decide), fun h => absurd this h⟩
  | some b =>
    cases hs : shownG f who t 0 ks with
    | none => exact ⟨fun _ h => e2.mpr h hs, fun _ => rfl⟩
    | some q => exact ⟨fun h => absurd (show ("maybe" : Str) = "no" from h) (by decide), fun h => absurd (e2.mp (by rw [hs]; exact fun h => by cases h)) h⟩

def everyF (p : Int) (l : List (Option Int)) : List Int := (KR.upTo p).filter fun x => decide (some x ∈ l) || decide (none ∈ l)
theorem known_mem {l : List (Option Int)} {x : Int} : x ∈ known l ↔ some x ∈ l ∧ x ≠ -1 := by
  unfold known
  rw [List.mem_filterMap]
  constructor
  · rintro ⟨o, ho, e⟩
    by_cases h : o = some (-1)
    · rw [if_pos h] at e
      cases e
    · rw [if_neg h] at e
      subst e
      exact ⟨ho, fun e => h (by rw [e])⟩
  · rintro ⟨h1, h2⟩
    exact ⟨some x, h1, if_neg fun e => h2 (Option.some.inj e)⟩
theorem known_nodup {l : List (Option Int)} (h : l.Nodup) : (known l).Nodup := by
  unfold known
  refine List.pairwise_filterMap.mpr (h.imp fun {a b} hab x hx y hy e => ?_)
  by_cases ha : a = some (-1)
  · rw [if_pos ha] at hx
    cases hx
  by_cases hb : b = some (-1)
  · rw [if_pos hb] at hy
    cases hy
  rw [if_neg ha] at hx
  rw [if_neg hb] at hy
  exact hab (by rw [hx, hy, e])
theorem upTo_iff {p x : Int} : x ∈ KR.upTo p ↔ 0 ≤ x ∧ x < p := ⟨upTo_mem, fun h => by
  unfold KR.upTo
  exact List.mem_map.mpr ⟨x.toNat, List.mem_range.mpr (by omega), by omega⟩⟩
theorem every_mem {p x : Int} {S : List (Option Int)} : x ∈ everyF p S ↔ (0 ≤ x ∧ x < p) ∧ (some x ∈ S ∨ none ∈ S) := by
  unfold everyF
  rw [List.mem_filter, upTo_iff]
  simp
theorem head_all {l : List Int} {x : Int} (h : ∀ y ∈ l, y = x) (hx : x ∈ l) : l.head? = some x := by
  cases l with
  | nil => cases hx
  | cons a l => rw [List.head?_cons, h a List.mem_cons_self]
theorem head_no {l : List Int} (h : ∀ y, ¬ y ∈ l) : l.head? = none := by
  cases l with
  | nil => rfl
  | cons a l => exact absurd List.mem_cons_self (h a)
theorem every_D (n : Nat) (S : List (Option Int)) : (((List.range n).filter fun a : Nat => decide (some (a : Int) ∈ S) || decide (none ∈ S)).map fun a : Nat => D.int (a : Int)) = (everyF (n : Int) S).map .int := by
  unfold everyF KR.upTo
  rw [Int.toNat_natCast, List.filter_map, List.map_map]
  rfl
theorem what_scalx (o : Option Int) (x : Int) : scal (whatV o) (.int x) = true := by cases o <;> rfl
theorem what_nex (o : Option Int) (x : Int) : (!decide (whatV o = V.int x)) = !decide (o = some x) := by
  cases o with
  | none => rfl
  | some y =>
    congr 1
    by_cases hx : y = x
    · subst hx
      simp [whatV]
    · rw [decide_eq_false (fun e : whatV (some y) = V.int x => hx (V.int.inj e)), decide_eq_false (fun e => hx (Option.some.inj e))]
theorem whatV_plain (l : List (Option Int)) : ∀ u ∈ l.map whatV, Plain u := by
  intro u hu
  obtain ⟨o, _, rfl⟩ := List.mem_map.mp hu
  cases o with
  | none => exact .inl rfl
  | some x => exact .inr ⟨x, rfl⟩
theorem pl_ints (n : Nat) (l : List Int) (hl : l.length ≤ 1000) : Pl (n + 2) (.lst (l.map .int)) := .lst (fun d hd => by
  obtain ⟨x, _, rfl⟩ := List.mem_map.mp hd
  exact .int _ _) (by rw [List.length_map]; exact hl)
theorem pl_what (n : Nat) (o : Option Int) : Pl (n + 1) (whatD o) := by
  cases o with
  | none => exact .non _
  | some x => exact .int _ _
theorem pl_pair (n : Nat) (o : Option Int) (l : List Int) (hl : l.length ≤ 1000) : Pl (n + 3) (.tup [whatD o, .lst (l.map .int)]) := .tup (fun d hd => by
  rcases List.mem_cons.mp hd with rfl | hd
  · exact pl_what _ o
  · rw [List.mem_singleton.mp hd]
    exact pl_ints _ l hl) (by decide : 2 ≤ 1000)
theorem every_len (p : Int) (S : List (Option Int)) : (everyF p S).length ≤ p.toNat := by
  unfold everyF
  refine Nat.le_trans (List.length_filter_le _ _) ?_
  rw [upTo_len]
  exact Nat.le_refl _
/-- who surely has a key, by what may be told, some of it more than once -/
def sure3 (p : Int) (S : List (Option Int)) : Option Int := if cntO S = 1 then (match S.head? with
  | some (some x) => if x ∈ everyF p S then some x else none
  | _ => none) else none
theorem told_may (r : List Ent) (t : Int) : toldF r t = (mayF r t).foldl addNew [] := rfl
theorem mem_may {r : List Ent} {t : Int} {o : Option Int} : o ∈ toldF r t ↔ o ∈ mayF r t := by
  rw [told_may, mem_fold]
  simp
theorem may_is {r : List Ent} {t : Int} {P : Option Int → Prop} (h : ∀ e ∈ r, P e.1) {o : Option Int} (ho : o ∈ mayF r t) : o = some (-1) ∨ P o := by
  unfold mayF at ho
  obtain ⟨p, hp, rfl⟩ := List.mem_map.mp ho
  obtain ⟨a, ha, rfl, _⟩ := mem_stand.mp hp
  unfold whatAt
  cases a with
  | zero => exact .inl (if_pos rfl)
  | succ a =>
    rw [if_neg (by omega), show (((a + 1 : Nat) : Int) - 1).toNat = a by omega, List.getD_eq_getElem?_getD, List.getElem?_eq_getElem (by omega)]
    exact .inr (h _ (List.getElem_mem _))
theorem may_len (r : List Ent) (t : Int) : (mayF r t).length ≤ r.length + 1 := by
  unfold mayF standF
  rw [List.length_map, List.length_map]
  refine Nat.le_trans (List.length_filter_le _ _) ?_
  rw [List.length_range]
  exact Nat.le_refl _
theorem math3_key {p : Int} {r : List Ent} {t : Int} (h : ∀ e ∈ r, IsPerson p e.1) :
    holdF p (toldF r t) = (sure3 p (mayF r t), everyF p (mayF r t)) := by
  have hm := fun o => mem_may (r := r) (t := t) (o := o)
  have hi := fun {o : Option Int} (ho : o ∈ mayF r t) => may_is h ho
  have hn := told_nodup r t
  have hc : cntO (mayF r t) = (toldF r t).length := rfl
  unfold sure3
  rw [hc]
  generalize toldF r t = F at hm hn hc
  generalize mayF r t = S at hm hi hc
  unfold holdF
  by_cases hN : none ∈ F
  · rw [if_pos hN]
    have hN' := (hm none).mp hN
    refine Prod.ext ?_ ?_
    · show none = _
      by_cases hl : F.length = 1
      · rw [if_pos hl]
        obtain ⟨o, rfl⟩ := List.length_eq_one_iff.mp hl
        cases S with
        | nil => cases hN'
        | cons a S =>
          have e1 := List.mem_singleton.mp ((hm a).mpr List.mem_cons_self)
          have e2 := List.mem_singleton.mp hN
          rw [e1, ← e2]
          rfl
      · rw [if_neg hl]
    · refine strict_ext (upTo_sorted p) ((upTo_sorted p).filter _) fun x => ?_
      show x ∈ KR.upTo p ↔ x ∈ everyF p S
      rw [every_mem, upTo_iff]
      exact ⟨fun q => ⟨q, .inr hN'⟩, fun q => q.1⟩
  · rw [if_neg hN]
    have hN' : ¬ none ∈ S := fun e => hN ((hm none).mpr e)
    have hpos : ∀ x, some x ∈ S → x ≠ -1 → 0 ≤ x ∧ x < p := fun x hx hx1 => by
      rcases hi hx with e | e
      · exact absurd (Option.some.inj e) hx1
      · exact e x rfl
    refine Prod.ext ?_ ?_
    · show (if known F ≠ [] ∧ F.length = 1 then (KR.sortI (known F)).head? else none) = _
      by_cases hl : F.length = 1
      · rw [if_pos hl]
        obtain ⟨o, rfl⟩ := List.length_eq_one_iff.mp hl
        have ho : o ∈ S := (hm o).mp (List.mem_singleton.mpr rfl)
        have hh : S.head? = some o := by
          cases S with
          | nil => cases ho
          | cons a S => rw [List.head?_cons, List.mem_singleton.mp ((hm a).mpr List.mem_cons_self)]
        rw [hh]
        cases o with
        | none => exact absurd (List.mem_singleton.mpr rfl) hN
        | some x =>
          show _ = if x ∈ everyF p S then some x else none
          by_cases hx : x = -1
          · have hk : known [some x] = [] := List.eq_nil_iff_forall_not_mem.mpr fun y hy => by
              obtain ⟨h1, h2⟩ := known_mem.mp hy
              exact h2 ((Option.some.inj (List.mem_singleton.mp h1)).trans hx)
            rw [if_neg fun q => q.1 hk, if_neg fun q => (by have := (every_mem.mp q).1; omega)]
          · have hxk : x ∈ known [some x] := known_mem.mpr ⟨List.mem_singleton.mpr rfl, hx⟩
            rw [if_pos ⟨fun q => (by rw [q] at hxk; cases hxk), rfl⟩, if_pos (every_mem.mpr ⟨hpos x ho hx, .inl ho⟩)]
            exact head_all (fun y hy => Option.some.inj (List.mem_singleton.mp (known_mem.mp (mem_sort.mp hy)).1)) (mem_sort.mpr hxk)
      · rw [if_neg fun q => hl q.2, if_neg hl]
    · show KR.sortI (known F) = everyF p S
      refine strict_ext (sort_strict (known_nodup hn)) ((upTo_sorted p).filter _) fun x => ?_
      rw [every_mem, mem_sort, known_mem, hm]
      refine ⟨fun q => ⟨hpos x q.1 q.2, .inl q.1⟩, fun q => ⟨q.2.elim id fun e => absurd e hN', ?_⟩⟩
      omega
theorem math3_door {r : List Ent} {t : Int} (h : ∀ e ∈ r, IsKind e.1) :
    (¬ none ∈ toldF r t) ∧ (∃ ns : List Int, mayF r t = ns.map some ∧ (∀ k ∈ ns, -1 ≤ k ∧ k ≤ 9) ∧ ∀ zs : List Int, zs.Pairwise (· < ·) → (∀ k, k ∈ zs ↔ k ∈ ns) → locksF (toldF r t) = zs) := by
  have hm := fun o => mem_may (r := r) (t := t) (o := o)
  have hi := fun {o : Option Int} (ho : o ∈ mayF r t) => may_is h ho
  have hn := told_nodup r t
  generalize toldF r t = F at hm hn
  generalize mayF r t = S at hm hi
  have hN : ¬ none ∈ S := fun e => by
    rcases hi e with q | ⟨x, q, _⟩
    · cases q
    · cases q
  have hS : S = (S.filterMap id).map some := by
    clear hm hi
    induction S with
    | nil => rfl
    | cons o S ih =>
      cases o with
      | none => exact absurd List.mem_cons_self hN
      | some x =>
        rw [List.filterMap_cons]
        show some x :: S = some x :: (S.filterMap id).map some
        rw [← ih fun e => hN (List.mem_cons_of_mem _ e)]
  have hk : ∀ l : List (Option Int), ∀ k, k ∈ l.filterMap id ↔ some k ∈ l := fun l k => by
    rw [List.mem_filterMap]
    exact ⟨fun ⟨o, ho, e⟩ => by rw [← e]; exact ho, fun q => ⟨_, q, rfl⟩⟩
  refine ⟨fun e => hN ((hm none).mp e), S.filterMap id, hS, fun k q => ?_, fun zs h1 h2 => ?_⟩
  · rcases hi ((hk S k).mp q) with e | ⟨x, e, e1, e2⟩
    · have := Option.some.inj e
      omega
    · have := Option.some.inj e
      omega
  · unfold locksF
    refine strict_ext (sort_strict (List.pairwise_filterMap.mpr (hn.imp fun {a b} hab x hx y hy e => hab (hx.trans ((congrArg some e).trans hy.symm))))) h1 fun x => ?_
    rw [mem_sort, hk, hm, h2, hk]

/-! ### what could and first come to, for laws that hold one book against another -/
theorem could_same {f f' : List Ent} {who who' t t' : Int} {ks ks' : List KeyW} (hl : ∀ k ∈ ks, Lt9 k.row) (hl' : ∀ k ∈ ks', Lt9 k.row) (ht : t < 1000) (ht' : t' < 1000) (hs : SureP f who t ks ↔ SureP f' who' t' ks') (hm : MayP f who t ks ↔ MayP f' who' t' ks') : couldW f who t ks = couldW f' who' t' ks' := by
  have e1 : (deniedF f who t ks).isNone = (deniedF f' who' t' ks').isNone := by
    rw [Bool.eq_iff_iff, Option.isNone_iff_eq_none, Option.isNone_iff_eq_none, denied_sure, denied_sure]
    exact hs
  have e2 : (shownG f who t 0 ks).isNone = (shownG f' who' t' 0 ks').isNone := by
    rw [Bool.eq_iff_iff, Option.isNone_iff_eq_none, Option.isNone_iff_eq_none]
    have a := shown_may (f := f) (who := who) hl ht (i := 0)
    have b := shown_may (f := f') (who := who') hl' ht' (i := 0)
    refine ⟨fun h => Classical.byContradiction fun n => ?_, fun h => Classical.byContradiction fun n => ?_⟩
    · exact a.mpr (hm.mpr (b.mp n)) h
    · exact b.mpr (hm.mp (a.mp n)) h
  unfold couldW
  rw [e1, e2]
def Least (P : Int → Prop) : Option Int → Prop
  | none => ∀ t, ¬ P t
  | some m => P m ∧ ∀ s, s < m → ¬ P s
theorem least_one {P : Int → Prop} : ∀ {o o' : Option Int}, Least P o → Least P o' → o = o'
  | none, none, _, _ => rfl
  | none, some m, h, h' => absurd h'.1 (h m)
  | some m, none, h, h' => absurd h.1 (h' m)
  | some m, some n, h, h' => by
    have h1 : ¬ n < m := fun e => h.2 n e h'.1
    have h2 : ¬ m < n := fun e => h'.2 m e h.1
    rw [show m = n by omega]
theorem Least.by {P P' : Int → Prop} (s : Int) (h : ∀ t, P' (t + s) ↔ P t) : ∀ {o : Option Int}, Least P o → Least P' (o.map (· + s))
  | none, hl => fun t ht => hl (t - s) ((h (t - s)).mp (by rw [Int.sub_add_cancel]; exact ht))
  | some m, hl => ⟨(h m).mpr hl.1, fun u hu hp => hl.2 (u - s) (by have hu : u < m + s := hu; omega) ((h (u - s)).mp (by rw [Int.sub_add_cancel]; exact hp))⟩
/-- the same rows by other names, and so much later -/
def turnE (g : Option Int → Option Int) (s : Int) (e : Ent) : Ent := (g e.1, e.2.1 + s, e.2.2 + s)
def turnR (g : Option Int → Option Int) (s : Int) (r : List Ent) : List Ent := r.map (turnE g s)
theorem turn_gE {g : Option Int → Option Int} {s : Int} {r : List Ent} {i : Nat} (hi : i < r.length) : gE (turnR g s r) i = gE r i + s := by
  rw [gE_get (by unfold turnR; rw [List.length_map]; exact hi), gE_get hi]
  unfold turnR
  rw [List.getElem_map]
  rfl
theorem turn_gL {g : Option Int → Option Int} {s : Int} {r : List Ent} {i : Nat} (hi : i < r.length) : gL (turnR g s r) i = gL r i + s := by
  rw [gL_get (by unfold turnR; rw [List.length_map]; exact hi), gL_get hi]
  unfold turnR
  rw [List.getElem_map]
  rfl
theorem turn_in {g : Option Int → Option Int} {s : Int} {r : List Ent} {t : Int} {a : Nat} (h0 : 0 ≤ t) (h9 : t < 1000) (h0' : 0 ≤ t + s) (h9' : t + s < 1000) : InF (turnR g s r) (t + s) a ↔ InF r t a := by
  have hl : (turnR g s r).length = r.length := by unfold turnR; rw [List.length_map]
  unfold InF
  rw [hl]
  constructor
  · rintro ⟨h1, h2, h3, h4, h5⟩
    refine ⟨h1, h0, h9, fun j hj => ?_, fun k hk hkr => ?_⟩
    · have := h4 j hj
      rw [turn_gE (by omega)] at this
      omega
    · have := h5 k hk hkr
      rw [turn_gL hkr] at this
      omega
  · rintro ⟨h1, h2, h3, h4, h5⟩
    refine ⟨h1, h0', h9', fun j hj => ?_, fun k hk hkr => ?_⟩
    · have := h4 j hj
      rw [turn_gE (by omega)]
      omega
    · have := h5 k hk hkr
      rw [turn_gL hkr]
      omega
theorem turn_wh {g : Option Int → Option Int} (hg : g (some (-1)) = some (-1)) {s : Int} {r : List Ent} {a : Nat} (ha : a ≤ r.length) : wh (turnR g s r) a = g (wh r a) := by
  cases a with
  | zero => rw [wh_0, wh_0, hg]
  | succ k =>
    rw [wh_s, wh_s, List.getD_eq_getElem?_getD, List.getD_eq_getElem?_getD, List.getElem?_eq_getElem (by unfold turnR; rw [List.length_map]; omega), List.getElem?_eq_getElem (by omega)]
    unfold turnR
    rw [List.getElem_map]
    rfl
theorem turn_may {g : Option Int → Option Int} (hg : g (some (-1)) = some (-1)) {s : Int} {r : List Ent} (h9 : Lt9 r) (h9' : Lt9 (turnR g s r)) {t : Int} (ht0 : 0 ≤ t) (ht9 : t < 1000) (ht0' : 0 ≤ t + s) (ht9' : t + s < 1000) {o : Option Int} : o ∈ mayF (turnR g s r) (t + s) ↔ ∃ p ∈ mayF r t, g p = o := by
  rw [mem_mayA h9']
  constructor
  · rintro ⟨a, ha, e⟩
    have hi := (turn_in ht0 ht9 ht0' ht9').mp ha
    exact ⟨wh r a, (mem_mayA h9).mpr ⟨a, hi, rfl⟩, by rw [← turn_wh hg hi.1]; exact e⟩
  · rintro ⟨p, hp, e⟩
    obtain ⟨a, ha, e2⟩ := (mem_mayA h9).mp hp
    exact ⟨a, (turn_in ht0 ht9 ht0' ht9').mpr ha, by rw [turn_wh hg ha.1, e2, e]⟩

/-! ### first is the least moment at which a person could -/
theorem least_find {p : Int → Bool} {m : Int} (hp : p m = true) : ∀ {zs : List Int}, m ∈ zs → zs.Pairwise (· < ·) → (∀ s ∈ zs, s < m → p s = false) → zs.find? p = some m
  | z :: zs, hm, hs, hn => by
    obtain ⟨h1, h2⟩ := List.pairwise_cons.mp hs
    rcases List.mem_cons.mp hm with rfl | hm
    · rw [List.find?_cons, hp]
    · rw [List.find?_cons, hn z List.mem_cons_self (h1 m hm)]
      exact least_find hp hm h2 fun s hs2 => hn s (List.mem_cons_of_mem _ hs2)
theorem first_least {f : List Ent} {who : Int} {ks : List KeyW} {o : Option Int} (hf : RowOk f) (hk : ∀ k ∈ ks, RowOk k.row ∧ NoLock k.opens) (hw : 0 ≤ who) (h : firstR f who ks o) : Least (fun t => MayP f who t ks) o := by
  obtain ⟨zs, hz1, hz2, rfl⟩ := h
  have b1 : ∀ {r : List Ent} {x : Int}, Begins1 r x → x ∈ soonF 0 r := fun {r x} ⟨a, ha, e⟩ => by
    rw [← e, List.getD_eq_getElem?_getD, List.getElem?_eq_getElem (by rw [soonF_len]; exact ha)]
    exact List.getElem_mem _
  have dz : ∀ x ∈ zs, 0 ≤ x ∧ x ≤ 999 := fun x hx => by
    rcases mem_begins.mp ((hz2 x).mp hx) with h | ⟨k, h1, h2⟩
    · exact soon_in hf h
    · exact soon_in (hk k h1).1 h2
  have hp : ∀ x ∈ zs, (!(shownG f who x 0 ks).isNone) = true ↔ MayP f who x ks := fun x hx => by
    have := dz x hx
    rw [← shown_may (fun k h => (hk k h).1.l9) (by omega) (i := 0)]
    cases shownG f who x 0 ks <;> simp
  by_cases h : ∃ t, MayP f who t ks
  · obtain ⟨t, ht⟩ := h
    have dom : ∀ {s}, MayP f who s ks → 0 ≤ s := fun {s} ⟨k, _, _, o, ho, _⟩ => (may_dom hf.l9 ho).1
    haveI : DecidablePred fun s => MayP f who s ks := fun _ => Classical.propDecidable _
    obtain ⟨m, m0, _, hm, hn⟩ := int_least (P := fun s => MayP f who s ks) (dom ht) ht
    have hb := may_first hf.l9 (fun k hk' => ⟨(hk k hk').1.l9, (hk k hk').2⟩) hw hm fun h => hn (m - 1) (dom h) (by omega) h
    have hmz : m ∈ zs := (hz2 m).mpr (mem_begins.mpr (hb.imp b1 fun ⟨k, h1, h2⟩ => ⟨k, h1, b1 h2⟩))
    have nz : ∀ s, s < m → ¬ MayP f who s ks := fun s hs h => hn s (dom h) hs h
    rw [least_find (p := fun t => !(shownG f who t 0 ks).isNone) ((hp m hmz).mpr hm) hmz hz1 fun s hs hlt => Bool.eq_false_iff.mpr fun e => nz s hlt ((hp s hs).mp e)]
    exact ⟨hm, nz⟩
  · rw [List.find?_eq_none.mpr fun x hx e => h ⟨x, (hp x hx).mp e⟩]
    exact fun t ht => h ⟨t, ht⟩

/-! ### a case that goes on, told into a book -/
structure Cs where
  p : Int
  kk : Nat
  kd : Nat
  ks : List (KeyS × Nat)
  dr : List (List Ent × Nat)
def keyM (x : KeyS × Nat) : D := .tup [.tup (x.1.opens.map .int), .bl x.1.plain, .hd x.2]
def Cs.d (C : Cs) : D := .tup [.int C.p, .hd C.kk, .hd C.kd]
def Cs.bk (C : Cs) : Bk := bookOf C.p (C.ks.map (·.1)) (C.dr.map (·.1))
def Cs.rows (C : Cs) : List Nat := C.ks.map (·.2) ++ C.dr.map (·.2)
def Away (b r : Nat) : Prop := r < b + 1 ∨ b + 3 < r
/-- what a case may be that a story tells -/
structure GoodS (p : Int) (ks : List KeyS) (dr : List (List Ent)) : Prop where
  p0 : 1 ≤ p ∧ p ≤ 4
  k1 : ks.length ≤ 6
  d0 : 0 < dr.length ∧ dr.length ≤ 2
  key : ∀ k ∈ ks, Opens k.opens ∧ GoodRow (IsPerson p) 8 20 k.row
  door : ∀ r ∈ dr, GoodRow IsKind 8 20 r
theorem GoodS.ok {p : Int} {ks : List KeyS} {dr : List (List Ent)} (h : GoodS p ks dr) : CaseOk p ks dr := ⟨⟨h.p0.1, by have := h.p0.2; omega⟩, h.k1, ⟨h.d0.1, by have := h.d0.2; omega⟩, fun k hk => ⟨(h.key k hk).1, (h.key k hk).2.wide (Nat.le_refl _) (by decide)⟩, fun r hr => (h.door r hr).wide (Nat.le_refl _) (by decide)⟩
structure TurnSt (TP : Addr) (q : Str) (m0 : Store) (dk tk bk : Nat) (C : Cs) (m : Store) : Prop where
  dice : m[dk]? = some .dice
  tab : m[tk]? = some (.tab TP q)
  book : HasBk m bk C.bk
  k : m[C.kk]? = some (.lst (C.ks.map keyM))
  d : m[C.kd]? = some (.lst (C.dr.map fun x => .hd x.2))
  kr : ∀ x ∈ C.ks, m[x.2]? = some (.lst (x.1.row.map entD))
  dr : ∀ x ∈ C.dr, m[x.2]? = some (.lst (x.1.map entD))
  ak : Away bk C.kk ∧ Away bk C.kd ∧ C.kk ≠ C.kd
  ar : ∀ r ∈ C.rows, Away bk r ∧ r ≠ C.kk ∧ r ≠ C.kd
  nd : C.rows.Nodup
  good : GoodS C.p (C.ks.map (·.1)) (C.dr.map (·.1))
  low : m0.length ≤ bk ∧ m0.length ≤ C.kk ∧ m0.length ≤ C.kd
  lor : ∀ r ∈ C.rows, m0.length ≤ r
  kept : ∀ j, j < m0.length → m[j]? = m0[j]?
theorem put_away {m : Store} {b j : Nat} {B : Bk} (h : Away b j) : (putBk m b B)[j]? = m[j]? := by
  unfold Away at h
  unfold putBk
  rw [List.getElem?_set_ne (by omega), List.getElem?_set_ne (by omega), List.getElem?_set_ne (by omega)]
theorem put_is {m : Store} {b : Nat} {B : Bk} (h : b + 3 < m.length) : IsBk (putBk m b B) b B := by
  unfold putBk
  refine ⟨?_, ?_, ?_⟩
  · rw [List.getElem?_set_ne (by omega), List.getElem?_set_ne (by omega), List.getElem?_set_self (by omega)]
  · rw [List.getElem?_set_ne (by omega), List.getElem?_set_self (by rw [List.length_set]; omega)]
  · rw [List.getElem?_set_self (by rw [List.length_set, List.length_set]; omega)]
theorem away_of {m : Store} {b j : Nat} {B : Bk} (hB : IsBk m b B) {c : Cell} (h : m[j]? = some c) (n : ∀ ds, c ≠ .lst ds) : Away b j := by
  unfold Away
  refine Classical.byContradiction fun hn => ?_
  obtain rfl | rfl | rfl : j = b + 1 ∨ j = b + 2 ∨ j = b + 3 := by omega
  · rw [hB.c1] at h; exact n _ (Option.some.inj h).symm
  · rw [hB.c2] at h; exact n _ (Option.some.inj h).symm
  · rw [hB.c3] at h; exact n _ (Option.some.inj h).symm
theorem cell_ne {m : Store} {i j : Nat} {a b : Cell} (h : m[i]? = some a) (k : m[j]? = some b) (n : a ≠ b) : i ≠ j := fun e => by
  subst e
  rw [h] at k
  exact n (Option.some.inj k)
theorem case_bk {p : Int} {ks : List KeyS} {dr : List (List Ent)} (h : GoodS p ks dr) : BkOk (bookOf p ks dr) := h.ok.bk
section
variable {TP : Addr} {q : Str} {m0 : Store} {dk tk bk : Nat} {C : Cs} {m : Store}
/-- a row of a key is another one -/
def Cs.setK (C : Cs) (i : Nat) (x : KeyS × Nat) (row : List Ent) : Cs := { C with ks := C.ks.set i ((⟨x.1.opens, x.1.plain, row⟩ : KeyS), x.2) }
def Cs.setD (C : Cs) (i : Nat) (x : List Ent × Nat) (row : List Ent) : Cs := { C with dr := C.dr.set i (row, x.2) }
theorem map_set_id {α β : Type} {l : List α} {i : Nat} {a b : α} {f : α → β} (h : l[i]? = some a) (e : f b = f a) : (l.set i b).map f = l.map f := by
  rw [List.map_set, e]
  exact set_id (by rw [List.getElem?_map, h]; rfl)
theorem setK_rows {i : Nat} {x : KeyS × Nat} {row : List Ent} (h : C.ks[i]? = some x) : (C.setK i x row).rows = C.rows := by
  exact congrArg (fun l => l ++ C.dr.map (·.2)) (map_set_id (b := ((⟨x.1.opens, x.1.plain, row⟩ : KeyS), x.2)) (f := fun x : KeyS × Nat => x.2) h rfl)
theorem setD_rows {i : Nat} {x : List Ent × Nat} {row : List Ent} (h : C.dr[i]? = some x) : (C.setD i x row).rows = C.rows := by
  exact congrArg (fun l => C.ks.map (·.2) ++ l) (map_set_id (b := (row, x.2)) (f := fun x : List Ent × Nat => x.2) h rfl)
theorem setK_bk {i : Nat} {x : KeyS × Nat} {row : List Ent} (h : C.ks[i]? = some x) : (C.setK i x row).bk = { C.bk with keys := C.bk.keys.set i row } := by
  have e1 : ((C.ks.set i ((⟨x.1.opens, x.1.plain, row⟩ : KeyS), x.2)).map (·.1)).map (fun k => (k.opens, k.plain)) = (C.ks.map (·.1)).map fun k => (k.opens, k.plain) := by
    rw [List.map_map, List.map_map]
    exact map_set_id h rfl
  have e2 : ((C.ks.set i ((⟨x.1.opens, x.1.plain, row⟩ : KeyS), x.2)).map (·.1)).map (·.row) = ((C.ks.map (·.1)).map (·.row)).set i row := by
    rw [List.map_map, List.map_map, List.map_set]
    rfl
  show Bk.mk C.p (((C.ks.set i ((⟨x.1.opens, x.1.plain, row⟩ : KeyS), x.2)).map (·.1)).map fun k => (k.opens, k.plain)) (((C.ks.set i ((⟨x.1.opens, x.1.plain, row⟩ : KeyS), x.2)).map (·.1)).map (·.row)) (C.dr.map (·.1)) = _
  rw [e1, e2]
  rfl
theorem setD_bk {i : Nat} {x : List Ent × Nat} {row : List Ent} (h : C.dr[i]? = some x) : (C.setD i x row).bk = { C.bk with doors := C.bk.doors.set i row } := by
  show Bk.mk C.p ((C.ks.map (·.1)).map fun k => (k.opens, k.plain)) ((C.ks.map (·.1)).map (·.row)) ((C.dr.set i (row, x.2)).map (·.1)) = _
  rw [List.map_set]
  rfl
theorem mem_setE {α : Type} {l : List α} {i : Nat} {a y : α} (h : y ∈ l.set i a) : y = a ∨ ∃ j, j ≠ i ∧ l[j]? = some y := by
  obtain ⟨j, hj⟩ := List.mem_iff_getElem?.mp h
  by_cases hij : j = i
  · subst hij
    rw [List.getElem?_set] at hj
    rw [if_pos rfl] at hj
    split at hj
    · exact .inl (Option.some.inj hj).symm
    · cases hj
  · rw [List.getElem?_set_ne (fun e => hij e.symm)] at hj
    exact .inr ⟨j, hij, hj⟩
theorem map_get {α β : Type} {l : List α} {i : Nat} {a : α} {f : α → β} (h : l[i]? = some a) : (l.map f)[i]? = some (f a) := by rw [List.getElem?_map, h]; rfl
theorem TurnSt.key_ne (h : TurnSt TP q m0 dk tk bk C m) {i j : Nat} {x y : KeyS × Nat} (hx : C.ks[i]? = some x) (hy : C.ks[j]? = some y) (n : j ≠ i) : y.2 ≠ x.2 := fun e => by
  have hn := (List.nodup_append.mp h.nd).1
  refine n (nd_one hn (i := j) (j := i) (a := y.2) (map_get hy) ?_)
  rw [e]
  exact map_get hx
theorem TurnSt.door_ne (h : TurnSt TP q m0 dk tk bk C m) {i j : Nat} {x y : List Ent × Nat} (hx : C.dr[i]? = some x) (hy : C.dr[j]? = some y) (n : j ≠ i) : y.2 ≠ x.2 := fun e => by
  have hn := (List.nodup_append.mp h.nd).2.1
  refine n (nd_one hn (i := j) (j := i) (a := y.2) (map_get hy) ?_)
  rw [e]
  exact map_get hx
theorem TurnSt.kd_ne (h : TurnSt TP q m0 dk tk bk C m) {x : KeyS × Nat} {y : List Ent × Nat} (hx : x ∈ C.ks) (hy : y ∈ C.dr) : x.2 ≠ y.2 := (List.nodup_append.mp h.nd).2.2 _ (List.mem_map.mpr ⟨x, hx, rfl⟩) _ (List.mem_map.mpr ⟨y, hy, rfl⟩)
theorem TurnSt.rk (h : TurnSt TP q m0 dk tk bk C m) {x : KeyS × Nat} (hx : x ∈ C.ks) : Away bk x.2 ∧ x.2 ≠ C.kk ∧ x.2 ≠ C.kd := h.ar _ (List.mem_append_left _ (List.mem_map.mpr ⟨x, hx, rfl⟩))
theorem TurnSt.rd (h : TurnSt TP q m0 dk tk bk C m) {x : List Ent × Nat} (hx : x ∈ C.dr) : Away bk x.2 ∧ x.2 ≠ C.kk ∧ x.2 ≠ C.kd := h.ar _ (List.mem_append_right _ (List.mem_map.mpr ⟨x, hx, rfl⟩))
theorem TurnSt.setK (h : TurnSt TP q m0 dk tk bk C m) {i : Nat} {x : KeyS × Nat} {row : List Ent} (hx : C.ks[i]? = some x) (hr : GoodRow (IsPerson C.p) 8 20 row) :
    TurnSt TP q m0 dk tk bk (C.setK i x row) ((putBk m bk { C.bk with keys := C.bk.keys.set i row }).set x.2 (.lst (row.map entD))) := by
  have hxm := List.mem_of_getElem? hx
  have ax := h.rk hxm
  have cx := h.kr x hxm
  have hl : x.2 < (putBk m bk { C.bk with keys := C.bk.keys.set i row }).length := by rw [put_len]; exact (List.getElem?_eq_some_iff.mp cx).1
  have keep : ∀ {j : Nat} {c : Cell}, m[j]? = some c → Away bk j → j ≠ x.2 → ((putBk m bk { C.bk with keys := C.bk.keys.set i row }).set x.2 (.lst (row.map entD)))[j]? = some c := fun {j c} e a n => by
    rw [List.getElem?_set_ne (fun z => n z.symm), put_away a]
    exact e
  have good : GoodS C.p ((C.setK i x row).ks.map (·.1)) (C.dr.map (·.1)) := by
    refine ⟨h.good.p0, by unfold Cs.setK; rw [List.length_map, List.length_set, ← List.length_map (·.1)]; exact h.good.k1, h.good.d0, fun k hk => ?_, h.good.door⟩
    obtain ⟨y, hy, rfl⟩ := List.mem_map.mp hk
    rcases mem_setE hy with e | ⟨j, _, e⟩
    · rw [e]
      exact ⟨(h.good.key x.1 (List.mem_map.mpr ⟨x, hxm, rfl⟩)).1, hr⟩
    · exact h.good.key y.1 (List.mem_map.mpr ⟨y, List.mem_of_getElem? e, rfl⟩)
  refine ⟨keep h.dice (away_of h.book.bk h.dice fun _ z => by cases z) (cell_ne h.dice cx fun z => by cases z), keep h.tab (away_of h.book.bk h.tab fun _ z => by cases z) (cell_ne h.tab cx fun z => by cases z), ?_, ?_, keep h.d h.ak.2.1 (fun z => ax.2.2 z.symm), fun y hy => ?_, fun y hy => ?_, h.ak, ?_, ?_, good, h.low, by rw [setK_rows hx]; exact h.lor, fun j hj => ?_⟩
  · rw [setK_bk hx]
    refine ⟨?_, by rw [← setK_bk hx]; exact case_bk good⟩
    have := put_is (m := m) (B := { C.bk with keys := C.bk.keys.set i row }) h.book.lt
    have a := ax.1
    unfold Away at a
    exact ⟨by rw [List.getElem?_set_ne (by omega)]; exact this.c1, by rw [List.getElem?_set_ne (by omega)]; exact this.c2, by rw [List.getElem?_set_ne (by omega)]; exact this.c3⟩
  · have e : (C.setK i x row).ks.map keyM = C.ks.map keyM := map_set_id hx rfl
    rw [e]
    exact keep h.k h.ak.1 fun z => ax.2.1 z.symm
  · rcases mem_setE hy with e | ⟨j, hj, e⟩
    · rw [e]
      exact List.getElem?_set_self hl
    · exact keep (h.kr y (List.mem_of_getElem? e)) (h.rk (List.mem_of_getElem? e)).1 (h.key_ne hx e hj)
  · exact keep (h.dr y hy) (h.rd hy).1 fun z => h.kd_ne hxm hy z.symm
  · rw [setK_rows hx]
    exact h.ar
  · rw [setK_rows hx]
    exact h.nd
  · have := h.lor x.2 (List.mem_append_left _ (List.mem_map.mpr ⟨x, hxm, rfl⟩))
    have := h.low.1
    rw [List.getElem?_set_ne (by omega), put_away (.inl (by omega))]
    exact h.kept j hj
theorem TurnSt.setD (h : TurnSt TP q m0 dk tk bk C m) {i : Nat} {x : List Ent × Nat} {row : List Ent} (hx : C.dr[i]? = some x) (hr : GoodRow IsKind 8 20 row) :
    TurnSt TP q m0 dk tk bk (C.setD i x row) ((putBk m bk { C.bk with doors := C.bk.doors.set i row }).set x.2 (.lst (row.map entD))) := by
  have hxm := List.mem_of_getElem? hx
  have ax := h.rd hxm
  have cx := h.dr x hxm
  have hl : x.2 < (putBk m bk { C.bk with doors := C.bk.doors.set i row }).length := by rw [put_len]; exact (List.getElem?_eq_some_iff.mp cx).1
  have keep : ∀ {j : Nat} {c : Cell}, m[j]? = some c → Away bk j → j ≠ x.2 → ((putBk m bk { C.bk with doors := C.bk.doors.set i row }).set x.2 (.lst (row.map entD)))[j]? = some c := fun {j c} e a n => by
    rw [List.getElem?_set_ne (fun z => n z.symm), put_away a]
    exact e
  have good : GoodS C.p (C.ks.map (·.1)) ((C.setD i x row).dr.map (·.1)) := by
    refine ⟨h.good.p0, h.good.k1, by unfold Cs.setD; rw [List.length_map, List.length_set, ← List.length_map (·.1)]; exact h.good.d0, h.good.key, fun r hk => ?_⟩
    obtain ⟨y, hy, rfl⟩ := List.mem_map.mp hk
    rcases mem_setE hy with e | ⟨j, _, e⟩
    · rw [e]
      exact hr
    · exact h.good.door y.1 (List.mem_map.mpr ⟨y, List.mem_of_getElem? e, rfl⟩)
  refine ⟨keep h.dice (away_of h.book.bk h.dice fun _ z => by cases z) (cell_ne h.dice cx fun z => by cases z), keep h.tab (away_of h.book.bk h.tab fun _ z => by cases z) (cell_ne h.tab cx fun z => by cases z), ?_, keep h.k h.ak.1 (fun z => ax.2.1 z.symm), ?_, fun y hy => ?_, fun y hy => ?_, h.ak, ?_, ?_, good, h.low, by rw [setD_rows hx]; exact h.lor, fun j hj => ?_⟩
  · rw [setD_bk hx]
    refine ⟨?_, by rw [← setD_bk hx]; exact case_bk good⟩
    have := put_is (m := m) (B := { C.bk with doors := C.bk.doors.set i row }) h.book.lt
    have a := ax.1
    unfold Away at a
    exact ⟨by rw [List.getElem?_set_ne (by omega)]; exact this.c1, by rw [List.getElem?_set_ne (by omega)]; exact this.c2, by rw [List.getElem?_set_ne (by omega)]; exact this.c3⟩
  · have e : (C.setD i x row).dr.map (fun x => D.hd x.2) = C.dr.map fun x => D.hd x.2 := map_set_id hx rfl
    rw [e]
    exact keep h.d h.ak.2.1 fun z => ax.2.2 z.symm
  · exact keep (h.kr y hy) (h.rk hy).1 fun z => h.kd_ne hy hxm z
  · rcases mem_setE hy with e | ⟨j, hj, e⟩
    · rw [e]
      exact List.getElem?_set_self hl
    · exact keep (h.dr y (List.mem_of_getElem? e)) (h.rd (List.mem_of_getElem? e)).1 (h.door_ne hx e hj)
  · rw [setD_rows hx]
    exact h.ar
  · rw [setD_rows hx]
    exact h.nd
  · have := h.lor x.2 (List.mem_append_right _ (List.mem_map.mpr ⟨x, hxm, rfl⟩))
    have := h.low.1
    rw [List.getElem?_set_ne (by omega), put_away (.inl (by omega))]
    exact h.kept j hj
/-- a key more -/
def Cs.cut (C : Cs) (k : KeyS) (r : Nat) : Cs := { C with ks := C.ks ++ [(k, r)] }
theorem cut_bk {k : KeyS} {r : Nat} : (C.cut k r).bk = { C.bk with cuts := C.bk.cuts ++ [(k.opens, k.plain)], keys := C.bk.keys ++ [k.row] } := by
  show Bk.mk C.p (((C.ks ++ [(k, r)]).map (·.1)).map fun k => (k.opens, k.plain)) (((C.ks ++ [(k, r)]).map (·.1)).map (·.row)) (C.dr.map (·.1)) = _
  rw [List.map_append, List.map_append, List.map_append]
  rfl
theorem TurnSt.cut (h : TurnSt TP q m0 dk tk bk C m) {os : List Int} {pl : Bool} (ho : Opens os) (hl : C.ks.length < 6) :
    TurnSt TP q m0 dk tk bk (C.cut ⟨os, pl, []⟩ m.length) (putBk ((m ++ [Cell.lst []]).set C.kk (.lst (C.ks.map keyM ++ [keyM (⟨os, pl, []⟩, m.length)]))) bk { C.bk with cuts := C.bk.cuts ++ [(os, pl)], keys := C.bk.keys ++ [[]] }) := by
  have lt : ∀ {j : Nat} {c : Cell}, m[j]? = some c → j < m.length := fun e => (List.getElem?_eq_some_iff.mp e).1
  have keep : ∀ {j : Nat} {c : Cell}, m[j]? = some c → Away bk j → j ≠ C.kk → (putBk ((m ++ [Cell.lst []]).set C.kk (.lst (C.ks.map keyM ++ [keyM (⟨os, pl, []⟩, m.length)]))) bk { C.bk with cuts := C.bk.cuts ++ [(os, pl)], keys := C.bk.keys ++ [[]] })[j]? = some c := fun {j c} e a n => by
    rw [put_away a, List.getElem?_set_ne (fun z => n z.symm)]
    exact Grow.app _ _ _ _ e
  have aN : Away bk m.length := .inr h.book.lt
  have good : GoodS C.p ((C.cut ⟨os, pl, []⟩ m.length).ks.map (·.1)) (C.dr.map (·.1)) := by
    refine ⟨h.good.p0, ?_, h.good.d0, fun k hk => ?_, h.good.door⟩
    · show ((C.ks ++ [_]).map _).length ≤ 6
      rw [List.length_map, List.length_append]
      exact hl
    · have hk : k ∈ (C.ks ++ [((⟨os, pl, []⟩ : KeyS), m.length)]).map (·.1) := hk
      rw [List.map_append] at hk
      rcases List.mem_append.mp hk with hk | hk
      · exact h.good.key k hk
      · rw [List.mem_singleton.mp hk]
        exact ⟨ho, (by show 0 ≤ 8; omega), (fun e he => by cases he), rfl⟩
  have rows : ∀ r, r ∈ (C.cut ⟨os, pl, []⟩ m.length).rows ↔ r ∈ C.rows ∨ r = m.length := fun r => by
    show r ∈ (C.ks ++ [((⟨os, pl, []⟩ : KeyS), m.length)]).map (·.2) ++ C.dr.map (·.2) ↔ _
    unfold Cs.rows
    rw [List.map_append]
    simp only [List.mem_append, List.mem_map, List.mem_singleton, List.map_cons, List.map_nil]
    constructor
    · rintro ((h | h) | h)
      · exact .inl (.inl h)
      · exact .inr h
      · exact .inl (.inr h)
    · rintro ((h | h) | h)
      · exact .inl (.inl h)
      · exact .inr h
      · exact .inl (.inr h)
  have rlt : ∀ r ∈ C.rows, r < m.length := fun r hr => by
    rcases List.mem_append.mp hr with hr | hr
    · obtain ⟨x, hx, rfl⟩ := List.mem_map.mp hr
      exact lt (h.kr x hx)
    · obtain ⟨x, hx, rfl⟩ := List.mem_map.mp hr
      exact lt (h.dr x hx)
  refine ⟨keep h.dice (away_of h.book.bk h.dice fun _ z => by cases z) (cell_ne h.dice h.k fun z => by cases z), keep h.tab (away_of h.book.bk h.tab fun _ z => by cases z) (cell_ne h.tab h.k fun z => by cases z), ?_, ?_, keep h.d h.ak.2.1 (fun z => h.ak.2.2 z.symm), fun y hy => ?_, fun y hy => keep (h.dr y hy) (h.rd hy).1 (h.rd hy).2.1, h.ak, fun r hr => ?_, ?_, good, h.low, fun r hr => ?_, fun j hj => ?_⟩
  · rw [cut_bk]
    refine ⟨put_is ?_, ?_⟩
    · rw [List.length_set, List.length_append]
      have := h.book.lt
      show bk + 3 < m.length + 1
      omega
    · rw [← cut_bk (k := ⟨os, pl, []⟩) (r := m.length)]
      exact case_bk good
  · refine (put_away h.ak.1).trans ?_
    show ((m ++ [Cell.lst []]).set C.kk _)[C.kk]? = some (.lst ((C.ks ++ [((⟨os, pl, []⟩ : KeyS), m.length)]).map keyM))
    rw [List.getElem?_set_self (by rw [List.length_append]; have := lt h.k; show C.kk < m.length + 1; omega), List.map_append]
    rfl
  · have hy : y ∈ C.ks ++ [((⟨os, pl, []⟩ : KeyS), m.length)] := hy
    rcases List.mem_append.mp hy with hy | hy
    · exact keep (h.kr y hy) (h.rk hy).1 (h.rk hy).2.1
    · rw [List.mem_singleton.mp hy, put_away aN, List.getElem?_set_ne (Nat.ne_of_lt (lt h.k)), List.getElem?_append_right (Nat.le_refl _)]
      simp
  · rcases (rows r).mp hr with hr | rfl
    · exact h.ar r hr
    · exact ⟨aN, Nat.ne_of_gt (lt h.k), Nat.ne_of_gt (lt h.d)⟩
  · show ((C.ks ++ [((⟨os, pl, []⟩ : KeyS), m.length)]).map (·.2) ++ C.dr.map (·.2)).Nodup
    have n0 := h.nd
    unfold Cs.rows at n0
    obtain ⟨n1, n2, n3⟩ := List.nodup_append.mp n0
    rw [List.map_append, List.nodup_append]
    refine ⟨?_, n2, fun a ha b hb => ?_⟩
    · rw [List.nodup_append]
      refine ⟨n1, by simp, fun a ha b hb => ?_⟩
      have := rlt a (List.mem_append_left _ ha)
      have hb : b = m.length := List.mem_singleton.mp hb
      omega
    · rcases List.mem_append.mp ha with ha | ha
      · exact n3 a ha b hb
      · have := rlt b (List.mem_append_right _ hb)
        have ha : a = m.length := List.mem_singleton.mp ha
        omega
  · rcases (rows r).mp hr with hr | rfl
    · exact h.lor r hr
    · exact Nat.le_trans h.low.2.1 (Nat.le_of_lt (lt h.k))
  · have h1 := h.low
    have h2 := lt h.k
    rw [put_away (.inl (by omega)), List.getElem?_set_ne (by omega), List.getElem?_append_left (by omega)]
    exact h.kept j hj
end

/-! ### a turn of a story -/
def turnQ : Str := (envOfC "_law_turn" (defScope s__law_turn) 0 0 .none).qual ++ "<lambda>"
def Fturn (TP : Addr) (Cb : Addr) : FSp where
  ar := 3
  G := Store × Nat × Nat × Nat × Cs
  pre := fun g ds m => ds = [.hd g.2.1, bookD Cb g.2.2.2.2.p g.2.2.2.1, g.2.2.2.2.d] ∧ TurnSt TP turnQ g.1 g.2.1 g.2.2.1 g.2.2.2.1 g.2.2.2.2 m
  post := fun g m d m' => d = .non ∧ m.length ≤ m'.length ∧ ∃ C' : Cs, C'.p = g.2.2.2.2.p ∧ C'.kk = g.2.2.2.2.kk ∧ C'.kd = g.2.2.2.2.kd ∧ C'.dr.length = g.2.2.2.2.dr.length ∧ TurnSt TP turnQ g.1 g.2.1 g.2.2.1 g.2.2.2.1 C' m'
def entPy (e : Ent) : PyData := .tuple [match e.1 with | none => .none | some i => .int i, .int e.2.1, .int e.2.2]
def keyPy (x : KeyS × Nat) : PyData := .tuple [.tuple (x.1.opens.map .int), .bool x.1.plain, .list (x.1.row.map entPy)]
theorem entD_py {m : Store} {n : Nat} (e : Ent) : Py m (n + 1) (entD e) (entPy e) := by
  obtain ⟨w, a, b⟩ := e
  refine .tup (.cons ?_ (.cons (.int _ _) (.cons (.int _ _) (.nil _))))
  cases w with
  | none => exact .non _
  | some i => exact .int _ _
theorem keyM_py {m : Store} {n : Nat} {x : KeyS × Nat} (h : m[x.2]? = some (.lst (x.1.row.map entD))) : Py m (n + 3) (keyM x) (keyPy x) :=
  .tup (.cons (.tup (PyA.map fun _ _ => .int _ _)) (.cons (.bl _ _) (.cons (.hd h (PyA.map fun e _ => entD_py e)) (.nil _))))
def whos (p : Int) : List (Option Int) := none :: ((KR.upTo p).map some ++ (KR.upTo p).map some)
theorem whos_D (p : Int) : [D.non] ++ (List.replicate 2 ((KR.upTo p).map D.int)).flatten = (whos p).map whatD := by
  unfold whos
  rw [List.map_cons, List.map_append, List.map_map]
  show D.non :: ((KR.upTo p).map D.int ++ ((KR.upTo p).map D.int ++ [])) = _
  rw [List.append_nil]
  rfl
theorem whos_is {p : Int} {w : Option Int} (h : w ∈ whos p) : IsPerson p w := by
  intro x hx
  subst hx
  unfold whos at h
  rcases List.mem_cons.mp h with h | h
  · cases h
  · rcases List.mem_append.mp h with h | h
    · obtain ⟨y, hy, e⟩ := List.mem_map.mp h
      cases e
      exact upTo_mem hy
    · obtain ⟨y, hy, e⟩ := List.mem_map.mp h
      cases e
      exact upTo_mem hy
theorem whos_len (p : Int) : (whos p).length = 1 + 2 * p.toNat := by
  unfold whos
  rw [List.length_cons, List.length_append, List.length_map, upTo_len]
  omega
theorem keys_at {p : Int} {ks : List KeyS} {dr : List (List Ent)} {n : Nat} {k : KeyS} (h : ks[n]? = some k) : rowAt (bookOf p ks dr).keys n = k.row := by
  show (ks.map (·.row)).getD n [] = _
  rw [List.getD_eq_getElem?_getD, List.getElem?_map, h]
  rfl
theorem doors_at {p : Int} {ks : List KeyS} {dr : List (List Ent)} {n : Nat} {r : List Ent} (h : dr[n]? = some r) : rowAt (bookOf p ks dr).doors n = r := by
  show dr.getD n [] = _
  rw [List.getD_eq_getElem?_getD, h]
  rfl
theorem GoodRow.put {wh : Option Int → Prop} {far : Int} {r : List Ent} (h : GoodRow wh 8 far r) {p : Nat} {e : Ent} (hp : p ≤ r.length) (hl : r.length < 8) (hs : stuckF (putIn r p e) = none) (he : wh e.1 ∧ 0 ≤ e.2.1 ∧ e.2.1 ≤ e.2.2 ∧ e.2.2 ≤ far) : GoodRow wh 8 far (putIn r p e) := by
  refine ⟨by rw [putIn_len hp]; omega, fun z hz => ?_, hs⟩
  rcases putIn_mem hz with rfl | hz
  · exact he
  · exact h.ent z hz
theorem ok_turn (T : Tx K mg) (TB : LamX.TabB base mg T.co__law_turn T.tp__law_turn) : FnOk P w K mg base CX0 7 T.a__law_turn T.f__law_turn ["_law_d", "_law_book", "_law_case"] (spD K (Fturn T.tp__law_turn T.C_Book)) := by
  have TO := ok_lawtold (P := P) (w := w) (base := base) T
  have G__law_next := ok_next (P := P) (w := w) (base := base) T
  have G__law_window := ok_window (P := P) (w := w) (base := base) T
  have G__law_fits := ok_fits (P := P) (w := w) (base := base) T
  have G_Book_cut := ok_cut (P := P) (w := w) (base := base) T
  have GX_Book_hand := ok_handX (P := P) (w := w) (base := base) T
  have GX_Book_fit := ok_fitX (P := P) (w := w) (base := base) T
  refine ok0C T.F__law_turn T.hc__law_turn sc__law_turn rfl (fun _ _ _ _ _ h => h) (fun A outer s H E hr => ⟨_, pss_cons (ps_asg (pv 2) (pg_tupK (K := K) (n := 3) (pg_tup (n := 3) rfl (pgs_cons (pg_name (i := 3) sc__law_turn.nd rfl (by first | exact Or.inl rfl | exact Or.inr rfl)) (pgs_cons (pg_name (i := 4) sc__law_turn.nd rfl (by first | exact Or.inl rfl | exact Or.inr rfl)) (pgs_cons (pg_name (i := 5) sc__law_turn.nd rfl (by first | exact Or.inl rfl | exact Or.inr rfl)) (pgs_nil))))))) (pss_cons (ps_asg (pe_call G__law_next (hr.mono (by first | decide | omega)) rfl T.g__law_next T.k__law_next T.b__law_next .nil pass0 (pa_cons (pv 0) (pa_cons (pe_int) (pa_nil)))) (pg_name (i := 6) sc__law_turn.nd rfl (by first | exact Or.inl rfl | exact Or.inr rfl))) (pss_cons (ps_if (PW.pt (pw_and (pt_cmpR op_eq (pv 6) (pe_int) (nomark _)) (pw_and1 (pt_cmpR op_lt (pe_callB (call_lenK (K := K)) (by rfl) T.n_len (by decide +kernel) (pa_cons (pv 4) (pa_nil))) (pe_int) (nomark _))))) (pss_cons (ps_asg (pe_callTy (call_tupK (K := K)) (by rfl) T.n_tuple (by decide +kernel) (pa_cons (pe_lc (own := [("_law_kind", 8)]) rfl sc__law_turn.nd (pi_range1 rfl T.n_range (pa_cons (pe_int) (pa_nil))) (blkOk_by (N := ["_law_d", "_law_book", "_law_case", "_law_persons", "_law_keys", "_law_doors", "_law_way", "_law_opens", "_law_kind", "_law_plain", "_law_early", "_law_late", "_law_name", "_law_rows", "_law_place", "_law_who", "_law_row", "_law_door"]) (own := [("_law_kind", 8)]) (sc := defScope s__law_turn) (by decide +kernel)) (fun _ _ _ _ _ => pg_name (i := 8) sc__law_turn.nd rfl (by first | exact Or.inl rfl | exact Or.inr rfl)) (fun _ _ _ _ _ => pts_one (pt_cmpR op_eq (pe_call G__law_next (hr.mono (by first | decide | omega)) rfl T.g__law_next T.k__law_next T.b__law_next .nil pass0 (pa_cons (pv 0) (pa_cons (pe_int) (pa_nil)))) (pe_int) (nomark _))) (fun _ _ _ _ _ => pv 8)) (pa_nil))) (pg_name (i := 7) sc__law_turn.nd rfl (by first | exact Or.inl rfl | exact Or.inr rfl))) (pss_cons (ps_asg (pe_cmpR op_eq (pe_call G__law_next (hr.mono (by first | decide | omega)) rfl T.g__law_next T.k__law_next T.b__law_next .nil pass0 (pa_cons (pv 0) (pa_cons (pe_int) (pa_nil)))) (pe_int) (nomark _)) (pg_name (i := 9) sc__law_turn.nd rfl (by first | exact Or.inl rfl | exact Or.inr rfl))) (pss_cons (ps_expr (pe_bmK (K := K) (pe_bm PySem.F.plainAttrs_list PySem.F.slot_list_append PySem.F.type_list_append mt_append (pv 4) (pa_cons (pe_tup (pa_cons (pv 7) (pa_cons (pv 9) (pa_cons (pe_lst (pa_nil)) (pa_nil))))) (pa_nil))))) (pss_one (ps_expr (pe_meth (pv 1) T.cl_Book T.m_Book_cut G_Book_cut (hr.mono (by first | decide | omega)) T.b_Book_cut .nil pass0 (pa_cons (pv 7) (pa_cons (pv 9) (pa_nil))))))))) (pss_nil)) (pss_cons (ps_asg (pe_call G__law_window (hr.mono (by first | decide | omega)) rfl T.g__law_window T.k__law_window T.b__law_window .nil pass0 (pa_cons (pv 0) (pa_cons (pe_ix (ix_seqK (K := K)) (pe_lst (pa_cons (pe_int) (pa_cons (pe_int) (pa_nil)))) (pe_call G__law_next (hr.mono (by first | decide | omega)) rfl T.g__law_next T.k__law_next T.b__law_next .nil pass0 (pa_cons (pv 0) (pa_cons (pe_int) (pa_nil)))) (fun _ _ => rfl)) (pa_nil)))) (pg_tupK (K := K) (n := 2) (pg_tup (n := 2) rfl (pgs_cons (pg_name (i := 10) sc__law_turn.nd rfl (by first | exact Or.inl rfl | exact Or.inr rfl)) (pgs_cons (pg_name (i := 11) sc__law_turn.nd rfl (by first | exact Or.inl rfl | exact Or.inr rfl)) (pgs_nil)))))) (pss_cons (ps_if (PW.pt (pw_and (pt_cmpR op_lt (pv 6) (pe_int) (nomark _)) (pw_and1 (pt_cmpR (op_neK hr.units (K := K)) (pv 4) (pe_lst (pa_nil)) (nomark _))))) (pss_cons (ps_asg (pe_call G__law_next (hr.mono (by first | decide | omega)) rfl T.g__law_next T.k__law_next T.b__law_next .nil pass0 (pa_cons (pv 0) (pa_cons (pe_callB (call_lenK (K := K)) (by rfl) T.n_len (by decide +kernel) (pa_cons (pv 4) (pa_nil))) (pa_nil)))) (pg_name (i := 12) sc__law_turn.nd rfl (by first | exact Or.inl rfl | exact Or.inr rfl))) (pss_cons (ps_asg (pe_ix (ix_seqK (K := K)) (pe_ix (ix_seqK (K := K)) (pv 4) (pv 12) (fun _ _ => rfl)) (pe_int) (fun _ _ => rfl)) (pg_name (i := 13) sc__law_turn.nd rfl (by first | exact Or.inl rfl | exact Or.inr rfl))) (pss_cons (ps_asg (pe_call G__law_next (hr.mono (by first | decide | omega)) rfl T.g__law_next T.k__law_next T.b__law_next .nil pass0 (pa_cons (pv 0) (pa_cons (pe_op op_add (pe_callB (call_lenK (K := K)) (by rfl) T.n_len (by decide +kernel) (pa_cons (pv 13) (pa_nil))) (pe_int)) (pa_nil)))) (pg_name (i := 14) sc__law_turn.nd rfl (by first | exact Or.inl rfl | exact Or.inr rfl))) (pss_cons (ps_asg (pe_ix (ix_seqK (K := K)) (pe_op op_cat (pe_lst (pa_cons (pe_non) (pa_nil))) (pe_op op_rep (pe_listRg rfl rfl T.n_list (prg_1 rfl T.n_range (pv 3))) (pe_int))) (pe_call G__law_next (hr.mono (by first | decide | omega)) rfl T.g__law_next T.k__law_next T.b__law_next .nil pass0 (pa_cons (pv 0) (pa_cons (pe_op op_add (pe_int) (pe_op op_mul (pe_int) (pv 3))) (pa_nil)))) (fun _ _ => rfl)) (pg_name (i := 15) sc__law_turn.nd rfl (by first | exact Or.inl rfl | exact Or.inr rfl))) (pss_cons (ps_expr (pe_told (k := 4) (own := []) [] rfl T.g__law_told T.k__law_told TO TB rfl (hr.mono (by first | decide | omega)) (lamN_by (by kernel_rfl)) (by decide) rfl (ev_lam0 rfl) (fun s1 cl dV doc pm cv ctv dv r h => by cases r; have h : dV = .none := h; subst h; exact BindsTo.of_eq rfl) (fun A outer s H E f c hr => pe_meth (pv 1) T.cl_Book T.m_Book_hand GX_Book_hand (hr.mono (by first | decide | omega)) T.b_Book_hand .nil (passes_call (takes_of rfl rfl rfl rfl) (fun _ _ _ _ h => h)) (pa_cons (pv 12) (pa_cons (pv 14) (pa_cons (pv 15) (pa_cons (pv 10) (pa_cons (pv 11) (pa_nil))))))))) (pss_one (ps_asg (pe_tup (pa_cons (pv 15) (pa_cons (pv 10) (pa_cons (pv 11) (pa_nil))))) (pg_name (i := 16) sc__law_turn.nd rfl (by first | exact Or.inl rfl | exact Or.inr rfl))))))))) (pss_cons (ps_asg (pe_call G__law_next (hr.mono (by first | decide | omega)) rfl T.g__law_next T.k__law_next T.b__law_next .nil pass0 (pa_cons (pv 0) (pa_cons (pe_callB (call_lenK (K := K)) (by rfl) T.n_len (by decide +kernel) (pa_cons (pv 5) (pa_nil))) (pa_nil)))) (pg_name (i := 17) sc__law_turn.nd rfl (by first | exact Or.inl rfl | exact Or.inr rfl))) (pss_cons (ps_asg (pe_ix (ix_seqK (K := K)) (pv 5) (pv 17) (fun _ _ => rfl)) (pg_name (i := 13) sc__law_turn.nd rfl (by first | exact Or.inl rfl | exact Or.inr rfl))) (pss_cons (ps_asg (pe_call G__law_next (hr.mono (by first | decide | omega)) rfl T.g__law_next T.k__law_next T.b__law_next .nil pass0 (pa_cons (pv 0) (pa_cons (pe_op op_add (pe_callB (call_lenK (K := K)) (by rfl) T.n_len (by decide +kernel) (pa_cons (pv 13) (pa_nil))) (pe_int)) (pa_nil)))) (pg_name (i := 14) sc__law_turn.nd rfl (by first | exact Or.inl rfl | exact Or.inr rfl))) (pss_cons (ps_asg (pe_call G__law_next (hr.mono (by first | decide | omega)) rfl T.g__law_next T.k__law_next T.b__law_next .nil pass0 (pa_cons (pv 0) (pa_cons (pe_ix (ix_seqK (K := K)) (pe_lst (pa_cons (pe_int) (pa_cons (pe_int) (pa_nil)))) (pe_call G__law_next (hr.mono (by first | decide | omega)) rfl T.g__law_next T.k__law_next T.b__law_next .nil pass0 (pa_cons (pv 0) (pa_cons (pe_int) (pa_nil)))) (fun _ _ => rfl)) (pa_nil)))) (pg_name (i := 8) sc__law_turn.nd rfl (by first | exact Or.inl rfl | exact Or.inr rfl))) (pss_cons (ps_expr (pe_told (k := 4) (own := ["_law_a"]) [.int (0)] rfl T.g__law_told T.k__law_told TO TB rfl (hr.mono (by first | decide | omega)) (lamN_by (by kernel_rfl)) (by decide) rfl (ev_lam1 (i := 0) rfl rfl) (fun s1 cl dV doc pm cv ctv dv r h => by obtain ⟨u, rfl, _⟩ := r.one; obtain ⟨t, rfl, ht⟩ := h; exact BindsTo.of_defaults rfl ht rfl rfl rfl) (fun A outer s H E f c hr => pe_meth (pv 1) T.cl_Book T.m_Book_fit GX_Book_fit (hr.mono (by first | decide | omega)) T.b_Book_fit .nil (passes_call (takes_of rfl rfl rfl rfl) (fun _ _ _ _ h => h)) (pa_cons (pv 17) (pa_cons (pv 14) (pa_cons (pv 8) (pa_cons (pv 10) (pa_cons (pv 11) (pa_nil))))))))) (pss_one (ps_asg (pe_tup (pa_cons (pv 8) (pa_cons (pv 10) (pa_cons (pv 11) (pa_nil))))) (pg_name (i := 16) sc__law_turn.nd rfl (by first | exact Or.inl rfl | exact Or.inr rfl)))))))))) (pss_one (ps_if (PW.pt (pw_and (pt_cmpR op_lt (pe_callB (call_lenK (K := K)) (by rfl) T.n_len (by decide +kernel) (pa_cons (pv 13) (pa_nil))) (pe_int) (nomark _)) (pw_and1 (pt_cmp (pc_isN (pe_call G__law_fits (hr.mono (by first | decide | omega)) rfl T.g__law_fits T.k__law_fits T.b__law_fits .nil pass0 (pa_cons (pe_op op_cat (pe_op op_cat (pe_slice (sl_listK (K := K)) (pv 13) po_none (po_some (pv 14))) (pe_lst (pa_cons (pv 16) (pa_nil)))) (pe_slice (sl_listK (K := K)) (pv 13) (po_some (pv 14)) po_none)) (pa_nil)))) rfl)))) (pss_one (ps_expr (pe_bmK (K := K) (pe_bm PySem.F.plainAttrs_list PySem.F.slot_list_insert PySem.F.type_list_insert mt_insert (pv 13) (pa_cons (pv 14) (pa_cons (pv 16) (pa_nil))))))) (pss_nil))))))), ?_⟩)
  rintro ⟨m0, dk, tk, bk, C⟩ ds m ⟨rfl, hT⟩ wf
  dsimp only at hT
  try dsimp only
  walk_at "go"
  refine wg_tup rfl (wgs_cons (wg_name (wgs_cons (wg_name (wgs_cons (wg_name (wgs_nil ?_)))))))
  walk_at "go"
  refine calls_next hT.dice (by decide) (by decide) fun way w0 w1 => ?_
  refine wg_name ?_
  refine ws_seq (ws_mid (fun ρ' m' => ∃ (C1 : Cs) (a b c : Option D), C1.p = C.p ∧ C1.kk = C.kk ∧ C1.kd = C.kd ∧ C1.dr.length = C.dr.length ∧ m.length ≤ m'.length ∧ TurnSt T.tp__law_turn turnQ m0 dk tk bk C1 m' ∧
    ρ' = [some (.hd dk), some (bookD T.C_Book C.p bk), some C.d, some (.int C.p), some (.hd C.kk), some (.hd C.kd), some (.int way), a, b, c, none, none, none, none, none, none, none, none]) ?_ ?_)
  · have stay : ∃ (C1 : Cs) (a b c : Option D), C1.p = C.p ∧ C1.kk = C.kk ∧ C1.kd = C.kd ∧ C1.dr.length = C.dr.length ∧ m.length ≤ m.length ∧ TurnSt T.tp__law_turn turnQ m0 dk tk bk C1 m ∧
        [some (.hd dk), some (bookD T.C_Book C.p bk), some C.d, some (.int C.p), some (.hd C.kk), some (.hd C.kd), some (.int way), none, none, none, none, none, none, none, none, none, none, none] = [some (.hd dk), some (bookD T.C_Book C.p bk), some C.d, some (.int C.p), some (.hd C.kk), some (.hd C.kd), some (.int way), a, b, c, none, none, none, none, none, none, none, none] := ⟨C, none, none, none, rfl, rfl, rfl, rfl, Nat.le_refl _, hT, rfl⟩
    walk_at "go"
    refine ⟨fun _ => ?_, fun _ => ?_⟩
    · walk_at "go"
      refine wc_lenK (lstAt_of hT.k) ?_
      walk_at "go"
      rw [List.length_map]
      refine ⟨fun hb => ?_, fun _ => ?_⟩
      · have hl : C.ks.length < 6 := by
          have := of_decide_eq_true hb
          omega
        walk_at "go"
        refine we_lcSubR (fun a => .int (a : Int)) (fun _ _ => rfl) (by decide) ?_
        walk_at "go"
        refine ⟨fun a m' _ hg => ?_, fun a m' _ hg => ?_, fun l' hs => ?_⟩
        · walk_at "go"
          refine calls_next (hg _ _ hT.dice) (by decide) (by decide) fun u u0 u1 => ?_
          walk_at "go"
          rfl
        · walk_at "go"
          exact ⟨rfl, rfl⟩
        walk_at "go"
        refine wc_tupK rfl ?_
        walk_at "go"
        refine calls_next hT.dice (by decide) (by decide) fun u u0 u1 => ?_
        have ho : Opens (l'.map fun a : Nat => (a : Int)) := by
          have hs : l'.Sublist (List.range 10) := hs
          refine ⟨?_, fun x hx => ?_⟩
          · rw [List.pairwise_map]
            exact (List.pairwise_lt_range.sublist hs).imp fun {a b} (h : a < b) => Int.ofNat_lt.mpr h
          · obtain ⟨a, ha, rfl⟩ := List.mem_map.mp hx
            have := List.mem_range.mp (hs.subset ha)
            omega
        have eo : D.tup (l'.map fun a : Nat => .int (a : Int)) = .tup ((l'.map fun a : Nat => (a : Int)).map .int) := by rw [List.map_map]; rfl
        rw [eo]
        generalize l'.map (fun a : Nat => (a : Int)) = os at ho ⊢
        walk_at "go"
        refine ⟨ty_list (lstAt_of hT.k), ?_⟩
        walk_at "go"
        refine we_lstM ?_
        walk_at "go"
        refine wm_append (Grow.app _ _ _ _ hT.k) (by rw [List.length_map]; omega) ?_
        walk_at "go"
        refine we_meth ?_
        walk_at "go"
        refine ⟨_, _, rfl, by decide, ?_⟩
        walk_at "go"
        generalize decide (V.int u = V.int 1) = pl
        have hB2 : HasBk ((m ++ [Cell.lst []]).set C.kk (.lst (C.ks.map keyM ++ [keyM (⟨os, pl, []⟩, m.length)]))) bk C.bk := hT.book.app.set hT.ak.1
        refine ⟨rfl, (⟨bk, C.bk, 0, (none, 0, 0), 0, 0⟩, os, pl), ⟨rfl, hB2.pre, ?_, ho.1, ho.2⟩, fun d m2 ⟨ed, em⟩ => ?_, fun _ _ _ h => h.elim⟩
        · show ((C.ks.map (·.1)).map (·.row)).length < 6
          rw [List.length_map, List.length_map]
          exact hl
        subst em
        refine ⟨C.cut ⟨os, pl, []⟩ m.length, _, _, _, rfl, rfl, rfl, rfl, ?_, hT.cut ho hl, rfl⟩
        rw [put_len, List.length_set, List.length_append]
        exact Nat.le_add_right _ _
      · walk_at "go"
        exact stay
    · walk_at "go"
      exact stay
  rintro ρ' m1 ⟨C1, a, b, c, e1, e2, e3, e4, hlen, hT1, rfl⟩
  obtain ⟨p1, kk1, kd1, ks, dr⟩ := C1
  dsimp only at e1 e2 e3 e4
  subst e1
  subst e2
  subst e3
  have hg := hT1.good
  have p0 := hg.p0
  dsimp only at p0
  refine ws_seq (ws_asg ?_)
  walk_at "go"
  refine we_lst ?_
  walk_at "go"
  refine calls_next hT1.dice (by decide) (by decide) fun z z0 z1 => ?_
  refine wr_pick2 z0 z1 fun v hv => ?_
  obtain ⟨far, rfl, hfar⟩ : ∃ q : Int, v = .int q ∧ 0 ≤ q ∧ q ≤ 20 := by
    rcases hv with rfl | rfl
    · exact ⟨8, rfl, by decide, by decide⟩
    · exact ⟨20, rfl, by decide, by decide⟩
  walk_at "go"
  refine ⟨rfl, (dk, far), ⟨rfl, hT1.dice, hfar.1, by dsimp only; omega⟩, fun d m2 ⟨early, late, ed, l0, l1, l2, em⟩ => ?_, fun _ _ _ h => h.elim⟩
  subst ed
  subst em
  dsimp only at l2
  refine wg_tup rfl (wgs_cons (wg_name (wgs_cons (wg_name (wgs_nil ?_)))))
  refine ws_seq (ws_mid (fun ρ' m' => ∃ (r : Nat) (row : List Ent) (p : Nat) (e : Ent) (x7 x8 x9 x12 x15 x17 : Option D), p ≤ row.length ∧ row.length ≤ 8 ∧ m'[r]? = some (.lst (row.map entD)) ∧ m2.length ≤ m'.length ∧
    (row.length < 8 ∧ stuckF (putIn row p e) = none → ∃ C' : Cs, C'.p = C.p ∧ C'.kk = C.kk ∧ C'.kd = C.kd ∧ C'.dr.length = dr.length ∧ TurnSt T.tp__law_turn turnQ m0 dk tk bk C' (m'.set r (.lst ((putIn row p e).map entD)))) ∧
    (¬ (row.length < 8 ∧ stuckF (putIn row p e) = none) → ∃ C' : Cs, C'.p = C.p ∧ C'.kk = C.kk ∧ C'.kd = C.kd ∧ C'.dr.length = dr.length ∧ TurnSt T.tp__law_turn turnQ m0 dk tk bk C' m') ∧
    ρ' = [some (.hd dk), some (bookD T.C_Book C.p bk), some C.d, some (.int C.p), some (.hd C.kk), some (.hd C.kd), some (.int way), x7, x8, x9, some (.int early), some (.int late), x12, some (.hd r), some (.int p), x15, some (entD e), x17]) ?_ ?_)
  · have hk := hT1.k
    have hd := hT1.d
    have hdi := hT1.dice
    dsimp only at hk hd
    have hPy : Py m2 5 (.hd C.kk) (.list (ks.map keyPy)) := .hd hk (PyA.map fun x hx => keyM_py (hT1.kr x hx))
    refine ws_if ((?_ : KR.WT _ _ _ _ fun b m' => m' = m2 ∧ (b = true → ks ≠ [])).imp fun b m' ⟨em, hb⟩ => ?_)
    · walk_at "go"
      refine ⟨fun _ => ?_, fun _ => ⟨rfl, fun h => by cases h⟩⟩
      walk_at "go"
      refine we_lst ?_
      walk_at "go"
      refine wr_neD hPy (.lst (.nil 0)) (by decide) (by decide) ?_
      walk_at "go"
      exact ⟨rfl, fun h e => by subst e; exact absurd h (by decide +kernel)⟩
    subst em
    refine ⟨fun hbt => ?_, fun _ => ?_⟩
    · have hne := hb hbt
      have hpos : 0 < ks.length := List.length_pos_iff.mpr hne
      have hk6 : ks.length ≤ 6 := by have := hg.k1; rw [List.length_map] at this; exact this
      walk_at "go"
      rw [List.length_map]
      refine calls_next hdi (by omega) (by omega) fun n n0 n1 => ?_
      obtain ⟨n, rfl⟩ : ∃ j : Nat, n = (j : Int) := ⟨n.toNat, by omega⟩
      obtain ⟨x, hx⟩ : ∃ x, ks[n]? = some x := ⟨_, List.getElem?_eq_getElem (by omega)⟩
      have hr0 := hT1.kr x (List.mem_of_getElem? hx)
      have hgr := (hg.key x.1 (List.mem_map.mpr ⟨x, List.mem_of_getElem? hx, rfl⟩)).2
      walk_at "go"
      refine wr_ix (d := keyM x) (lstAt_of hk) (at_nat (by rw [List.getElem?_map, hx]; rfl)) ?_
      walk_at "go"
      rw [List.length_map]
      have hrl := hgr.len
      refine calls_next hdi (by omega) (by omega) fun p p0 p1 => ?_
      obtain ⟨p, rfl⟩ : ∃ j : Nat, p = (j : Int) := ⟨p.toNat, by omega⟩
      have hp : p ≤ x.1.row.length := by omega
      walk_at "go"
      refine we_lst ?_
      walk_at "go"
      refine we_lstRg ?_
      walk_at "go"
      refine ⟨by omega, ?_⟩
      walk_at "go"
      refine wr_rep rfl (by decide) (by rw [List.length_map, upTo_len]; omega) ?_
      refine wr_cat rfl rfl ?_ ?_
      · show 1 + ((List.replicate 2 ((KR.upTo C.p).map D.int)).flatten).length ≤ _
        show 1 + (((KR.upTo C.p).map D.int) ++ (((KR.upTo C.p).map D.int) ++ [])).length ≤ _
        rw [List.length_append, List.length_append, List.length_map, upTo_len, List.length_nil]
        omega
      rw [show [D.non] ++ (List.replicate (2 : Int).toNat ((KR.upTo C.p).map D.int)).flatten = (whos C.p).map whatD from whos_D C.p]
      walk_at "go"
      refine wr_intC ?_
      refine ⟨?_, ?_⟩
      · unfold CMul
        omega
      walk_at "go"
      refine calls_next hdi (by omega) (by omega) fun z z0 z1 => ?_
      refine wr_pick (f := whatD) (l := whos C.p) rfl z0 (by rw [whos_len]; omega) fun wh _ hwh => ?_
      have hwh := whos_is hwh
      walk_at "go"
      refine (?_ : KR.WE _ _ _ _ fun _ m9 => (x.1.row.length < 8 ∧ stuckF (putIn x.1.row p (wh, early, late)) = none) ∧ m9 = putBk m' bk { (Cs.mk C.p C.kk C.kd ks dr).bk with keys := (Cs.mk C.p C.kk C.kd ks dr).bk.keys.set n (putIn x.1.row p (wh, early, late)) } ∨ ¬ (x.1.row.length < 8 ∧ stuckF (putIn x.1.row p (wh, early, late)) = none) ∧ m9 = m').imp fun d m9 hN => ?_
      · refine we_told hT1.tab (fun _ _ => .nil) fun E => ?_
        walk_at "go"
        refine we_meth ?_
        walk_at "go"
        refine ⟨_, _, rfl, by decide, ?_⟩
        walk_at "go"
        have hat : rowAt (Cs.mk C.p C.kk C.kd ks dr).bk.keys n = x.1.row := keys_at (by rw [List.getElem?_map, hx]; rfl)
        refine ⟨rfl, ⟨bk, (Cs.mk C.p C.kk C.kd ks dr).bk, n, (wh, early, late), p, 0⟩, ⟨rfl, hT1.book.pre, ?_, ?_, hwh, l0, by dsimp only; omega, l1⟩, fun d m' ⟨ed, em, hl, hst⟩ => ?_, fun cls oi m' ⟨em, hx⟩ => ?_⟩
        · show n < ((ks.map (·.1)).map (·.row)).length
          rw [List.length_map, List.length_map]
          omega
        · dsimp only
          rw [hat]
          exact hp
        · dsimp only at em hl hst
          rw [hat] at em hl hst
          exact .inl ⟨⟨hl, hst⟩, em⟩
        · dsimp only at hx
          rw [hat] at hx
          cases hx with
          | full h8 => exact ⟨_, .place, .inr ⟨fun h => by omega, em⟩⟩
          | times i _ hst => exact ⟨_, .times i, .inr ⟨fun h => (nomatch hst.symm.trans h.2), em⟩⟩
      have hax := hT1.rk (List.mem_of_getElem? hx)
      rcases hN with ⟨hq, rfl⟩ | ⟨hq, rfl⟩
      · walk_at "go"
        refine ⟨x.2, x.1.row, p, (wh, early, late), _, _, _, _, _, _, hp, hgr.len, (put_away hax.1).trans hr0, by rw [put_len]; exact Nat.le_refl _, fun _ => ⟨(Cs.mk C.p C.kk C.kd ks dr).setK n x (putIn x.1.row p (wh, early, late)), rfl, rfl, rfl, rfl, hT1.setK hx (hgr.put hp hq.1 hq.2 ⟨hwh, l0, l1, by dsimp only; omega⟩)⟩, fun h => absurd hq h, rfl⟩
      · walk_at "go"
        exact ⟨x.2, x.1.row, p, (wh, early, late), _, _, _, _, _, _, hp, hgr.len, hr0, Nat.le_refl _, fun h => absurd h hq, fun _ => ⟨Cs.mk C.p C.kk C.kd ks dr, rfl, rfl, rfl, rfl, hT1⟩, rfl⟩
    · have hd2 : 0 < dr.length ∧ dr.length ≤ 2 := by have := hg.d0; rw [List.length_map] at this; exact this
      walk_at "go"
      rw [List.length_map]
      refine calls_next hdi (by omega) (by omega) fun n n0 n1 => ?_
      obtain ⟨n, rfl⟩ : ∃ j : Nat, n = (j : Int) := ⟨n.toNat, by omega⟩
      obtain ⟨x, hx⟩ : ∃ x, dr[n]? = some x := ⟨_, List.getElem?_eq_getElem (by omega)⟩
      have hr0 := hT1.dr x (List.mem_of_getElem? hx)
      have hgr := hg.door x.1 (List.mem_map.mpr ⟨x, List.mem_of_getElem? hx, rfl⟩)
      walk_at "go"
      refine wr_ix (d := .hd x.2) (lstAt_of hd) (at_nat (by rw [List.getElem?_map, hx]; rfl)) ?_
      walk_at "go"
      rw [List.length_map]
      have hrl := hgr.len
      refine calls_next hdi (by omega) (by omega) fun p p0 p1 => ?_
      obtain ⟨p, rfl⟩ : ∃ j : Nat, p = (j : Int) := ⟨p.toNat, by omega⟩
      have hp : p ≤ x.1.length := by omega
      walk_at "go"
      refine we_lst ?_
      walk_at "go"
      refine calls_next hdi (by decide) (by decide) fun z z0 z1 => ?_
      refine wr_pick2 z0 z1 fun v hv => ?_
      obtain ⟨kn, rfl, hkn⟩ : ∃ q : Int, v = .int q ∧ 0 < q ∧ q ≤ 10 := by
        rcases hv with rfl | rfl
        · exact ⟨3, rfl, by decide, by decide⟩
        · exact ⟨10, rfl, by decide, by decide⟩
      walk_at "go"
      refine calls_next hdi hkn.1 (by omega) fun kd kd0 kd1 => ?_
      walk_at "go"
      have hkd : IsKind (some kd) := ⟨kd, rfl, kd0, by omega⟩
      refine (?_ : KR.WE _ _ _ _ fun _ m9 => (x.1.length < 8 ∧ stuckF (putIn x.1 p (some kd, early, late)) = none) ∧ m9 = putBk m' bk { (Cs.mk C.p C.kk C.kd ks dr).bk with doors := (Cs.mk C.p C.kk C.kd ks dr).bk.doors.set n (putIn x.1 p (some kd, early, late)) } ∨ ¬ (x.1.length < 8 ∧ stuckF (putIn x.1 p (some kd, early, late)) = none) ∧ m9 = m').imp fun d m9 hN => ?_
      · refine we_told (ds := [.int 0]) hT1.tab (fun _ _ => .cons (.int 0) .nil) fun E => ?_
        walk_at "go"
        refine we_meth ?_
        walk_at "go"
        refine ⟨_, _, rfl, by decide, ?_⟩
        walk_at "go"
        have hat : rowAt (Cs.mk C.p C.kk C.kd ks dr).bk.doors n = x.1 := doors_at (by rw [List.getElem?_map, hx]; rfl)
        refine ⟨rfl, ⟨bk, (Cs.mk C.p C.kk C.kd ks dr).bk, n, (some kd, early, late), p, 0⟩, ⟨rfl, hT1.book.pre, ?_, ?_, hkd, l0, by dsimp only; omega, l1⟩, fun d m' ⟨ed, em, hl, hst⟩ => ?_, fun cls oi m' ⟨em, hx⟩ => ?_⟩
        · show n < (dr.map (·.1)).length
          rw [List.length_map]
          omega
        · dsimp only
          rw [hat]
          exact hp
        · dsimp only at em hl hst
          rw [hat] at em hl hst
          exact .inl ⟨⟨hl, hst⟩, em⟩
        · dsimp only at hx
          rw [hat] at hx
          cases hx with
          | full h8 => exact ⟨_, .place, .inr ⟨fun h => by omega, em⟩⟩
          | times i _ hst => exact ⟨_, .times i, .inr ⟨fun h => (nomatch hst.symm.trans h.2), em⟩⟩
      have hax := hT1.rd (List.mem_of_getElem? hx)
      rcases hN with ⟨hq, rfl⟩ | ⟨hq, rfl⟩
      · walk_at "go"
        refine ⟨x.2, x.1, p, (some kd, early, late), _, _, _, _, _, _, hp, hgr.len, (put_away hax.1).trans hr0, by rw [put_len]; exact Nat.le_refl _, fun _ => ⟨(Cs.mk C.p C.kk C.kd ks dr).setD n x (putIn x.1 p (some kd, early, late)), rfl, rfl, rfl, List.length_set, hT1.setD hx (hgr.put hp hq.1 hq.2 ⟨hkd, l0, l1, by dsimp only; omega⟩)⟩, fun h => absurd hq h, rfl⟩
      · walk_at "go"
        exact ⟨x.2, x.1, p, (some kd, early, late), _, _, _, _, _, _, hp, hgr.len, hr0, Nat.le_refl _, fun h => absurd h hq, fun _ => ⟨Cs.mk C.p C.kk C.kd ks dr, rfl, rfl, rfl, rfl, hT1⟩, rfl⟩
  · rintro ρ' m3 ⟨r, row, p, e, x7, x8, x9, x12, x15, x17, hp, hl8, hr, hl3, hyes, hno, rfl⟩
    refine ws_midW (fun _ m' => m.length ≤ m'.length ∧ ∃ C' : Cs, C'.p = C.p ∧ C'.kk = C.kk ∧ C'.kd = C.kd ∧ C'.dr.length = dr.length ∧ TurnSt T.tp__law_turn turnQ m0 dk tk bk C' m') ?_ ?_
    · refine ws_if ((?_ : KR.WT _ _ _ _ fun b m' => m' = m3 ∧ (b = true ↔ row.length < 8 ∧ stuckF (putIn row p e) = none)).imp fun b m' ⟨em, hb⟩ => ?_)
      · walk_at "go"
        rw [List.length_map]
        refine ⟨fun hl => ?_, fun hl => ⟨rfl, fun h => (by cases h), fun h => absurd (of_decide_eq_false hl) (by omega)⟩⟩
        have hl : row.length < 8 := by have := of_decide_eq_true hl; omega
        walk_at "go"
        refine wsl_list (lstAt_of hr) ?_
        rw [cut_to (by rw [List.length_map]; exact hp)]
        walk_at "go"
        refine we_lst ?_
        walk_at "go"
        refine wr_cat rfl rfl (by rw [List.length_take, List.length_map]; simp; omega) ?_
        walk_at "go"
        refine wsl_list (lstAt_of hr) ?_
        rw [cut_from (by rw [List.length_map]; exact hp)]
        walk_at "go"
        refine wr_cat rfl rfl (by simp; omega) ?_
        have er : D.lst ((row.map entD).take p ++ [entD e] ++ (row.map entD).drop p) = rowD (putIn row p e) := by
          unfold rowD putIn
          rw [List.map_append, List.map_append, List.map_take, List.map_drop]
          rfl
        rw [er]
        walk_at "go"
        refine calls_tells (putIn row p e) ⟨rfl, by rw [putIn_len hp]; omega⟩ ?_
        cases hst : stuckF (putIn row p e) with
        | none =>
          walk_at "go"
          exact ⟨rfl, fun _ => ⟨hl, rfl⟩, fun _ => rfl⟩
        | some j =>
          walk_at "go"
          exact ⟨rfl, Iff.intro (fun (h : false = true) => by cases h) (fun h => by cases h.2)⟩
      · subst em
        refine ⟨fun hbt => ?_, fun hbf => ?_⟩
        · obtain ⟨hl, hst⟩ := hb.mp hbt
          walk_at "go"
          have hr4 : (row.map entD).take p ++ [entD e] ++ (row.map entD).drop p = (putIn row p e).map entD := by
            unfold putIn
            rw [List.map_append, List.map_append, List.map_take, List.map_drop]
            rfl
          refine wm_insert hr (by rw [List.length_map]; omega) (by omega) (by omega) ?_
          rw [Int.toNat_natCast, hr4]
          walk_at "go"
          refine ⟨by rw [List.length_set]; exact Nat.le_trans hlen hl3, hyes ⟨hl, hst⟩⟩
        · walk_at "go"
          exact ⟨Nat.le_trans hlen (Nat.le_trans (Nat.le_refl _) hl3), hno fun h => by rw [hb.mpr h] at hbf; cases hbf⟩
    · rintro ρ2 m4 wf4 ⟨hln, C', q1, q2, q3, q4, hT4⟩
      exact fin_as hln wf4 rfl ⟨rfl, hln, C', q1, q2, q3, q4.trans e4, hT4⟩

/-! ### how a story begins and ends -/
def rows0 (b n : Nat) : List (List Ent × Nat) := (List.range n).map fun i => ([], b + i)
theorem goodS0 {p : Int} (hp : 1 ≤ p ∧ p ≤ 4) {n : Nat} (hn : n = 1 ∨ n = 2) {b : Nat} : GoodS p [] ((rows0 b n).map (·.1)) := by
  have hl : ((rows0 b n).map (·.1)).length = n := by
    unfold rows0
    rw [List.length_map, List.length_map, List.length_range]
  refine ⟨hp, by decide, by omega, fun k hk => (by cases hk), fun r hr => ?_⟩
  unfold rows0 at hr
  rw [List.map_map] at hr
  obtain ⟨i, _, rfl⟩ := List.mem_map.mp hr
  exact ⟨by show 0 ≤ 8; omega, (fun e he => by cases he), rfl⟩
def startC (p : Int) (M n : Nat) : Cs := ⟨p, M, M + 1, [], rows0 (M + 2) n⟩
def startM (m : Store) (n : Nat) : Store := m ++ ([.lst [], .lst ((List.range n).map fun i => .hd (m.length + 2 + i))] ++ List.replicate n (.lst []) ++ [.dead, .lst [], .lst [], .lst (List.replicate n (rowD []))])
theorem TurnSt.start {TP : Addr} {q : Str} {dk tk : Nat} {m : Store} {p : Int} {n : Nat} (hd : m[dk]? = some .dice) (ht : m[tk]? = some (.tab TP q)) (hp : 1 ≤ p ∧ p ≤ 4) (hn : n = 1 ∨ n = 2) :
    TurnSt TP q m dk tk (m.length + 2 + n) (startC p m.length n) (startM m n) := by
  have good := goodS0 hp hn (b := m.length + 2)
  have ap : ∀ {j : Nat} {l : List Cell} {c : Cell}, m[j]? = some c → (m ++ l)[j]? = some c := fun e => Grow.app _ _ _ _ e
  have hlow : ∀ j, j < m.length → (startM m n)[j]? = m[j]? := fun j hj => List.getElem?_append_left hj
  rcases hn with rfl | rfl
  · refine ⟨ap hd, ap ht, ⟨⟨?_, ?_, ?_⟩, case_bk good⟩, ?_, ?_, (fun x hx => by cases hx), fun x hx => ?_, ?_, fun r hr => ?_, ?_, good, ?_, fun r hr => ?_, hlow⟩
    · exact app_at (i := 4)
    · exact app_at (i := 5)
    · exact app_at (i := 6)
    · exact app_at (i := 0)
    · exact app_at (i := 1)
    · have hx : x ∈ [(([] : List Ent), m.length + 2 + 0)] := hx
      rw [List.mem_singleton.mp hx]
      exact app_at (i := 2)
    · unfold Away startC
      dsimp only
      omega
    · have hr : r ∈ [m.length + 2 + 0] := hr
      rw [List.mem_singleton.mp hr]
      unfold Away startC
      dsimp only
      omega
    · show [m.length + 2 + 0].Nodup
      simp
    · unfold startC
      dsimp only
      omega
    · have hr : r ∈ [m.length + 2 + 0] := hr
      rw [List.mem_singleton.mp hr]
      omega
  · refine ⟨ap hd, ap ht, ⟨⟨?_, ?_, ?_⟩, case_bk good⟩, ?_, ?_, (fun x hx => by cases hx), fun x hx => ?_, ?_, fun r hr => ?_, ?_, good, ?_, fun r hr => ?_, hlow⟩
    · exact app_at (i := 5)
    · exact app_at (i := 6)
    · exact app_at (i := 7)
    · exact app_at (i := 0)
    · exact app_at (i := 1)
    · have hx : x ∈ [(([] : List Ent), m.length + 2 + 0), (([] : List Ent), m.length + 2 + 1)] := hx
      rcases List.mem_cons.mp hx with rfl | hx
      · exact app_at (i := 2)
      · rw [List.mem_singleton.mp hx]
        exact app_at (i := 3)
    · unfold Away startC
      dsimp only
      omega
    · have hr : r ∈ [m.length + 2 + 0, m.length + 2 + 1] := hr
      rcases List.mem_cons.mp hr with rfl | hr
      · unfold Away startC
        dsimp only
        omega
      · rw [List.mem_singleton.mp hr]
        unfold Away startC
        dsimp only
        omega
    · show [m.length + 2 + 0, m.length + 2 + 1].Nodup
      simp
    · unfold startC
      dsimp only
      omega
    · have hr : r ∈ [m.length + 2 + 0, m.length + 2 + 1] := hr
      rcases List.mem_cons.mp hr with rfl | hr
      · omega
      · rw [List.mem_singleton.mp hr]
        omega
theorem entD_subs {l : List (Nat × List D)} (e : Ent) : subsD l (entD e) = entD e := by
  obtain ⟨w, a, b⟩ := e
  show subsD l (.tup [whatD w, .int a, .int b]) = _
  rw [subsD_tup]
  show D.tup [subsD l (whatD w), subsD l (.int a), subsD l (.int b)] = _
  rw [subsD_int, subsD_int]
  cases w with
  | none => rw [show subsD l (whatD none) = .non from subsD_non]; rfl
  | some i => rw [show subsD l (whatD (some i)) = .int i from subsD_int]; rfl
def rowsL (C : Cs) : List (Nat × List D) := (C.ks.map fun x => (x.2, x.1.row.map entD)) ++ C.dr.map fun x => (x.2, x.1.map entD)
def endL (C : Cs) : List (Nat × List D) := (C.kk, C.ks.map keyM) :: (C.kd, C.dr.map fun x => .hd x.2) :: rowsL C
theorem rowsL_keys {C : Cs} : (rowsL C).map (·.1) = C.rows := by
  unfold rowsL Cs.rows
  rw [List.map_append, List.map_map, List.map_map]
  rfl
section
variable {TP : Addr} {q : Str} {m0 m : Store} {dk tk bk : Nat} {C : Cs}
theorem TurnSt.endN (h : TurnSt TP q m0 dk tk bk C m) : ((endL C).map (·.1)).Nodup := by
  show (C.kk :: C.kd :: (rowsL C).map (·.1)).Nodup
  rw [rowsL_keys, List.nodup_cons, List.nodup_cons]
  refine ⟨fun hm => ?_, fun hm => (h.ar _ hm).2.2 rfl, h.nd⟩
  rcases List.mem_cons.mp hm with e | hm
  · exact h.ak.2.2 e
  · exact (h.ar _ hm).2.1 rfl
theorem TurnSt.endC (h : TurnSt TP q m0 dk tk bk C m) : ∀ x ∈ endL C, m[x.1]? = some (.lst x.2) := fun x hx => by
  rcases List.mem_cons.mp hx with rfl | hx
  · exact h.k
  · rcases List.mem_cons.mp hx with rfl | hx
    · exact h.d
    · rcases List.mem_append.mp hx with hx | hx
      · obtain ⟨y, hy, rfl⟩ := List.mem_map.mp hx
        exact h.kr y hy
      · obtain ⟨y, hy, rfl⟩ := List.mem_map.mp hx
        exact h.dr y hy
theorem row_fix {r : List Ent} : ∀ y ∈ r.map entD, ∀ l, subsD l y = y := fun y hy l => by
  obtain ⟨e, _, rfl⟩ := List.mem_map.mp hy
  exact entD_subs e
theorem TurnSt.endD (h : TurnSt TP q m0 dk tk bk C m) : subsD (endL C) C.d = caseD C.p (C.ks.map (·.1)) (C.dr.map (·.1)) := by
  have n := h.endN
  have n2 := (List.nodup_cons.mp n).2
  have n3 := (List.nodup_cons.mp n2).2
  unfold Cs.d caseD
  rw [subsD_tup]
  show D.tup [subsD (endL C) (.int C.p), subsD (endL C) (.hd C.kk), subsD (endL C) (.hd C.kd)] = _
  have e1 : subsD (endL C) (.hd C.kk) = .lst ((C.ks.map (·.1)).map keyD) := by
    show subsD ((C.kd, C.dr.map fun x => .hd x.2) :: rowsL C) (D.sub C.kk (C.ks.map keyM) (.hd C.kk)) = _
    rw [sub_hdS, subsD_lst, List.map_map, List.map_map]
    congr 1
    refine List.map_congr_left fun x hx => ?_
    show subsD ((C.kd, C.dr.map fun x => .hd x.2) :: rowsL C) (.tup [.tup (x.1.opens.map .int), .bl x.1.plain, .hd x.2]) = _
    rw [subsD_tup]
    show D.tup [subsD _ (.tup (x.1.opens.map .int)), subsD _ (.bl x.1.plain), subsD _ (.hd x.2)] = D.tup [.tup (x.1.opens.map .int), .bl x.1.plain, .lst (x.1.row.map entD)]
    rw [subsD_tup, subsD_bl, List.map_map, show subsD ((C.kd, C.dr.map fun x => D.hd x.2) :: rowsL C) (.hd x.2) = .lst (x.1.row.map entD) from subsD_hd row_fix (List.mem_cons_of_mem _ (List.mem_append_left _ (List.mem_map.mpr ⟨x, hx, rfl⟩))) n2]
    rw [show x.1.opens.map (subsD ((C.kd, C.dr.map fun x => D.hd x.2) :: rowsL C) ∘ D.int) = x.1.opens.map D.int from List.map_congr_left fun i _ => subsD_int]
  have e2 : subsD (endL C) (.hd C.kd) = .lst ((C.dr.map (·.1)).map rowD) := by
    show subsD (rowsL C) (D.sub C.kd (C.dr.map fun x => .hd x.2) (D.sub C.kk (C.ks.map keyM) (.hd C.kd))) = _
    rw [sub_hd fun e => h.ak.2.2 e.symm, sub_hdS, subsD_lst, List.map_map, List.map_map]
    congr 1
    refine List.map_congr_left fun x hx => ?_
    exact subsD_hd row_fix (List.mem_append_right _ (List.mem_map.mpr ⟨x, hx, rfl⟩)) n3
  rw [subsD_int, e1, e2]
theorem TurnSt.endM (h : TurnSt TP q m0 dk tk bk C m) : deads (endL C) m = m0 ++ (deads (endL C) m).drop m0.length := by
  have hl := h.low
  have hlen : m0.length ≤ m.length := Nat.le_of_lt (Nat.lt_of_le_of_lt hl.2.1 (List.getElem?_eq_some_iff.mp h.k).1)
  refine take_same (by rw [deads_len]; exact hlen) fun j hj => ?_
  rw [deads_get fun x hx => ?_]
  · exact h.kept j hj
  · rcases List.mem_cons.mp hx with rfl | hx
    · dsimp only
      omega
    · rcases List.mem_cons.mp hx with rfl | hx
      · dsimp only
        omega
      · have := h.lor x.1 (rowsL_keys ▸ List.mem_map.mpr ⟨x, hx, rfl⟩)
        omega
end

/-! ### a story -/
def Fstory (TP : Addr) : FSp where
  ar := 2
  G := Nat × Nat × Int
  pre := fun g ds m => ds = [.hd g.1, .int g.2.2] ∧ m[g.1]? = some .dice ∧ m[g.2.1]? = some (.tab TP turnQ) ∧ 0 < g.2.2 ∧ g.2.2 ≤ 1000
  post := fun g m d m' => ∃ p ks dr, d = caseD p ks dr ∧ GoodS p ks dr ∧ m' = m
theorem ok_story (T : Tx K mg) (TB : LamX.TabB base mg T.co__law_turn T.tp__law_turn) : FnOk P w K mg base CX0 8 T.a__law_story T.f__law_story ["_law_d", "_law_most"] (spD K (Fstory T.tp__law_turn)) := by
  have G__law_next := ok_next (P := P) (w := w) (base := base) T
  have G__law_turn := ok_turn (P := P) (w := w) (base := base) T TB
  have G_Book_init := ok_init (P := P) (w := w) (base := base) T
  refine ok0 T.F__law_story sc__law_story rfl (fun _ _ _ _ _ h => h) (fun cdv A outer s H E hr => ⟨_, pss_cons (ps_par (i := 2) (j := 3) rfl sc__law_story.nd rfl rfl (by decide) rfl rfl (pa_cons (pe_op op_add (pe_int) (pe_call G__law_next (hr.mono (by first | decide | omega)) rfl T.g__law_next T.k__law_next T.b__law_next .nil pass0 (pa_cons (pv 0) (pa_cons (pe_int) (pa_nil))))) (pa_cons (pe_op op_add (pe_int) (pe_call G__law_next (hr.mono (by first | decide | omega)) rfl T.g__law_next T.k__law_next T.b__law_next .nil pass0 (pa_cons (pv 0) (pa_cons (pe_int) (pa_nil))))) (pa_nil))) (by rfl)) (pss_cons (ps_asg (pe_tup (pa_cons (pv 2) (pa_cons (pe_lst (pa_nil)) (pa_cons (pe_lc (own := [("_law_door", 5)]) rfl sc__law_story.nd (pi_range1 rfl T.n_range (pa_cons (pv 3) (pa_nil))) (blkOk_by (N := ["_law_d", "_law_most", "_law_persons", "_law_many", "_law_case", "_law_door", "_law_book", "_law_turn_here"]) (own := [("_law_door", 5)]) (sc := defScope s__law_story) (by decide +kernel)) (fun _ _ _ _ _ => pg_name (i := 5) sc__law_story.nd rfl (by first | exact Or.inl rfl | exact Or.inr rfl)) (fun _ _ _ _ _ => pts_nil) (fun _ _ _ _ _ => pe_lst (pa_nil))) (pa_nil))))) (pg_name (i := 4) sc__law_story.nd rfl (by first | exact Or.inl rfl | exact Or.inr rfl))) (pss_cons (ps_asg (pe_make T.mk_Book G_Book_init (hr.mono (by first | decide | omega)) rfl T.c_Book T.b_Book_init .nil pass0 (pa_cons (pv 2) (pa_cons (pv 3) (pa_nil)))) (pg_name (i := 6) sc__law_story.nd rfl (by first | exact Or.inl rfl | exact Or.inr rfl))) (pss_cons (ps_for PassesOwn.never rfl (pi_range1 rfl T.n_range (pa_cons (pe_op op_add (pe_int) (pe_call G__law_next (hr.mono (by first | decide | omega)) rfl T.g__law_next T.k__law_next T.b__law_next .nil pass0 (pa_cons (pv 0) (pa_cons (pv 1) (pa_nil))))) (pa_nil))) (pg_name (i := 7) sc__law_story.nd rfl (by first | exact Or.inl rfl | exact Or.inr rfl)) (pss_one (ps_expr (pe_call G__law_turn (hr.mono (by first | decide | omega)) rfl T.g__law_turn T.k__law_turn T.b__law_turn .nil pass0 (pa_cons (pv 0) (pa_cons (pv 6) (pa_cons (pv 4) (pa_nil)))))))) (pss_one (ps_ret (pv 4)))))), ?_⟩)
  rintro ⟨dk, tk, most⟩ ds m ⟨rfl, hdi, htb, q0, q1⟩ wf
  dsimp only at hdi htb q0 q1
  try dsimp only
  walk_at "go"
  refine calls_next hdi (by decide) (by decide) fun p p0 p1 => ?_
  walk_at "go"
  refine calls_next hdi (by decide) (by decide) fun z z0 z1 => ?_
  obtain ⟨n, hn, hz⟩ : ∃ n : Nat, (n = 1 ∨ n = 2) ∧ 1 + z = (n : Int) := ⟨(1 + z).toNat, by omega, by omega⟩
  walk_at "go"
  refine ⟨_, _, rfl, ?_⟩
  walk_at "go"
  refine we_lstM ?_
  walk_at "go"
  refine we_lc (wi_rng1 ?_)
  walk_at "go"
  rw [hz, Int.toNat_natCast]
  refine ⟨by omega, fun i acc m' => i ≤ n ∧ acc = (List.range i).map (fun a => D.hd (m.length + 2 + a)) ∧ m' = m ++ [.lst []] ++ [.lst acc] ++ List.replicate i (.lst []), ⟨Nat.zero_le _, rfl, by rw [List.replicate_zero, List.append_nil]⟩, ?_, ?_⟩
  · rintro i acc m' hi hm ⟨_, ea, em⟩
    refine wgo_name (by decide) ⟨hm, ?_⟩
    walk_at "go"
    refine ⟨hm, fun _ => ?_, fun h => nomatch h⟩
    walk_at "go"
    refine we_lstM ?_
    walk_at "go"
    have hml : m'.length = m.length + 2 + i := by
      rw [em, List.length_append, List.length_append, List.length_append, List.length_replicate]
      rfl
    refine ⟨Grow.app _ _ _ _ hm, by rw [ea, List.length_map, List.length_range]; omega, by omega, ?_, ?_⟩
    · rw [ea, hml, List.range_succ, List.map_append]
      rfl
    · rw [em]
      rw [show m ++ [Cell.lst []] ++ [Cell.lst acc] ++ List.replicate i (Cell.lst []) ++ [Cell.lst []] = (m ++ [Cell.lst []]) ++ (Cell.lst acc :: (List.replicate i (Cell.lst []) ++ [Cell.lst []])) by simp [List.append_assoc]]
      refine (app_set_at (i := 0)).trans ?_
      rw [List.replicate_succ']
      simp [List.append_assoc]
  · rintro acc m' hm ⟨_, ea, em⟩
    have hml : m'.length = m.length + 2 + n := by
      rw [em, List.length_append, List.length_append, List.length_append, List.length_replicate]
      rfl
    have hp : 1 ≤ 1 + p ∧ 1 + p ≤ 4 := by omega
    have hT0 := TurnSt.start (TP := T.tp__law_turn) (q := turnQ) hdi htb hp hn
    have eM : m' ++ [Cell.dead, .lst [], .lst [], .lst (List.replicate n (rowD []))] = startM m n := by
      rw [em, ea]
      unfold startM
      simp [List.append_assoc]
    walk_at "go"
    refine we_make ?_
    walk_at "go"
    refine ⟨rfl, (m', 1 + p, (n : Int)), ⟨rfl, hp.1, by dsimp only; omega, by dsimp only; omega, by dsimp only; omega, rfl⟩, fun d2 m2 ⟨ed, em2⟩ => ⟨ed, bkNames, [.int (1 + p), .hd (m'.length + 1), .hd (m'.length + 2), .hd (m'.length + 3)], ?_, ?_⟩, fun _ _ _ h => h.elim⟩
    · rw [em2]
      exact app_get
    rw [em2, app_set]
    dsimp only
    rw [Int.toNat_natCast, eM, hml, show (m ++ [Cell.lst []]).length = m.length + 1 by simp]
    walk_at "go"
    refine ws_forN ?_
    walk_at "go"
    refine calls_next (hT0.dice) q0 (by omega) fun k k0 k1 => ?_
    obtain ⟨k, rfl⟩ : ∃ j : Nat, k = (j : Int) := ⟨k.toNat, by omega⟩
    walk_at "go"
    refine ⟨fun i ρ' m' => ∃ (C' : Cs) (a b : Option D), C'.p = 1 + p ∧ C'.kk = m.length ∧ C'.kd = m.length + 1 ∧ TurnSt T.tp__law_turn turnQ m dk tk (m.length + 2 + n) C' m' ∧ ρ' = [some (.hd dk), some (.int most), some (.int (1 + p)), some (.int n), some (.tup [.int (1 + p), .hd m.length, .hd (m.length + 1)]), a, some (bookD T.C_Book (1 + p) (m.length + 2 + n)), b], ⟨startC (1 + p) m.length n, none, none, rfl, rfl, rfl, hT0, rfl⟩, ?_, ?_⟩
    · rintro i ρ' m3 hi ⟨⟨p', kk', kd', ks', dr'⟩, a, b, e1, e2, e3, hT, rfl⟩
      dsimp only at e1 e2 e3
      subst e1
      subst e2
      subst e3
      walk_at "go"
      refine ⟨rfl, (m, dk, tk, m.length + 2 + n, ⟨_, _, _, ks', dr'⟩), ⟨rfl, hT⟩, fun d m4 ⟨ed, hlen, C', e1, e2, e3, e4, hT'⟩ => ?_, fun _ _ _ h => h.elim⟩
      walk_at "go"
      exact ⟨C', a, _, e1, e2, e3, hT', rfl⟩
    · rintro ρ' m3 ⟨⟨p', kk', kd', ks', dr'⟩, a, b, e1, e2, e3, hT, rfl⟩
      dsimp only at e1 e2 e3
      subst e1
      subst e2
      subst e3
      refine ws_ret (we_subs (we_var rfl ⟨endL _, subs_intro hT.endN hT.endC ?_⟩))
      have eD := hT.endD
      have eM := hT.endM
      unfold Cs.d at eD
      dsimp only at eD
      rw [eD, eM]
      refine fin_trim wf ?_ ⟨_, _, _, rfl, hT.good, rfl⟩
      show (true && (hbA _ (List.map keyD _) && (hbA _ (List.map rowD _) && true))) = true
      rw [keys_hb, rows_hb]
      rfl

/-! ### the book of a case, written -/
def Fwritten (C : Addr) : FSp where
  ar := 1
  G := Int × List KeyS × List (List Ent)
  pre := fun g ds _ => ds = [caseD g.1 g.2.1 g.2.2] ∧ CaseOk g.1 g.2.1 g.2.2
  post := fun g m d m' => d = bookD C g.1 m.length ∧ m' = withBk m (bookOf g.1 g.2.1 g.2.2)
theorem ok_written (T : Tx K mg) : FnOk P w K mg base CX0 5 T.a__law_written T.f__law_written ["_law_case"] (spD K (Fwritten T.C_Book)) := by
  have G_Book_init := ok_init (P := P) (w := w) (base := base) T
  have G_Book_cut := ok_cut (P := P) (w := w) (base := base) T
  have G_Book_hand := ok_hand (P := P) (w := w) (base := base) T
  have G_Book_fit := ok_fit (P := P) (w := w) (base := base) T
  refine ok0 T.F__law_written sc__law_written rfl (fun _ _ _ _ _ h => h) (fun cdv A outer s H E hr => ⟨_, pss_cons (ps_asg (pv 0) (pg_tupK (K := K) (n := 3) (pg_tup (n := 3) rfl (pgs_cons (pg_name (i := 1) sc__law_written.nd rfl (by first | exact Or.inl rfl | exact Or.inr rfl)) (pgs_cons (pg_name (i := 2) sc__law_written.nd rfl (by first | exact Or.inl rfl | exact Or.inr rfl)) (pgs_cons (pg_name (i := 3) sc__law_written.nd rfl (by first | exact Or.inl rfl | exact Or.inr rfl)) (pgs_nil))))))) (pss_cons (ps_asg (pe_make T.mk_Book G_Book_init (hr.mono (by first | decide | omega)) rfl T.c_Book T.b_Book_init .nil pass0 (pa_cons (pv 1) (pa_cons (pe_callB (call_lenK (K := K)) (by rfl) T.n_len (by decide +kernel) (pa_cons (pv 3) (pa_nil))) (pa_nil)))) (pg_name (i := 4) sc__law_written.nd rfl (by first | exact Or.inl rfl | exact Or.inr rfl))) (pss_cons (ps_for PassesOwn.never rfl (pi_listK (K := K) (pi_list (pv 2))) (pg_tupK (K := K) (n := 3) (pg_tup (n := 3) rfl (pgs_cons (pg_name (i := 5) sc__law_written.nd rfl (by first | exact Or.inl rfl | exact Or.inr rfl)) (pgs_cons (pg_name (i := 6) sc__law_written.nd rfl (by first | exact Or.inl rfl | exact Or.inr rfl)) (pgs_cons (pg_name (i := 7) sc__law_written.nd rfl (by first | exact Or.inl rfl | exact Or.inr rfl)) (pgs_nil)))))) (pss_cons (ps_asg (pe_meth (pv 4) T.cl_Book T.m_Book_cut G_Book_cut (hr.mono (by first | decide | omega)) T.b_Book_cut .nil pass0 (pa_cons (pv 5) (pa_cons (pv 6) (pa_nil)))) (pg_name (i := 8) sc__law_written.nd rfl (by first | exact Or.inl rfl | exact Or.inr rfl))) (pss_one (ps_for PassesOwn.never rfl (pi_range1 rfl T.n_range (pa_cons (pe_callB (call_lenK (K := K)) (by rfl) T.n_len (by decide +kernel) (pa_cons (pv 7) (pa_nil))) (pa_nil))) (pg_name (i := 9) sc__law_written.nd rfl (by first | exact Or.inl rfl | exact Or.inr rfl)) (pss_one (ps_expr (pe_meth (pv 4) T.cl_Book T.m_Book_hand G_Book_hand (hr.mono (by first | decide | omega)) T.b_Book_hand .nil pass0 (pa_cons (pv 8) (pa_cons (pv 9) (pa_cons (pe_ix (ix_seqK (K := K)) (pe_ix (ix_seqK (K := K)) (pv 7) (pv 9) (fun _ _ => rfl)) (pe_int) (fun _ _ => rfl)) (pa_cons (pe_ix (ix_seqK (K := K)) (pe_ix (ix_seqK (K := K)) (pv 7) (pv 9) (fun _ _ => rfl)) (pe_int) (fun _ _ => rfl)) (pa_cons (pe_ix (ix_seqK (K := K)) (pe_ix (ix_seqK (K := K)) (pv 7) (pv 9) (fun _ _ => rfl)) (pe_int) (fun _ _ => rfl)) (pa_nil))))))))))))) (pss_cons (ps_for PassesOwn.never rfl (pi_range1 rfl T.n_range (pa_cons (pe_callB (call_lenK (K := K)) (by rfl) T.n_len (by decide +kernel) (pa_cons (pv 3) (pa_nil))) (pa_nil))) (pg_name (i := 10) sc__law_written.nd rfl (by first | exact Or.inl rfl | exact Or.inr rfl)) (pss_one (ps_for PassesOwn.never rfl (pi_range1 rfl T.n_range (pa_cons (pe_callB (call_lenK (K := K)) (by rfl) T.n_len (by decide +kernel) (pa_cons (pe_ix (ix_seqK (K := K)) (pv 3) (pv 10) (fun _ _ => rfl)) (pa_nil))) (pa_nil))) (pg_name (i := 9) sc__law_written.nd rfl (by first | exact Or.inl rfl | exact Or.inr rfl)) (pss_cons (ps_asg (pe_ix (ix_seqK (K := K)) (pe_ix (ix_seqK (K := K)) (pv 3) (pv 10) (fun _ _ => rfl)) (pv 9) (fun _ _ => rfl)) (pg_name (i := 11) sc__law_written.nd rfl (by first | exact Or.inl rfl | exact Or.inr rfl))) (pss_one (ps_expr (pe_meth (pv 4) T.cl_Book T.m_Book_fit G_Book_fit (hr.mono (by first | decide | omega)) T.b_Book_fit .nil pass0 (pa_cons (pv 10) (pa_cons (pv 9) (pa_cons (pe_ix (ix_seqK (K := K)) (pv 11) (pe_int) (fun _ _ => rfl)) (pa_cons (pe_ix (ix_seqK (K := K)) (pv 11) (pe_int) (fun _ _ => rfl)) (pa_cons (pe_ix (ix_seqK (K := K)) (pv 11) (pe_int) (fun _ _ => rfl)) (pa_nil))))))))))))) (pss_one (ps_ret (pv 4)))))), ?_⟩)
  rintro ⟨p, ks, dr⟩ ds m ⟨rfl, hC⟩ wf
  dsimp only at hC
  try dsimp only
  have hp := hC.p0
  have hkl := hC.kl
  have hd0 := hC.d0
  walk_at "go"
  refine wg_tup rfl ?_
  walk_at "go"
  refine we_make ?_
  walk_at "go"
  refine ⟨rfl, (m, p, (dr.length : Int)), ⟨by rw [List.length_map], hp.1, hp.2, by dsimp only; omega, by dsimp only; omega, rfl⟩, fun d2 m2 ⟨ed, em⟩ => ⟨ed, bkNames, [.int p, .hd (m.length + 1), .hd (m.length + 2), .hd (m.length + 3)], ?_, ?_⟩, fun _ _ _ h => h.elim⟩
  · rw [em]
    exact app_get
  rw [em, app_set, Int.toNat_natCast]
  have e0 : m ++ [Cell.dead, .lst [], .lst [], .lst (List.replicate dr.length (rowD []))] = withBk m ⟨p, [], [], List.replicate dr.length []⟩ := by
    unfold withBk
    rw [List.map_replicate]
    rfl
  dsimp only
  rw [e0]
  walk_at "go"
  refine ws_forL (f := keyD) ?_
  walk_at "go"
  have cutOf : ∀ k : KeyS, cutD (k.opens, k.plain) = .tup [.tup (k.opens.map .int), .bl k.plain] := fun _ => rfl
  refine ⟨fun pre ρ' m' => ∃ a b c d e f g, ρ' = [some (caseD p ks dr), some (.int p), some (.lst (ks.map keyD)), some (.lst (dr.map rowD)), some (bookD T.C_Book p m.length), a, b, c, d, e, f, g] ∧ m' = withBk m ⟨p, pre.map fun k => (k.opens, k.plain), pre.map (·.row), List.replicate dr.length []⟩, ⟨none, none, none, none, none, none, none, rfl, rfl⟩, ?_, ?_⟩
  · rintro pre key post ρ' m' eks ⟨a, b, c, d, e, f, g, rfl, rfl⟩
    have hkey := hC.key key (by rw [eks]; simp)
    have hpl : pre.length < 6 := by
      have := congrArg List.length eks
      rw [List.length_append, List.length_cons] at this
      omega
    have hpre : ∀ k ∈ pre, GoodRow (IsPerson p) 8 999 k.row := fun k hk => (hC.key k (by rw [eks]; exact List.mem_append_left _ hk)).2
    have ok1 : ∀ (cs : List (List Int × Bool)) (r : List (List Ent)), cs.length = (pre.map (·.row) ++ r).length → r.length ≤ 1 → (∀ x ∈ r, x.length ≤ 8) → BkOk ⟨p, cs, pre.map (·.row) ++ r, List.replicate dr.length []⟩ := fun cs r h1 h2 h3 =>
      bkOk_of ⟨by omega, hp.2⟩ h1 (by rw [List.length_append, List.length_map]; omega) (by rw [List.length_replicate]; exact hd0.2)
        (fun x hx => by
          rcases List.mem_append.mp hx with hx | hx
          · obtain ⟨k, hk, rfl⟩ := List.mem_map.mp hx
            exact (hpre k hk).len
          · exact h3 x hx)
        (fun x hx => by rw [(List.mem_replicate.mp hx).2]; exact Nat.zero_le _)
    have ok0' : BkOk ⟨p, pre.map fun k => (k.opens, k.plain), pre.map (·.row), List.replicate dr.length []⟩ := by
      have := ok1 (pre.map fun k => (k.opens, k.plain)) [] (by simp) (by simp) (fun x hx => by cases hx)
      rw [List.append_nil] at this
      exact this
    refine wg_tup rfl ?_
    walk_at "go"
    refine we_meth ?_
    walk_at "go"
    refine ⟨_, _, rfl, by decide, ?_⟩
    walk_at "go"
    refine ⟨rfl, (⟨m.length, _, 0, (none, 0, 0), 0, 0⟩, key.opens, key.plain), ⟨rfl, pre_with ok0', by dsimp only; rw [List.length_map]; exact hpl, hkey.1.1, hkey.1.2⟩, fun d2 m2 ⟨ed, em⟩ => ?_, fun _ _ _ h => h.elim⟩
    dsimp only at ed em
    rw [put_with] at em
    rw [ed, em, List.length_map]
    walk_at "go"
    refine ws_forN ?_
    walk_at "go"
    rw [List.length_map]
    have hkl8 := hkey.2.len
    refine ⟨by omega, fun i ρ' m' => ∃ e f g, ρ' = [some (caseD p ks dr), some (.int p), some (.lst (ks.map keyD)), some (.lst (dr.map rowD)), some (bookD T.C_Book p m.length), some (.tup (key.opens.map .int)), some (.bl key.plain), some (rowD key.row), some (.int (pre.length : Int)), e, f, g] ∧ m' = withBk m ⟨p, pre.map (fun k => (k.opens, k.plain)) ++ [(key.opens, key.plain)], pre.map (·.row) ++ [key.row.take i], List.replicate dr.length []⟩, ⟨e, f, g, rfl, rfl⟩, ?_, ?_⟩
    · rintro i ρ' m' hi ⟨e', f', g', rfl, rfl⟩
      obtain ⟨ent, pt, h1, h2, h3⟩ := take_step hi
      have hent := hkey.2.ent ent (List.mem_of_getElem? h3)
      have htl : (key.row.take i).length = i := by rw [List.length_take]; omega
      have hok := ok1 (pre.map (fun k => (k.opens, k.plain)) ++ [(key.opens, key.plain)]) [key.row.take i] (by simp) (by simp) (fun x hx => by rw [List.mem_singleton.mp hx]; omega)
      have hii : pre.length < (pre.map (·.row) ++ [key.row.take i]).length := by simp
      have hra : rowAt (pre.map (·.row) ++ [key.row.take i]) pre.length = key.row.take i := by
        have := rowAt_mid (pre.map (·.row)) [] (key.row.take i)
        rw [List.length_map] at this
        exact this
      have hat : ∀ (x : Int), x = (i : Int) → atI (key.row.map entD) x = some (entD ent) := fun x e => by
        subst e
        exact atI_nat (by rw [List.getElem?_map, h3]; rfl)
      walk_at "go"
      refine we_meth ?_
      walk_at "go"
      refine ⟨_, _, rfl, by decide, ?_⟩
      walk_at "go"
      refine wr_ix (d := entD ent) rfl (hat _ rfl) ?_
      walk_at "go"
      refine wr_ix (d := entD ent) rfl (hat _ rfl) ?_
      walk_at "go"
      refine wr_ix (d := entD ent) rfl (hat _ rfl) ?_
      walk_at "go"
      refine ⟨rfl, ⟨m.length, _, pre.length, ent, i, 0⟩, ⟨rfl, pre_with hok, hii, by dsimp only; rw [hra, htl]; exact Nat.le_refl _, by dsimp only; rw [hra, htl]; omega, hent.1, ⟨hent.2.1, hent.2.2.2, hent.2.2.1⟩, ?_⟩, fun d2 m2 ⟨ed, em⟩ => ?_, fun _ _ _ h => h.elim⟩
      · dsimp only
        rw [hra]
        have e9 := putIn_end (key.row.take i) ent
        rw [htl] at e9
        rw [e9]
        have hfit := hkey.2.fit
        rw [h1] at hfit
        exact fits_prefix (b := pt) (by rw [List.append_assoc]; exact hfit)
      · dsimp only at ed em
        have e9 := putIn_end (key.row.take i) ent
        rw [htl] at e9
        rw [put_with, hra, e9] at em
        have es := set_mid (pre.map (·.row)) [] (key.row.take i) (key.row.take i ++ [ent])
        rw [List.length_map] at es
        rw [es, ← h2] at em
        exact ⟨_, f', g', rfl, em⟩
    · rintro ρ' m' ⟨e', f', g', rfl, rfl⟩
      exact ⟨_, _, _, _, _, _, _, rfl, by rw [List.map_append, List.map_append, List.take_length]; rfl⟩
  · rintro ρ' m' ⟨a, b, c, d, e, f, g, rfl, rfl⟩
    walk_at "go"
    refine ws_forN ?_
    walk_at "go"
    rw [List.length_map]
    have okd : ∀ (d : List (List Ent)), d.length ≤ 4 → (∀ x ∈ d, x.length ≤ 8) → BkOk ⟨p, ks.map fun k => (k.opens, k.plain), ks.map (·.row), d⟩ := fun d h1 h2 =>
      bkOk_of ⟨by omega, hp.2⟩ (by simp) (by rw [List.length_map]; exact hkl) h1
        (fun x hx => by
          obtain ⟨k, hk, rfl⟩ := List.mem_map.mp hx
          exact (hC.key k hk).2.len) h2
    refine ⟨by omega, fun i ρ' m' => ∃ a b c d e f g, ρ' = [some (caseD p ks dr), some (.int p), some (.lst (ks.map keyD)), some (.lst (dr.map rowD)), some (bookD T.C_Book p m.length), a, b, c, d, e, f, g] ∧ m' = withBk m ⟨p, ks.map fun k => (k.opens, k.plain), ks.map (·.row), dr.take i ++ List.replicate (dr.length - i) []⟩, ⟨a, b, c, d, e, f, g, rfl, rfl⟩, ?_, ?_⟩
    · rintro j ρ' m' hj ⟨a, b, c, d, e, f, g, rfl, rfl⟩
      obtain ⟨row, pst, h1, h2, h3⟩ := take_step hj
      have hrow := hC.door row (List.mem_of_getElem? h3)
      have htl : (dr.take j).length = j := by rw [List.length_take]; omega
      have hrep : List.replicate (dr.length - j) ([] : List Ent) = [] :: List.replicate (dr.length - (j + 1)) [] := by
        rw [show dr.length - j = (dr.length - (j + 1)) + 1 by omega, List.replicate_succ]
      have hrl8 := hrow.len
      walk_at "go"
      refine ws_forN ?_
      walk_at "go"
      refine wr_ix (d := rowD row) rfl (at_nat (by rw [List.getElem?_map, h3]; rfl)) ?_
      walk_at "go"
      rw [List.length_map]
      refine ⟨by omega, fun i ρ' m' => ∃ a b c d e g, ρ' = [some (caseD p ks dr), some (.int p), some (.lst (ks.map keyD)), some (.lst (dr.map rowD)), some (bookD T.C_Book p m.length), a, b, c, d, e, some (.int (j : Int)), g] ∧ m' = withBk m ⟨p, ks.map (fun k => (k.opens, k.plain)), ks.map (·.row), dr.take j ++ row.take i :: List.replicate (dr.length - (j + 1)) []⟩, ⟨a, b, c, d, e, g, rfl, by rw [hrep]; rfl⟩, ?_, ?_⟩
      · rintro i ρ' m' hi ⟨a, b, c, d, e, g, rfl, rfl⟩
        obtain ⟨ent, pt, k1, k2, k3⟩ := take_step hi
        have hent := hrow.ent ent (List.mem_of_getElem? k3)
        have hti : (row.take i).length = i := by rw [List.length_take]; omega
        have hok := okd (dr.take j ++ row.take i :: List.replicate (dr.length - (j + 1)) []) (by rw [List.length_append, List.length_cons, List.length_replicate, htl]; omega) (fun x hx => by
          rcases List.mem_append.mp hx with hx | hx
          · exact (hC.door x (List.mem_of_mem_take hx)).len
          · rcases List.mem_cons.mp hx with rfl | hx
            · omega
            · rw [(List.mem_replicate.mp hx).2]
              exact Nat.zero_le _)
        have hii : j < (dr.take j ++ row.take i :: List.replicate (dr.length - (j + 1)) []).length := by
          rw [List.length_append, List.length_cons, htl]
          omega
        have hra : rowAt (dr.take j ++ row.take i :: List.replicate (dr.length - (j + 1)) []) j = row.take i := by
          have := rowAt_mid (dr.take j) (List.replicate (dr.length - (j + 1)) []) (row.take i)
          rw [htl] at this
          exact this
        walk_at "go"
        refine wr_ix (d := rowD row) rfl (at_nat (by rw [List.getElem?_map, h3]; rfl)) ?_
        walk_at "go"
        refine wr_ix (d := entD ent) rfl (atI_nat (by rw [List.getElem?_map, k3]; rfl)) ?_
        walk_at "go"
        refine we_meth ?_
        walk_at "go"
        refine ⟨_, _, rfl, by decide, ?_⟩
        walk_at "go"
        refine ⟨rfl, ⟨m.length, _, j, ent, i, 0⟩, ⟨rfl, pre_with hok, hii, by dsimp only; rw [hra, hti]; exact Nat.le_refl _, by dsimp only; rw [hra, hti]; omega, hent.1, ⟨hent.2.1, hent.2.2.2, hent.2.2.1⟩, ?_⟩, fun d2 m2 ⟨ed, em⟩ => ?_, fun _ _ _ h => h.elim⟩
        · dsimp only
          rw [hra]
          have e9 := putIn_end (row.take i) ent
          rw [hti] at e9
          rw [e9]
          have hfit := hrow.fit
          rw [k1] at hfit
          exact fits_prefix (b := pt) (by rw [List.append_assoc]; exact hfit)
        · dsimp only at ed em
          have e9 := putIn_end (row.take i) ent
          rw [hti] at e9
          rw [put_with, hra, e9] at em
          have es := set_mid (dr.take j) (List.replicate (dr.length - (j + 1)) []) (row.take i) (row.take i ++ [ent])
          rw [htl] at es
          rw [es, ← k2] at em
          exact ⟨a, b, c, d, _, _, rfl, em⟩
      · rintro ρ' m' ⟨a, b, c, d, e, g, rfl, rfl⟩
        exact ⟨_, _, _, _, _, _, _, rfl, by rw [h2, List.append_assoc, List.take_length]; rfl⟩
    · rintro ρ' m' ⟨a, b, c, d, e, f, g, rfl, rfl⟩
      walk_at "go"
      rw [List.take_length, Nat.sub_self, List.replicate_zero, List.append_nil]
      refine fin_as (by rw [with_len]; omega) ?_ ?_ ⟨rfl, rfl⟩
      · intro c hc
        rw [with_len]
        unfold withBk at hc
        rcases List.mem_append.mp hc with h | h
        · exact hbC_mono (wf c h) (by omega)
        · simp only [List.mem_cons, List.not_mem_nil, or_false] at h
          rcases h with rfl | rfl | rfl | rfl
          · rfl
          · exact cuts_hb _ _
          · exact rows_hb _ _
          · exact rows_hb _ _
      · rw [with_len]
        exact book_hb (by omega)

/-! ### what all persons could, door by door -/
def wordsD (p : Int) (dr : List (List Ent)) (t : Int) (B : Bk) : D := .lst ((List.range dr.length).map fun j => .lst ((List.range p.toNat).map fun (i : Nat) => .str (couldW (rowAt dr j) (i : Int) t B.ks)))
structure AskW where
  k : Nat
  B : Bk
  p : Int
  ks : List KeyS
  dr : List (List Ent)
  t : Int
def Fwords (C : Addr) : FSp where
  ar := 3
  G := AskW
  pre := fun g ds m => ds = [bookD C g.p g.k, caseD g.p g.ks g.dr, .int g.t] ∧ HasBk m g.k g.B ∧ g.B.persons = g.p ∧ g.B.doors = g.dr ∧ (1 ≤ g.p ∧ g.p ≤ 8) ∧ g.dr.length ≤ 4 ∧ (0 ≤ g.t ∧ g.t ≤ 999)
  post := fun g m d m' => d = wordsD g.p g.dr g.t g.B ∧ m' = m
theorem strs_hb {α : Type} {n : Nat} {l : List α} {f : α → Str} : hbA n (l.map fun a => D.str (f a)) = true := by
  rw [hbA_all]
  intro d hd
  obtain ⟨a, _, rfl⟩ := List.mem_map.mp hd
  rfl
theorem words_hb {n : Nat} {p : Int} {dr : List (List Ent)} {t : Int} {B : Bk} : (wordsD p dr t B).hb n = true := by
  show hbA n _ = true
  rw [hbA_all]
  intro d hd
  obtain ⟨a, _, rfl⟩ := List.mem_map.mp hd
  exact strs_hb
theorem filt_true {α : Type} (l : List α) : l.filter (fun _ => true) = l := List.filter_eq_self.mpr fun _ _ => rfl
theorem ok_words (T : Tx K mg) : FnOk P w K mg base CX0 8 T.a__law_words T.f__law_words ["_law_book", "_law_case", "_law_moment"] (spD K (Fwords T.C_Book)) := by
  have G_could := ok_could (P := P) (w := w) (base := base) T
  refine ok0 T.F__law_words sc__law_words rfl (fun _ _ _ _ _ h => h) (fun cdv A outer s H E hr => ⟨_, pss_one (ps_ret (pe_lc (own := [("_law_door", 4)]) rfl sc__law_words.nd (pi_range1 rfl T.n_range (pa_cons (pe_callB (call_lenK (K := K)) (by rfl) T.n_len (by decide +kernel) (pa_cons (pe_ix (ix_seqK (K := K)) (pv 1) (pe_int) (fun _ _ => rfl)) (pa_nil))) (pa_nil))) (blkOk_by (N := ["_law_book", "_law_case", "_law_moment", "_law_person", "_law_door"]) (own := [("_law_door", 4)]) (sc := defScope s__law_words) (by decide +kernel)) (fun _ _ _ _ _ => pg_name (i := 4) sc__law_words.nd rfl (by first | exact Or.inl rfl | exact Or.inr rfl)) (fun _ _ _ _ _ => pts_nil) (fun _ _ _ _ _ => pe_lc (own := [("_law_person", 3)]) rfl sc__law_words.nd (pi_range1 rfl T.n_range (pa_cons (pe_ix (ix_seqK (K := K)) (pv 1) (pe_int) (fun _ _ => rfl)) (pa_nil))) (blkOk_by (N := ["_law_book", "_law_case", "_law_moment", "_law_person", "_law_door"]) (own := [("_law_person", 3)]) (by kernel_rfl)) (fun _ _ _ _ _ => pg_name (i := 3) sc__law_words.nd rfl (by first | exact Or.inl rfl | exact Or.inr rfl)) (fun _ _ _ _ _ => pts_nil) (fun _ _ _ _ _ => pe_call G_could (hr.mono (by first | decide | omega)) rfl T.g_could T.k_could T.b_could .nil pass0 (pa_cons (pv 0) (pa_cons (pv 3) (pa_cons (pv 4) (pa_cons (pv 2) (pa_nil))))))))), ?_⟩)
  rintro ⟨k, ⟨bp, cs, kr, bd⟩, p, ks, dr, t⟩ ds m ⟨rfl, hB, ep, ed, hp, hd, ht⟩ wf
  dsimp only at hB ep ed hp hd ht
  subst ep
  subst ed
  try dsimp only
  refine ws_ret (we_lcR (by decide) ?_)
  walk_at "go"
  rw [List.length_map]
  refine ⟨bd.length, fun _ => true, fun j => .lst ((List.range bp.toNat).map fun (i : Nat) => .str (couldW (rowAt bd j) (i : Int) t (Bk.mk bp cs kr bd).ks)), rfl, by omega, fun a m' ha hg => ?_, fun a m' ha hg _ => ?_, ?_⟩
  · walk_at "go"
    exact ⟨rfl, rfl⟩
  · refine we_lcR (by decide) ?_
    walk_at "go"
    obtain ⟨pn, rfl⟩ : ∃ j : Nat, bp = (j : Int) := ⟨bp.toNat, by omega⟩
    refine ⟨pn, fun _ => true, fun (i : Nat) => .str (couldW (rowAt bd a) (i : Int) t (Bk.mk pn cs kr bd).ks), rfl, by omega, fun b m3 hb hg2 => ?_, fun b m3 hb hg2 _ => ?_, ?_⟩
    · walk_at "go"
      exact ⟨rfl, rfl⟩
    · walk_at "go"
      refine fn_could (B := Bk.mk pn cs kr bd) ((hB.grow hg).grow hg2) (by dsimp only; omega) ha ht ?_
      exact ⟨rfl, rfl, rfl⟩
    · rw [filt_true]
      exact ⟨rfl, rfl, strs_hb⟩
  · rw [filt_true]
    exact fin_same wf words_hb ⟨rfl, rfl⟩

/-! ### what laws with refusals share -/
theorem could_sure {f : List Ent} {who t : Int} {ks : List KeyW} : couldW f who t ks = ("surely" : Str) ↔ SureP f who t ks := by
  rw [← denied_sure]
  unfold couldW
  cases deniedF f who t ks with
  | none => exact ⟨fun _ => rfl, fun _ => rfl⟩
  | some b =>
    refine ⟨fun h => ?_, fun h => by cases h⟩
    cases hs : (shownG f who t 0 ks).isNone with
    | true =>
      rw [hs] at h
      exact absurd (show ("no" : Str) = "surely" from h) (by decide)
    | false =>
      rw [hs] at h
      exact absurd (show ("maybe" : Str) = "surely" from h) (by decide)
theorem could_lay {f : List Ent} {who t : Int} {ks : List KeyW} : PyData.canLay0 (.str (couldW f who t ks)) = true := by
  unfold couldW
  split
  · decide +kernel
  · split <;> decide +kernel
theorem in_str (x : Str) (l : List Str) : inV (.str x) (l.map V.str) = decide (x ∈ l) := by
  unfold inV
  rw [Bool.eq_iff_iff, List.any_eq_true, decide_eq_true_eq]
  constructor
  · rintro ⟨u, hu, e⟩
    obtain ⟨y, hy, rfl⟩ := List.mem_map.mp hu
    have e : (y == x) = true := e
    rw [← eq_of_beq e]
    exact hy
  · intro h
    refine ⟨_, List.mem_map.mpr ⟨x, h, rfl⟩, ?_⟩
    show (x == x) = true
    exact beq_self_eq_true x
noncomputable def leastOf (P : Int → Prop) : Option Int := Classical.epsilon (Least P)
def FlawT (TP : Addr) : FSp where
  ar := 1
  G := List Int
  pre := fun ns ds m => ds = [.scr ns] ∧ ns.length ≤ 63 ∧ m = [.tab TP turnQ]
  post := fun _ _ d _ => d = .bl true
theorem law_convT {TP : Addr} {vs : List V} {H : Hp} {Q : VK} {E : XK} (h : spLawT K TP vs H Q E) : spD K (FlawT TP) vs H Q E := by
  obtain ⟨a, ns, rfl, hS, hl, hP, q⟩ := h
  have hZ : ∀ b, b ≠ TP → (fun b => if b = TP then none else H b) b = H b := fun b hb => if_neg hb
  have hSZ : SqL K (fun b => if b = TP then none else H b) a (ns.map V.int) := by
    rcases hS with hS | hS
    · refine .inl ?_
      exact hS.imp (fun h => (hZ a fun e => by rw [e, hP] at h; cases h).trans h) fun ⟨o, h⟩ => ⟨o, (hZ a fun e => by rw [e, hP] at h; cases h).trans h⟩
    · exact .inr hS
  refine ⟨⟨fun b => if b = TP then none else H b, [TP]⟩, [.tab TP turnQ], [.scr ns], ns, .cons (.scr hSZ) .nil, ⟨fun b o e => ?_, rfl, by simp, fun k b c e1 e2 => ?_⟩, rfl, ⟨rfl, hl, rfl⟩, fun v d m' w' H' l r s p => ?_, fun _ _ _ _ _ _ _ _ _ h => h.elim⟩
  · have e : (if b = TP then none else H b) = some o := e
    by_cases hb : b = TP
    · rw [if_pos hb] at e
      cases e
    · rw [if_neg hb] at e
      exact e
  · have hk : k = 0 := by
      have := (List.getElem?_eq_some_iff.mp e2).1
      simpa using this
    subst hk
    cases e1
    cases e2
    exact ⟨rfl, if_pos rfl, #[], hP, ⟨trivial, fun pos cv h => by cases h⟩⟩
  · have p : d = .bl true := p
    subst p
    cases r
    exact q H'
theorem CaseOk.rows {p : Int} {ks : List KeyS} {dr : List (List Ent)} (hok : CaseOk p ks dr) : RowsOk (bookOf p ks dr) := ⟨fun r hr => by
    obtain ⟨k, hk, rfl⟩ := List.mem_map.mp hr
    exact (hok.key k hk).2.rk (Int.le_refl _), fun r hr => (hok.door r hr).rk (Int.le_refl _)⟩
theorem least_ex {P : Int → Prop} (h : ∀ t, P t → 0 ≤ t) : ∃ o, Least P o := by
  by_cases hx : ∃ t, P t
  · obtain ⟨t, ht⟩ := hx
    haveI : DecidablePred P := fun _ => Classical.propDecidable _
    obtain ⟨m, m0, _, hm, hn⟩ := int_least (P := P) (h t ht) ht
    exact ⟨some m, hm, fun s hs hp => hn s (h s hp) hs hp⟩
  · exact ⟨none, fun t ht => hx ⟨t, ht⟩⟩
section
variable {c : Ct} {m : Store} {P : PD}
theorem wr_words {q j : Nat} {dr : List (List Ent)} {t : Int} {B : Bk} (hj : j < dr.length) (p : P (.lst ((List.range q).map fun (i : Nat) => .str (couldW (rowAt dr j) (i : Int) t B.ks))) m) : WR c (rIx c.K) (wordsD (q : Int) dr t B) (.int (j : Int)) m P :=
  wr_ix rfl (at_nat (by rw [List.getElem?_map, List.getElem?_range hj]; rfl)) p
theorem wr_word {q i : Nat} {f : Nat → Str} (hi : i < q) (p : P (.str (f i)) m) : WR c (rIx c.K) (.lst ((List.range q).map fun (i : Nat) => .str (f i))) (.int (i : Int)) m P :=
  wr_ix rfl (at_nat (by rw [List.getElem?_map, List.getElem?_range hi]; rfl)) p
theorem strs_py {α : Type} {l : List α} {f : α → Str} (h : ∀ a ∈ l, PyData.canLay0 (.str (f a)) = true) : Py m 2 (.lst (l.map fun a => .str (f a))) (.list (l.map fun a => .str (f a))) := .lst (PyA.map fun a ha => .str 1 _ (h a ha))
theorem meth_locks {C : Addr} {k : Nat} {B : Bk} {i : Nat} {t : Int} (hB : HasBk m k B) (hi : i < B.doors.length) (ht : 0 ≤ t ∧ t ≤ 999) (hn : ¬ none ∈ toldF (rowAt B.doors i) t)
    (p : P (.hd m.length) (m ++ [.lst ((locksF (toldF (rowAt B.doors i) t)).map .int)])) : Calls c (Flocks C) [bookD C B.persons k, .int i, .int t] m P :=
  ⟨rfl, ⟨k, B, i, (none, 0, 0), 0, t⟩, ⟨rfl, hB.pre, hi, ht.1, ht.2, hn⟩, fun d m2 ⟨e1, e2⟩ => by rw [e1, e2]; exact p, fun _ _ _ h => h.elim⟩
end

theorem words_py {m : Store} {p : Int} {dr : List (List Ent)} {t : Int} {B : Bk} : ∃ e, Py m 3 (wordsD p dr t B) e := ⟨_, .lst (PyA.map (f := fun j => .lst ((List.range p.toNat).map fun (i : Nat) => .str (couldW (rowAt dr j) (i : Int) t B.ks))) (g := fun j => .list ((List.range p.toNat).map fun (i : Nat) => .str (couldW (rowAt dr j) (i : Int) t B.ks))) fun j _ => .lst (PyA.map fun i _ => .str 1 _ could_lay))⟩

/-! ### what a book tells, as plain data -/
theorem pair_sub (o : Option Int) (k : Nat) (xs : List D) : (D.tup [whatD o, .hd k]).sub k xs = .tup [whatD o, .lst xs] := by
  cases o <;> simp [D.sub, subA, whatD]
theorem key_row {p : Int} {ks : List KeyS} {dr : List (List Ent)} {n : Nat} (hn : n < ks.length) : rowAt (bookOf p ks dr).keys n = ks[n].row := by
  unfold rowAt bookOf
  dsimp only
  rw [List.getD_eq_getElem?_getD, List.getElem?_map, List.getElem?_eq_getElem hn]
  rfl
theorem hold_len {p : Int} {r : List Ent} {t : Int} (h : ∀ e ∈ r, IsPerson p e.1) : (holdF p (toldF r t)).2.length ≤ p.toNat := by
  rw [math3_key h]
  show ((KR.upTo p).filter _).length ≤ _
  refine Nat.le_trans (List.length_filter_le _ _) ?_
  rw [upTo_len]
  exact Nat.le_refl _
theorem hold_mem {p : Int} {r : List Ent} {t : Int} (h : ∀ e ∈ r, IsPerson p e.1) {x : Int} (hx : x ∈ (holdF p (toldF r t)).2) : 0 ≤ x ∧ x < p := by
  rw [math3_key h] at hx
  exact (every_mem.mp hx).1
theorem hold_sure {p : Int} {r : List Ent} {t : Int} (h : ∀ e ∈ r, IsPerson p e.1) {x : Int} (hx : (holdF p (toldF r t)).1 = some x) : 0 ≤ x ∧ x < p := by
  rw [math3_key h] at hx
  have hx : sure3 p (mayF r t) = some x := hx
  unfold sure3 at hx
  split at hx
  · split at hx
    · split at hx
      · rename_i h3
        rw [← Option.some.inj hx]
        exact (every_mem.mp h3).1
      · cases hx
    · cases hx
  · cases hx
section
variable {c : Ct} {m : Store} {P : PD} {C : Addr} {k : Nat} {B : Bk} {i : Nat} {t : Int}
theorem holders_data (wf : Wf m) (hB : HasBk m k B) (hi : i < B.keys.length) (ht : 0 ≤ t ∧ t ≤ 999)
    (p : P (.tup [whatD (holdF B.persons (toldF (rowAt B.keys i) t)).1, .lst ((holdF B.persons (toldF (rowAt B.keys i) t)).2.map .int)]) m) :
    Calls c (Fholders C) [bookD C B.persons k, .int i, .int t] m fun d m' => ∃ k xs, m'[k]? = some (.lst xs) ∧ Trm m.length P (d.sub k xs) (m'.set k .dead) :=
  ⟨rfl, ⟨k, B, i, (none, 0, 0), 0, t⟩, ⟨rfl, hB.pre, hi, ht⟩, fun d m2 ⟨e1, e2⟩ => by
    rw [e1, e2]
    refine ⟨_, _, app_get, ?_⟩
    rw [app_set, pair_sub]
    refine ⟨m, _, rfl, Nat.le_refl _, wf, ?_, p⟩
    show (D.hb _ _ && (hbA _ _ && true)) = true
    rw [whatD_hb, ints_hb]
    rfl, fun _ _ _ h => h.elim⟩
theorem locks_data (wf : Wf m) (hB : HasBk m k B) (hi : i < B.doors.length) (ht : 0 ≤ t ∧ t ≤ 999) (hn : ¬ none ∈ toldF (rowAt B.doors i) t)
    (p : P (.lst ((locksF (toldF (rowAt B.doors i) t)).map .int)) m) :
    Calls c (Flocks C) [bookD C B.persons k, .int i, .int t] m (Frz (Trm m.length P)) := by
  refine meth_locks hB hi ht hn (.inr ⟨_, _, rfl, app_get, ?_⟩)
  rw [app_set]
  exact ⟨m, _, rfl, Nat.le_refl _, wf, ints_hb _ _, p⟩
theorem two_sub {h1 h2 : Nat} (h : h1 ≠ h2) (A B : List Int) : ((D.tup [.hd h1, .hd h2]).sub h1 (A.map .int)).sub h2 (B.map .int) = .tup [.lst (A.map .int), .lst (B.map .int)] := by
  have hs : ∀ (k : Nat) (xs : List D) (l : List Int), subA k xs (l.map .int) = l.map .int := fun k xs l => by
    induction l with
    | nil => simp [subA]
    | cons a l ih => simp [subA, D.sub, ih]
  simp [D.sub, subA, hs, h, Ne.symm h]
theorem openers_data (wf : Wf m) (hB : HasBk m k B) (hi : i < B.doors.length) (ht : 0 ≤ t ∧ t ≤ 999)
    (p : P (.tup [.lst ((wordL (rowAt B.doors i) B.persons t B.ks "surely").map .int), .lst ((wordL (rowAt B.doors i) B.persons t B.ks "maybe").map .int)]) m) :
    Calls c (Fopeners C) [bookD C B.persons k, .int i, .int t] m fun d m' => ∃ l, Subs (Trm m.length P) l d m' :=
  ⟨rfl, (k, B, i, t), ⟨rfl, hB, hi, ht⟩, fun d m2 ⟨h1, h2, j, ed, em, l1, l2, g1, g2⟩ => by
    subst ed
    refine ⟨[(h1, (wordL (rowAt B.doors i) B.persons t B.ks "surely").map .int), (h2, (wordL (rowAt B.doors i) B.persons t B.ks "maybe").map .int)], subs_intro (by simp; omega) (fun x hx => ?_) ?_⟩
    · rcases List.mem_cons.mp hx with rfl | hx
      · exact g1
      · rw [List.mem_singleton.mp hx]
        exact g2
    · show Trm m.length P (((D.tup [.hd h1, .hd h2]).sub h1 _).sub h2 _) ((m2.set h1 .dead).set h2 .dead)
      dsimp only
      rw [two_sub (by omega)]
      refine ⟨m, ((m2.set h1 .dead).set h2 .dead).drop m.length, ?_, Nat.le_refl _, wf, ?_, p⟩
      · refine take_same ?_ fun q hq => ?_
        · rw [List.length_set, List.length_set, em, List.length_append]
          omega
        · rw [List.getElem?_set_ne (by omega), List.getElem?_set_ne (by omega), em, List.getElem?_append_left hq]
      · show (hbA _ _ && (hbA _ _ && true)) = true
        rw [ints_hb, ints_hb]
        rfl, fun _ _ _ h => h.elim⟩
end
theorem ints_py {m : Store} {l : List Int} : Py m 2 (.lst (l.map .int)) (.list (l.map .int)) := .lst (PyA.map fun _ _ => .int 1 _)
theorem what_py {m : Store} {n : Nat} (o : Option Int) : ∃ e, Py m n (whatD o) e := by
  cases o with
  | none => exact ⟨_, .non _⟩
  | some x => exact ⟨_, .int _ _⟩
theorem hold_py {m : Store} (o : Option Int) (l : List Int) : ∃ e, Py m 3 (.tup [whatD o, .lst (l.map .int)]) e := by
  obtain ⟨e, he⟩ := what_py (m := m) (n := 2) o
  exact ⟨_, .tup (.cons he (.cons ints_py (.nil 2)))⟩
theorem open_py {m : Store} (a b : List Int) : ∃ e, Py m 3 (.tup [.lst (a.map .int), .lst (b.map .int)]) e := ⟨_, .tup (.cons ints_py (.cons ints_py (.nil 2)))⟩

/-! ### law_k36 -/
theorem could_cases (f : List Ent) (who t : Int) (ks : List KeyW) : couldW f who t ks = ("no" : Str) ∨ couldW f who t ks = ("maybe" : Str) ∨ couldW f who t ks = ("surely" : Str) := by
  unfold couldW
  split
  · exact .inr (.inr rfl)
  · split
    · exact .inl rfl
    · exact .inr (.inl rfl)
def rankN (x : Str) : Nat := if x = ("no" : Str) then 0 else if x = ("maybe" : Str) then 1 else 2
theorem rank_find {x : Str} (h : x = ("no" : Str) ∨ x = ("maybe" : Str) ∨ x = ("surely" : Str)) : ([.str "no", .str "maybe", .str "surely"] : List V).findIdx? (fun z => eqV z (.str x)) = some (rankN x) := by
  rcases h with rfl | rfl | rfl <;> decide +kernel
theorem rank_le2 {x : Str} : rankN x ≤ 2 := by
  unfold rankN
  split
  · omega
  · split <;> omega
theorem rank_sure {x : Str} (h : x = ("no" : Str) ∨ x = ("maybe" : Str) ∨ x = ("surely" : Str)) : rankN x = 2 ↔ x = ("surely" : Str) := by
  rcases h with rfl | rfl | rfl <;> decide +kernel
theorem rank_zero {x : Str} : rankN x = 0 ↔ x = ("no" : Str) := by
  unfold rankN
  split
  · rename_i h
    exact ⟨fun _ => h, fun _ => rfl⟩
  · rename_i h
    refine ⟨fun e => ?_, fun e => absurd e h⟩
    split at e <;> omega
/-- the same keys, plain or not as is said -/
def plainK (g : Bool → Bool) (k : KeyS) : KeyS := ⟨k.opens, g k.plain, k.row⟩
theorem plain_sure {f : List Ent} {who t : Int} {ks : List KeyS} {g : Bool → Bool} : SureP f who t ((ks.map (plainK g)).map KeyS.kw) ↔ SureP f who t (ks.map KeyS.kw) := by
  unfold SureP
  refine forall_congr' fun o => forall_congr' fun _ => ⟨fun ⟨k, hk, h⟩ => ?_, fun ⟨k, hk, h⟩ => ?_⟩
  · obtain ⟨y, hy, rfl⟩ := List.mem_map.mp hk
    obtain ⟨z, hz, rfl⟩ := List.mem_map.mp hy
    exact ⟨z.kw, List.mem_map.mpr ⟨z, hz, rfl⟩, h⟩
  · obtain ⟨z, hz, rfl⟩ := List.mem_map.mp hk
    exact ⟨(plainK g z).kw, List.mem_map.mpr ⟨_, List.mem_map.mpr ⟨z, hz, rfl⟩, rfl⟩, h⟩
theorem had_more {r : List Ent} {who t : Int} {a b : Bool} (h : HadP r who a t) (hab : a = true → b = true) : HadP r who b t := by
  obtain ⟨s, h1, h2, h3⟩ := h
  exact ⟨s, h1, h2.imp hab id, h3⟩
theorem plain_may {f : List Ent} {who t : Int} {ks : List KeyS} {g g' : Bool → Bool} (hg : ∀ b, g b = true → g' b = true) (h : MayP f who t ((ks.map (plainK g)).map KeyS.kw)) : MayP f who t ((ks.map (plainK g')).map KeyS.kw) := by
  obtain ⟨k, hk, h1, h2⟩ := h
  obtain ⟨y, hy, rfl⟩ := List.mem_map.mp hk
  obtain ⟨z, hz, rfl⟩ := List.mem_map.mp hy
  exact ⟨(plainK g' z).kw, List.mem_map.mpr ⟨_, List.mem_map.mpr ⟨z, hz, rfl⟩, rfl⟩, had_more h1 (hg z.plain), h2⟩
theorem plain_ok {p : Int} {ks : List KeyS} {dr : List (List Ent)} (h : CaseOk p ks dr) (g : Bool → Bool) : CaseOk p (ks.map (plainK g)) dr := ⟨h.p0, by rw [List.length_map]; exact h.kl, h.d0, fun k hk => by
  obtain ⟨z, hz, rfl⟩ := List.mem_map.mp hk
  exact h.key z hz, h.door⟩
theorem plain_id (ks : List KeyS) : ks.map (plainK id) = ks := by
  induction ks with
  | nil => rfl
  | cons k ks ih => rw [List.map_cons, ih]; rfl
theorem rk_all {p : Int} {ks : List KeyS} {dr : List (List Ent)} (h : CaseOk p ks dr) : ∀ k ∈ ks.map KeyS.kw, RowOk k.row := fun k hk => by
  obtain ⟨z, hz, rfl⟩ := List.mem_map.mp hk
  exact (h.key z hz).2.rk (Int.le_refl _)
theorem rank_mono {p : Int} {ks : List KeyS} {dr : List (List Ent)} (h : CaseOk p ks dr) {f : List Ent} (hf : RowOk f) {who t : Int} (h0 : 0 ≤ t) (h9 : t < 1000) {g g' : Bool → Bool} (hg : ∀ b, g b = true → g' b = true) :
    rankN (couldW f who t ((ks.map (plainK g)).map KeyS.kw)) ≤ rankN (couldW f who t ((ks.map (plainK g')).map KeyS.kw)) := by
  have c1 := could_cases f who t ((ks.map (plainK g)).map KeyS.kw)
  have c2 := could_cases f who t ((ks.map (plainK g')).map KeyS.kw)
  have s1 := (could_sure (f := f) (who := who) (t := t) (ks := (ks.map (plainK g)).map KeyS.kw)).trans plain_sure
  have s2 := (could_sure (f := f) (who := who) (t := t) (ks := (ks.map (plainK g')).map KeyS.kw)).trans plain_sure
  have n1 := could_no (who := who) hf (rk_all (plain_ok h g)) h0 h9
  have n2 := could_no (who := who) hf (rk_all (plain_ok h g')) h0 h9
  have hm := plain_may (f := f) (who := who) (t := t) (ks := ks) hg
  generalize couldW f who t ((ks.map (plainK g)).map KeyS.kw) = a at c1 s1 n1
  generalize couldW f who t ((ks.map (plainK g')).map KeyS.kw) = b at c2 s2 n2
  rcases c1 with rfl | rfl | rfl
  · exact Nat.zero_le _
  · rcases c2 with rfl | rfl | rfl
    · exact absurd (hm (Classical.byContradiction fun n => absurd (n1.mpr n) (by decide))) (n2.mp rfl)
    · exact Nat.le_refl _
    · decide +kernel
  · rw [s2.mpr (s1.mp rfl)]
    exact Nat.le_refl _
theorem rank_same {f : List Ent} {who t : Int} {ks : List KeyS} {g g' : Bool → Bool} : (rankN (couldW f who t ((ks.map (plainK g)).map KeyS.kw)) = 2 ↔ rankN (couldW f who t ((ks.map (plainK g')).map KeyS.kw)) = 2) := by
  rw [rank_sure (could_cases _ _ _ _), rank_sure (could_cases _ _ _ _)]
  exact (could_sure.trans plain_sure).trans (could_sure.trans plain_sure).symm
/-- a door whose lock stays -/
theorem stay_may {k t : Int} (h0 : 0 ≤ t) (h9 : t < 1000) {o : Option Int} : o ∈ mayF [(some k, 0, 0)] t ↔ o = some k := by
  have hl : Lt9 [((some k, 0, 0) : Ent)] := fun e he => by
    rw [List.mem_singleton.mp he]
    show (0 : Int) ≤ 999
    decide
  have hw1 : wh [((some k, 0, 0) : Ent)] 1 = some k := rfl
  rw [mem_mayA hl]
  constructor
  · rintro ⟨a, ha, e⟩
    have h1 := ha.1
    have h1 : a ≤ 1 := h1
    obtain rfl | rfl : a = 0 ∨ a = 1 := by omega
    · have := ha.2.2.2.2 0 (Nat.le_refl _) (Nat.zero_lt_one)
      have : t < 0 := this
      omega
    · rw [← e]
      rfl
  · rintro rfl
    refine ⟨1, ⟨Nat.le_refl _, h0, h9, fun j hj => ?_, fun k hk hkr => ?_⟩, hw1⟩
    · obtain rfl : j = 0 := by omega
      exact h0
    · have hkr : k < 1 := hkr
      omega
theorem stay_ok {k : Int} (h : 0 ≤ k ∧ k ≤ 9) : GoodRow IsKind 8 999 [((some k, 0, 0) : Ent)] := ⟨show 1 ≤ 8 by decide, fun e he => by
  rw [List.mem_singleton.mp he]
  exact ⟨⟨k, rfl, h⟩, Int.le_refl 0, Int.le_refl 0, (show (0 : Int) ≤ 999 by decide)⟩, rfl⟩
theorem stay_later {k who t t' : Int} {ks : List KeyS} {g : Bool → Bool} (hg : ∀ b, g b = true) (h0 : 0 ≤ t) (ht : t ≤ t') (h9 : t' < 1000) (h : MayP [(some k, 0, 0)] who t ((ks.map (plainK g)).map KeyS.kw)) : MayP [(some k, 0, 0)] who t' ((ks.map (plainK g)).map KeyS.kw) := by
  obtain ⟨y, hy, ⟨s, s1, s2, s3⟩, o, ho, h2⟩ := h
  have hpl : y.plain = true := by
    obtain ⟨z, hz, rfl⟩ := List.mem_map.mp hy
    obtain ⟨x, hx, rfl⟩ := List.mem_map.mp hz
    exact hg _
  exact ⟨y, hy, ⟨s, by omega, .inl hpl, s3⟩, o, (stay_may (by omega) h9).mpr ((stay_may h0 (by omega)).mp ho), h2⟩
theorem none_may {k who t p : Int} {ks : List KeyS} {g : Bool → Bool} (hg : ∀ b, g b = false) (h0 : 0 ≤ t) (h9 : t < 1000) (hr : ∀ y ∈ ks, ∀ e ∈ y.row, IsPerson p e.1) (hw : 0 ≤ who ∧ who < p) :
    MayP [(some k, 0, 0)] who t ((ks.map (plainK g)).map KeyS.kw) ↔ ∃ y ∈ ks, who ∈ (holdF p (toldF y.row t)).2 ∧ k ∈ y.opens := by
  constructor
  · rintro ⟨y, hy, ⟨s, s1, s2, s3⟩, o, ho, h2⟩
    obtain ⟨z, hz, rfl⟩ := List.mem_map.mp hy
    obtain ⟨x, hx, rfl⟩ := List.mem_map.mp hz
    have hs : s = t := s2.elim (fun e => by
      have e : g x.plain = true := e
      rw [hg] at e
      cases e) id
    subst hs
    rw [(stay_may h0 h9).mp ho] at h2
    obtain ⟨k', hk', e⟩ := opn_iff.mp h2
    cases e
    refine ⟨x, hx, ?_, hk'⟩
    rw [math3_key (hr x hx)]
    exact every_mem.mpr ⟨hw, s3⟩
  · rintro ⟨y, hy, h1, h2⟩
    rw [math3_key (hr y hy)] at h1
    exact ⟨(plainK g y).kw, List.mem_map.mpr ⟨_, List.mem_map.mpr ⟨y, hy, rfl⟩, rfl⟩, ⟨t, Int.le_refl _, .inr rfl, (every_mem.mp h1).2⟩, some k, (stay_may h0 h9).mpr rfl, opn_iff.mpr ⟨k, h2, rfl⟩⟩

/-! ### law_k37: a key more, keys that open more -/
theorem more_may {f : List Ent} {who t : Int} {ks ks' : List KeyW} (h : ∀ k ∈ ks, ∃ k' ∈ ks', k'.row = k.row ∧ k'.plain = k.plain ∧ ∀ o, opn k.opens o = true → opn k'.opens o = true) (hm : MayP f who t ks) : MayP f who t ks' := by
  obtain ⟨k, hk, h1, o, ho, h2⟩ := hm
  obtain ⟨k', hk', e1, e2, e3⟩ := h k hk
  exact ⟨k', hk', by rw [e1, e2]; exact h1, o, ho, e3 o h2⟩
theorem more_sure {f : List Ent} {who t : Int} {ks ks' : List KeyW} (h : ∀ k ∈ ks, ∃ k' ∈ ks', k'.row = k.row ∧ k'.plain = k.plain ∧ ∀ o, opn k.opens o = true → opn k'.opens o = true) (hs : SureP f who t ks) : SureP f who t ks' := fun o ho => by
  obtain ⟨k, hk, h1, h2⟩ := hs o ho
  obtain ⟨k', hk', e1, _, e3⟩ := h k hk
  exact ⟨k', hk', e3 o h1, by rw [e1]; exact h2⟩
theorem more_rank {f : List Ent} {who t : Int} {ks ks' : List KeyW} (h : ∀ k ∈ ks, ∃ k' ∈ ks', k'.row = k.row ∧ k'.plain = k.plain ∧ ∀ o, opn k.opens o = true → opn k'.opens o = true) (hf : RowOk f) (hk : ∀ k ∈ ks, RowOk k.row) (hk' : ∀ k ∈ ks', RowOk k.row) (h0 : 0 ≤ t) (h9 : t < 1000) : rankN (couldW f who t ks) ≤ rankN (couldW f who t ks') := by
  have c1 := could_cases f who t ks
  have c2 := could_cases f who t ks'
  have s1 := could_sure (f := f) (who := who) (t := t) (ks := ks)
  have s2 := could_sure (f := f) (who := who) (t := t) (ks := ks')
  have n1 := could_no (who := who) hf hk h0 h9
  have n2 := could_no (who := who) hf hk' h0 h9
  have hm := more_may (f := f) (who := who) (t := t) h
  have hs := more_sure (f := f) (who := who) (t := t) h
  generalize couldW f who t ks = a at c1 s1 n1
  generalize couldW f who t ks' = b at c2 s2 n2
  rcases c1 with rfl | rfl | rfl
  · exact Nat.zero_le _
  · rcases c2 with rfl | rfl | rfl
    · exact absurd (hm (Classical.byContradiction fun n => absurd (n1.mpr n) (by decide))) (n2.mp rfl)
    · exact Nat.le_refl _
    · decide +kernel
  · rw [s2.mpr (hs (s1.mp rfl))]
    exact Nat.le_refl _
/-- one key more -/
theorem more_key {ks : List KeyW} {z : KeyW} : ∀ k ∈ ks, ∃ k' ∈ ks ++ [z], k'.row = k.row ∧ k'.plain = k.plain ∧ ∀ o, opn k.opens o = true → opn k'.opens o = true := fun k hk => ⟨k, List.mem_append_left _ hk, rfl, rfl, fun _ h => h⟩
/-- the same keys, opening more -/
def WideK (k k' : KeyS) : Prop := k'.row = k.row ∧ k'.plain = k.plain ∧ ∀ x ∈ k.opens, x ∈ k'.opens
theorem wide_keys : ∀ {ks ks' : List KeyS}, PySem.Paired WideK ks ks' → ∀ k ∈ ks.map KeyS.kw, ∃ k' ∈ ks'.map KeyS.kw, k'.row = k.row ∧ k'.plain = k.plain ∧ ∀ o, opn k.opens o = true → opn k'.opens o = true
  | _, _, .nil, k, hk => by cases hk
  | _, _, .cons (a := y) (b := y') hw t, k, hk => by
    rcases List.mem_cons.mp hk with rfl | hk
    · refine ⟨y'.kw, List.mem_cons_self, hw.1, hw.2.1, fun o ho => ?_⟩
      obtain ⟨x, hx, e⟩ := opn_iff.mp ho
      exact opn_iff.mpr ⟨x, hw.2.2 x hx, e⟩
    · obtain ⟨k', h1, h2⟩ := wide_keys t k hk
      exact ⟨k', List.mem_cons_of_mem _ h1, h2⟩
theorem wide_len {ks ks' : List KeyS} (h : PySem.Paired WideK ks ks') : ks'.length = ks.length := by
  induction h with
  | nil => rfl
  | cons _ _ ih => rw [List.length_cons, List.length_cons, ih]
theorem wide_row : ∀ {ks ks' : List KeyS}, PySem.Paired WideK ks ks' → ∀ {n : Nat} (h : n < ks.length) (h' : n < ks'.length), ks'[n].row = ks[n].row
  | _, _, .cons hw _, 0, _, _ => hw.1
  | _, _, .cons _ t, n + 1, h, h' => wide_row t (Nat.lt_of_succ_lt_succ h) (Nat.lt_of_succ_lt_succ h')

/-! ### law_k37, the law -/
theorem sortI_id {l : List Int} (h : l.Pairwise (· < ·)) : sortI l = l := List.Perm.eq_of_pairwise (le := fun a b => a ≤ b) (fun a b _ _ h1 h2 => Int.le_antisymm h1 h2) (sortI_sorted _) (h.imp fun h => Int.le_of_lt h) (sortI_perm _)
theorem wordL_pw (f : List Ent) (p t : Int) (ks : List KeyW) (wd : Str) : (wordL f p t ks wd).Pairwise (· < ·) := by
  unfold wordL
  exact (upTo_sorted p).sublist List.filter_sublist
theorem wordL_len (f : List Ent) (p t : Int) (ks : List KeyW) (wd : Str) : (wordL f p t ks wd).length ≤ p.toNat := by
  unfold wordL
  refine Nat.le_trans (List.length_filter_le _ _) ?_
  rw [upTo_len]
  exact Nat.le_refl _
theorem wordL_apart (f : List Ent) (p t : Int) (ks : List KeyW) : (wordL f p t ks "surely").filter (fun x => decide (x ∈ wordL f p t ks "maybe")) = [] := by
  refine List.filter_eq_nil_iff.mpr fun x hx hy => ?_
  have hy := of_decide_eq_true hy
  unfold wordL at hx hy
  have a := of_decide_eq_true (List.mem_filter.mp hx).2
  have b := of_decide_eq_true (List.mem_filter.mp hy).2
  rw [a] at b
  exact absurd b (by decide)
theorem in_int (x : Int) (l : List Int) : inV (.int x) (l.map V.int) = decide (x ∈ l) := by
  have := in_what (some x) (l.map some)
  rw [List.map_map] at this
  refine this.trans (decide_eq_decide.mpr ?_)
  rw [List.mem_map]
  exact ⟨fun ⟨y, h1, h2⟩ => by cases h2; exact h1, fun h => ⟨x, h, rfl⟩⟩
theorem cut5 (ks : List KeyS) : cutZ (ks.map keyD) none (some 5) = (ks.take 5).map keyD := by
  unfold cutZ
  have h0 : HT.sIx (ks.map keyD).length 0 none = 0 := rfl
  rw [h0, List.drop_zero, Nat.sub_zero, ← List.map_take]
  have : HT.sIx (ks.map keyD).length (ks.map keyD).length (some 5) = min 5 ks.length := by
    unfold HT.sIx
    simp
    try omega
  rw [this]
  congr 1
  rw [List.take_eq_take_iff]
  omega
def subsOf : List Int → List (List Int)
  | [] => [[]]
  | a :: l => subsOf l ++ (subsOf l).map (a :: ·)
theorem mem_subsOf {l xs : List Int} (h : l.Sublist xs) : l ∈ subsOf xs := by
  induction h with
  | slnil => exact List.mem_singleton.mpr rfl
  | cons a _ ih => exact List.mem_append_left _ ih
  | cons_cons a _ ih => exact List.mem_append_right _ (List.mem_map.mpr ⟨_, ih, rfl⟩)
def whatPy : Option Int → PyData
  | none => .none
  | some x => .int x
theorem what_pyI {m : Store} {n : Nat} (o : Option Int) : Py m n (whatD o) (whatPy o) := by
  cases o with
  | none => exact .non _
  | some x => exact .int _ _
def pairPy (x : Option Int × List Int) : PyData := .tuple [whatPy x.1, .list (x.2.map .int)]
theorem pair_pyI {m : Store} (x : Option Int × List Int) : Py m 3 (.tup [whatD x.1, .lst (x.2.map .int)]) (pairPy x) := .tup (.cons (what_pyI _) (.cons ints_py (.nil 2)))
def smallPy (d : PyData) : Bool := d.showable && (!d.hasDict && decide (d.shown.length ≤ 1000))
theorem small_all : ([none, some 0, some 1, some 2, some 3] : List (Option Int)).all (fun o => (subsOf [0, 1, 2, 3]).all fun l => smallPy (pairPy (o, l))) = true := by decide +kernel
theorem upTo_sub {q : Nat} (h : q ≤ 4) : (KR.upTo (q : Int)).Sublist [0, 1, 2, 3] := by
  obtain rfl | rfl | rfl | rfl | rfl : q = 0 ∨ q = 1 ∨ q = 2 ∨ q = 3 ∨ q = 4 := by omega
  all_goals decide +kernel
theorem hold_small {q : Nat} {r : List Ent} {t : Int} (hq : q ≤ 4) (h : ∀ e ∈ r, IsPerson (q : Int) e.1) : (pairPy (holdF (q : Int) (toldF r t))).showable = true ∧ (pairPy (holdF (q : Int) (toldF r t))).hasDict = false ∧ (pairPy (holdF (q : Int) (toldF r t))).shown.length ≤ sizeLine := by
  have hs : (holdF (q : Int) (toldF r t)).2.Sublist [0, 1, 2, 3] := by
    rw [math3_key h]
    exact (List.filter_sublist (l := KR.upTo (q : Int))).trans (upTo_sub hq)
  have ho : (holdF (q : Int) (toldF r t)).1 ∈ ([none, some 0, some 1, some 2, some 3] : List (Option Int)) := by
    cases e : (holdF (q : Int) (toldF r t)).1 with
    | none => exact List.mem_cons_self
    | some x =>
      have := hold_sure h e
      obtain rfl | rfl | rfl | rfl : x = 0 ∨ x = 1 ∨ x = 2 ∨ x = 3 := by omega
      all_goals decide
  have := List.all_eq_true.mp (List.all_eq_true.mp small_all _ ho) _ (mem_subsOf hs)
  unfold smallPy at this
  rw [Bool.and_eq_true, Bool.and_eq_true, Bool.not_eq_true', decide_eq_true_eq] at this
  exact ⟨this.1, this.2.1, Nat.le_trans this.2.2 (by decide)⟩
theorem wide_back : ∀ {ks ls : List KeyS}, PySem.Paired WideK ks ls → ∀ k' ∈ ls, ∃ k ∈ ks, WideK k k'
  | _, _, .nil, k', h => by cases h
  | _, _, .cons hw t, k', h => by
    rcases List.mem_cons.mp h with rfl | h
    · exact ⟨_, List.mem_cons_self, hw⟩
    · obtain ⟨k, h1, h2⟩ := wide_back t k' h
      exact ⟨k, List.mem_cons_of_mem _ h1, h2⟩
theorem paired_snoc {α β : Type} {R : α → β → Prop} {a : α} {b : β} (h : R a b) : ∀ {xs : List α} {ys : List β}, PySem.Paired R xs ys → PySem.Paired R (xs ++ [a]) (ys ++ [b])
  | _, _, .nil => .cons h .nil
  | _, _, .cons h1 t => .cons h1 (paired_snoc h t)

set_option maxHeartbeats 40000000 in
theorem ok_law1 (T : Tx K mg) (TB : LamX.TabB base mg T.co__law_turn T.tp__law_turn) : RunAt P w K mg base CX0 T.a_law T.f_law ["_law_script"] (spD K (FlawT T.tp__law_turn)) callerA := by
  have G__law_dice := ok_dice (P := P) (w := w) (base := base) T
  have G__law_next := ok_next (P := P) (w := w) (base := base) T
  have G__law_window := ok_window (P := P) (w := w) (base := base) T
  have G__law_story := ok_story (P := P) (w := w) (base := base) T TB
  have G__law_written := ok_written (P := P) (w := w) (base := base) T
  have G__law_words := ok_words (P := P) (w := w) (base := base) T
  have G_openers := ok_openers (P := P) (w := w) (base := base) T
  have G_Book_holders := ok_holders (P := P) (w := w) (base := base) T
  refine ok0At (k := 8) T.F_law sc_law rfl ⟨rfl, by decide, by decide⟩ callerA_guards (fun cdv outer s H E hr hgd => ⟨_, pss_cons (ps_asg (pe_call G__law_dice (hr.mono (by first | decide | omega)) rfl T.g__law_dice T.k__law_dice T.b__law_dice .nil pass0 (pa_cons (pv 0) (pa_nil))) (pg_name (i := 1) sc_law.nd rfl (by first | exact Or.inl rfl | exact Or.inr rfl))) (pss_cons (ps_asg (pe_call G__law_story (hr.mono (by first | decide | omega)) rfl T.g__law_story T.k__law_story T.b__law_story .nil pass0 (pa_cons (pv 1) (pa_cons (pe_int) (pa_nil)))) (pg_tupK (K := K) (n := 3) (pg_tup (n := 3) rfl (pgs_cons (pg_name (i := 2) sc_law.nd rfl (by first | exact Or.inl rfl | exact Or.inr rfl)) (pgs_cons (pg_name (i := 3) sc_law.nd rfl (by first | exact Or.inl rfl | exact Or.inr rfl)) (pgs_cons (pg_name (i := 4) sc_law.nd rfl (by first | exact Or.inl rfl | exact Or.inr rfl)) (pgs_nil))))))) (pss_cons (ps_asg (pe_tup (pa_cons (pe_slice (sl_listK (K := K)) (pv 3) po_none (po_some (pe_int))) (pa_cons (pe_tup (pa_cons (pv 2) (pa_cons (pe_slice (sl_listK (K := K)) (pv 3) po_none (po_some (pe_int))) (pa_cons (pv 4) (pa_nil))))) (pa_nil)))) (pg_tupK (K := K) (n := 2) (pg_tup (n := 2) rfl (pgs_cons (pg_name (i := 3) sc_law.nd rfl (by first | exact Or.inl rfl | exact Or.inr rfl)) (pgs_cons (pg_name (i := 5) sc_law.nd rfl (by first | exact Or.inl rfl | exact Or.inr rfl)) (pgs_nil)))))) (pss_cons (ps_asg (pe_call G__law_window (hr.mono (by first | decide | omega)) rfl T.g__law_window T.k__law_window T.b__law_window .nil pass0 (pa_cons (pv 1) (pa_cons (pe_int) (pa_nil)))) (pg_tupK (K := K) (n := 2) (pg_tup (n := 2) rfl (pgs_cons (pg_name (i := 6) sc_law.nd rfl (by first | exact Or.inl rfl | exact Or.inr rfl)) (pgs_cons (pg_name (i := 7) sc_law.nd rfl (by first | exact Or.inl rfl | exact Or.inr rfl)) (pgs_nil)))))) (pss_cons (ps_asg (pe_callTy (call_tupK (K := K)) (by rfl) T.n_tuple (by decide +kernel) (pa_cons (pe_lc (own := [("_law_kind", 9)]) rfl sc_law.nd (pi_range1 rfl T.n_range (pa_cons (pe_int) (pa_nil))) (blkOk_by (N := ["_law_script", "_law_d", "_law_persons", "_law_keys", "_law_doors", "_law_base", "_law_early", "_law_late", "_law_kinds", "_law_kind", "_law_more", "_law_wide", "_law_opens", "_law_plain", "_law_rows", "_law_books", "_law_moment", "_law_k", "_law_book", "_law_door", "_law_person", "_law_ranks", "_law_row", "_law_sure", "_law_maybe", "_law_name"]) (own := [("_law_kind", 9)]) (sc := defScope s_law) (by decide +kernel)) (fun _ _ _ _ _ => pg_name (i := 9) sc_law.nd rfl (by first | exact Or.inl rfl | exact Or.inr rfl)) (fun _ _ _ _ _ => pts_one (pt_cmpR op_eq (pe_call G__law_next (hr.mono (by first | decide | omega)) rfl T.g__law_next T.k__law_next T.b__law_next .nil pass0 (pa_cons (pv 1) (pa_cons (pe_int) (pa_nil)))) (pe_int) (nomark _))) (fun _ _ _ _ _ => pv 9)) (pa_nil))) (pg_name (i := 8) sc_law.nd rfl (by first | exact Or.inl rfl | exact Or.inr rfl))) (pss_cons (ps_par (i := 10) (j := 11) rfl sc_law.nd rfl rfl (by decide) rfl rfl (pa_cons (pe_tup (pa_cons (pv 2) (pa_cons (pe_op op_cat (pv 3) (pe_lst (pa_cons (pe_tup (pa_cons (pv 8) (pa_cons (pe_bl) (pa_cons (pe_lst (pa_cons (pe_tup (pa_cons (pe_call G__law_next (hr.mono (by first | decide | omega)) rfl T.g__law_next T.k__law_next T.b__law_next .nil pass0 (pa_cons (pv 1) (pa_cons (pv 2) (pa_nil)))) (pa_cons (pv 6) (pa_cons (pv 7) (pa_nil))))) (pa_nil))) (pa_nil))))) (pa_nil)))) (pa_cons (pv 4) (pa_nil))))) (pa_cons (pe_lst (pa_nil)) (pa_nil))) (by rfl)) (pss_cons (ps_for PassesOwn.never rfl (pi_listK (K := K) (pi_list (pv 3))) (pg_tupK (K := K) (n := 3) (pg_tup (n := 3) rfl (pgs_cons (pg_name (i := 12) sc_law.nd rfl (by first | exact Or.inl rfl | exact Or.inr rfl)) (pgs_cons (pg_name (i := 13) sc_law.nd rfl (by first | exact Or.inl rfl | exact Or.inr rfl)) (pgs_cons (pg_name (i := 14) sc_law.nd rfl (by first | exact Or.inl rfl | exact Or.inr rfl)) (pgs_nil)))))) (pss_one (ps_expr (pe_bmK (K := K) (pe_bm PySem.F.plainAttrs_list PySem.F.slot_list_append PySem.F.type_list_append mt_append (pv 11) (pa_cons (pe_tup (pa_cons (pe_callTy (call_tupK (K := K)) (by rfl) T.n_tuple (by decide +kernel) (pa_cons (pe_lc (own := [("_law_kind", 9)]) rfl sc_law.nd (pi_range1 rfl T.n_range (pa_cons (pe_int) (pa_nil))) (blkOk_by (N := ["_law_script", "_law_d", "_law_persons", "_law_keys", "_law_doors", "_law_base", "_law_early", "_law_late", "_law_kinds", "_law_kind", "_law_more", "_law_wide", "_law_opens", "_law_plain", "_law_rows", "_law_books", "_law_moment", "_law_k", "_law_book", "_law_door", "_law_person", "_law_ranks", "_law_row", "_law_sure", "_law_maybe", "_law_name"]) (own := [("_law_kind", 9)]) (sc := defScope s_law) (by decide +kernel)) (fun _ _ _ _ _ => pg_name (i := 9) sc_law.nd rfl (by first | exact Or.inl rfl | exact Or.inr rfl)) (fun _ _ _ _ _ => pts_one (PW.pt (pw_or (pt_cmpR (op_inK (K := K)) (pv 9) (pv 12) (by rfl)) (pw_or1 (pt_cmpR op_eq (pe_call G__law_next (hr.mono (by first | decide | omega)) rfl T.g__law_next T.k__law_next T.b__law_next .nil pass0 (pa_cons (pv 1) (pa_cons (pe_int) (pa_nil)))) (pe_int) (nomark _)))))) (fun _ _ _ _ _ => pv 9)) (pa_nil))) (pa_cons (pv 13) (pa_cons (pv 14) (pa_nil))))) (pa_nil))))))) (pss_cons (ps_asg (pe_lst (pa_cons (pe_call G__law_written (hr.mono (by first | decide | omega)) rfl T.g__law_written T.k__law_written T.b__law_written .nil pass0 (pa_cons (pv 5) (pa_nil))) (pa_cons (pe_call G__law_written (hr.mono (by first | decide | omega)) rfl T.g__law_written T.k__law_written T.b__law_written .nil pass0 (pa_cons (pv 10) (pa_nil))) (pa_cons (pe_call G__law_written (hr.mono (by first | decide | omega)) rfl T.g__law_written T.k__law_written T.b__law_written .nil pass0 (pa_cons (pe_tup (pa_cons (pv 2) (pa_cons (pv 11) (pa_cons (pv 4) (pa_nil))))) (pa_nil))) (pa_nil))))) (pg_name (i := 15) sc_law.nd rfl (by first | exact Or.inl rfl | exact Or.inr rfl))) (pss_cons (ps_for PassesOwn.never rfl (pi_listK (K := K) (pi_list (pe_lc (own := [("_law_k", 17)]) rfl sc_law.nd (pi_range1 rfl T.n_range (pa_cons (pe_int) (pa_nil))) (blkOk_by (N := ["_law_script", "_law_d", "_law_persons", "_law_keys", "_law_doors", "_law_base", "_law_early", "_law_late", "_law_kinds", "_law_kind", "_law_more", "_law_wide", "_law_opens", "_law_plain", "_law_rows", "_law_books", "_law_moment", "_law_k", "_law_book", "_law_door", "_law_person", "_law_ranks", "_law_row", "_law_sure", "_law_maybe", "_law_name"]) (own := [("_law_k", 17)]) (sc := defScope s_law) (by decide +kernel)) (fun _ _ _ _ _ => pg_name (i := 17) sc_law.nd rfl (by first | exact Or.inl rfl | exact Or.inr rfl)) (fun _ _ _ _ _ => pts_nil) (fun _ _ _ _ _ => pe_call G__law_next (hr.mono (by first | decide | omega)) rfl T.g__law_next T.k__law_next T.b__law_next .nil pass0 (pa_cons (pv 1) (pa_cons (pe_int) (pa_nil))))))) (pg_name (i := 16) sc_law.nd rfl (by first | exact Or.inl rfl | exact Or.inr rfl)) (pss_cons (ps_setLc (i := 14) (own := [("_law_book", 18)]) rfl sc_law.nd rfl rfl (sw_true rfl rfl rfl (by decide +kernel)) (pi_listK (K := K) (pi_list (pv 15))) (blkOk_by (N := ["_law_script", "_law_d", "_law_persons", "_law_keys", "_law_doors", "_law_base", "_law_early", "_law_late", "_law_kinds", "_law_kind", "_law_more", "_law_wide", "_law_opens", "_law_plain", "_law_rows", "_law_books", "_law_moment", "_law_k", "_law_book", "_law_door", "_law_person", "_law_ranks", "_law_row", "_law_sure", "_law_maybe", "_law_name"]) (own := [("_law_book", 18)]) (sc := defScope s_law) (by decide +kernel)) (fun _ _ _ _ _ => pg_name (i := 18) sc_law.nd rfl (by first | exact Or.inl rfl | exact Or.inr rfl)) (fun _ _ _ _ _ => pts_nil) (fun _ _ _ _ _ => pe_call G__law_words (hr.mono (by first | decide | omega)) rfl T.g__law_words T.k__law_words T.b__law_words .nil pass0 (pa_cons (pv 18) (pa_cons (pv 5) (pa_cons (pv 16) (pa_nil)))))) (pss_cons (ps_for PassesOwn.never rfl (pi_range1 rfl T.n_range (pa_cons (pe_callB (call_lenK (K := K)) (by rfl) T.n_len (by decide +kernel) (pa_cons (pv 4) (pa_nil))) (pa_nil))) (pg_name (i := 19) sc_law.nd rfl (by first | exact Or.inl rfl | exact Or.inr rfl)) (pss_cons (ps_for PassesOwn.never rfl (pi_range1 rfl T.n_range (pa_cons (pv 2) (pa_nil))) (pg_name (i := 20) sc_law.nd rfl (by first | exact Or.inl rfl | exact Or.inr rfl)) (pss_cons (ps_setLc (i := 21) (own := [("_law_row", 22)]) rfl sc_law.nd rfl rfl (sw_true rfl rfl rfl (by decide +kernel)) (pi_listK (K := K) (pi_list (pv 14))) (blkOk_by (N := ["_law_script", "_law_d", "_law_persons", "_law_keys", "_law_doors", "_law_base", "_law_early", "_law_late", "_law_kinds", "_law_kind", "_law_more", "_law_wide", "_law_opens", "_law_plain", "_law_rows", "_law_books", "_law_moment", "_law_k", "_law_book", "_law_door", "_law_person", "_law_ranks", "_law_row", "_law_sure", "_law_maybe", "_law_name"]) (own := [("_law_row", 22)]) (sc := defScope s_law) (by decide +kernel)) (fun _ _ _ _ _ => pg_name (i := 22) sc_law.nd rfl (by first | exact Or.inl rfl | exact Or.inr rfl)) (fun _ _ _ _ _ => pts_nil) (fun _ _ _ _ _ => pe_bmK (K := K) (pe_bm PySem.F.plainAttrs_list PySem.F.slot_list_index PySem.F.type_list_index (mt_indexK (K := K)) (pe_lst (pa_cons (pe_str) (pa_cons (pe_str) (pa_cons (pe_str) (pa_nil))))) (pa_cons (pe_ix (ix_seqK (K := K)) (pe_ix (ix_seqK (K := K)) (pv 22) (pv 19) (fun _ _ => rfl)) (pv 20) (fun _ _ => rfl)) (pa_nil))))) (pss_one (ps_if (PW.pt (pw_or (pt_cmpR op_gt (pe_ix (ix_seqK (K := K)) (pv 21) (pe_int) (fun _ _ => rfl)) (pe_ix (ix_seqK (K := K)) (pv 21) (pe_int) (fun _ _ => rfl)) (nomark _)) (pw_or1 (pt_cmpR op_gt (pe_ix (ix_seqK (K := K)) (pv 21) (pe_int) (fun _ _ => rfl)) (pe_ix (ix_seqK (K := K)) (pv 21) (pe_int) (fun _ _ => rfl)) (nomark _))))) (pss_one (ps_ret (pe_bl))) (pss_nil))))) (pss_cons (ps_asg (pe_call G_openers (hr.mono (by first | decide | omega)) rfl T.g_openers T.k_openers T.b_openers .nil pass0 (pa_cons (pe_ix (ix_seqK (K := K)) (pv 15) (pe_int) (fun _ _ => rfl)) (pa_cons (pv 19) (pa_cons (pv 16) (pa_nil))))) (pg_tupK (K := K) (n := 2) (pg_tup (n := 2) rfl (pgs_cons (pg_name (i := 23) sc_law.nd rfl (by first | exact Or.inl rfl | exact Or.inr rfl)) (pgs_cons (pg_name (i := 24) sc_law.nd rfl (by first | exact Or.inl rfl | exact Or.inr rfl)) (pgs_nil)))))) (pss_cons (ps_if (pt_cmpR (op_neK hr.units (K := K)) (pe_lc (own := [("_law_person", 20)]) rfl sc_law.nd (pi_listK (K := K) (pi_list (pv 23))) (blkOk_by (N := ["_law_script", "_law_d", "_law_persons", "_law_keys", "_law_doors", "_law_base", "_law_early", "_law_late", "_law_kinds", "_law_kind", "_law_more", "_law_wide", "_law_opens", "_law_plain", "_law_rows", "_law_books", "_law_moment", "_law_k", "_law_book", "_law_door", "_law_person", "_law_ranks", "_law_row", "_law_sure", "_law_maybe", "_law_name"]) (own := [("_law_person", 20)]) (sc := defScope s_law) (by decide +kernel)) (fun _ _ _ _ _ => pg_name (i := 20) sc_law.nd rfl (by first | exact Or.inl rfl | exact Or.inr rfl)) (fun _ _ _ _ _ => pts_one (pt_cmpR (op_inK (K := K)) (pv 20) (pv 24) (by rfl))) (fun _ _ _ _ _ => pv 20)) (pe_lst (pa_nil)) (nomark _)) (pss_one (ps_ret (pe_bl))) (pss_nil)) (pss_cons (ps_if (pt_cmpR (op_neK hr.units (K := K)) (pv 23) (pe_callB (cr_sortedK (K := K)) (by rfl) T.n_sorted (by decide +kernel) (pa_cons (pv 23) (pa_nil))) (nomark _)) (pss_one (ps_ret (pe_bl))) (pss_nil)) (pss_one (ps_if (pt_cmpR (op_neK hr.units (K := K)) (pv 24) (pe_callB (cr_sortedK (K := K)) (by rfl) T.n_sorted (by decide +kernel) (pa_cons (pv 24) (pa_nil))) (nomark _)) (pss_one (ps_ret (pe_bl))) (pss_nil)))))))) (pss_one (ps_for PassesOwn.never rfl (pi_range1 rfl T.n_range (pa_cons (pe_callB (call_lenK (K := K)) (by rfl) T.n_len (by decide +kernel) (pa_cons (pv 3) (pa_nil))) (pa_nil))) (pg_name (i := 25) sc_law.nd rfl (by first | exact Or.inl rfl | exact Or.inr rfl)) (pss_one (ps_if (pt_cmpR op_ne (pe_callB (cr_lenSK (P := P) (w := w)) (by rfl) T.n_len (by decide +kernel) (pa_cons (pe_callTy (cr_setSK (K := K) (P := P) (w := w) rfl) (by rfl) T.n_set (by decide +kernel) (pa_cons (pe_lc (own := [("_law_book", 18)]) rfl sc_law.nd (pi_listK (K := K) (pi_list (pv 15))) (blkOk_by (N := ["_law_script", "_law_d", "_law_persons", "_law_keys", "_law_doors", "_law_base", "_law_early", "_law_late", "_law_kinds", "_law_kind", "_law_more", "_law_wide", "_law_opens", "_law_plain", "_law_rows", "_law_books", "_law_moment", "_law_k", "_law_book", "_law_door", "_law_person", "_law_ranks", "_law_row", "_law_sure", "_law_maybe", "_law_name"]) (own := [("_law_book", 18)]) (sc := defScope s_law) (by decide +kernel)) (fun _ _ _ _ _ => pg_name (i := 18) sc_law.nd rfl (by first | exact Or.inl rfl | exact Or.inr rfl)) (fun _ _ _ _ _ => pts_nil) (fun _ _ _ _ _ => pe_callTy (cr_strK (K := K) hgd (Nat.lt_of_le_of_lt (Nat.add_le_add_left (by decide : 32 ≤ 64) _) hr.units)) (by rfl) T.n_str (by decide +kernel) (pa_cons (pe_meth (pv 18) T.cl_Book T.m_Book_holders G_Book_holders (hr.mono (by first | decide | omega)) T.b_Book_holders .nil pass0 (pa_cons (pv 25) (pa_cons (pv 16) (pa_nil)))) (pa_nil)))) (pa_nil))) (pa_nil))) (pe_int) (nomark _)) (pss_one (ps_ret (pe_bl))) (pss_nil)))))))) (pss_one (ps_ret (pe_bl))))))))))), ?_⟩)
  rintro (ns : List Int) ds m ⟨rfl, h63, rfl⟩ wf
  walk_at "go"
  refine ⟨rfl, ns, ⟨rfl, h63⟩, fun d m2 ⟨ed, em⟩ => ?_, fun _ _ _ h => h.elim⟩
  subst ed
  subst em
  have hm0 : ([Cell.tab T.tp__law_turn turnQ] ++ [Cell.dice] : Store)[1]? = some .dice := rfl
  walk_at "go"
  refine ⟨rfl, (1, 0, 30), ⟨rfl, hm0, rfl, by decide, by decide⟩, fun d m2 ⟨p, ks, dr, ed, hg, em⟩ => ?_, fun _ _ _ h => h.elim⟩
  subst ed
  subst em
  obtain ⟨q, rfl⟩ : ∃ q : Nat, p = (q : Int) := ⟨p.toNat, by have := hg.p0.1; omega⟩
  refine wg_tup rfl (wgs_cons (wg_name (wgs_cons (wg_name (wgs_cons (wg_name (wgs_nil ?_)))))))
  have hd2 := hg.d0
  have hp4 := hg.p0
  have hok5 : CaseOk q (ks.take 5) dr := ⟨hg.ok.p0, Nat.le_trans (by rw [List.length_take]; omega) (by decide : 5 ≤ 6), hg.ok.d0, fun k hk => hg.ok.key k (List.mem_of_mem_take hk), hg.ok.door⟩
  have hk5 : (ks.take 5).length ≤ 5 := by rw [List.length_take]; omega
  walk_at "go"
  refine wsl_list (ds := ks.map keyD) rfl ?_
  rw [cut5]
  walk_at "go"
  refine wsl_list (ds := ks.map keyD) rfl ?_
  rw [cut5]
  generalize ks.take 5 = ks at hok5 hk5 ⊢
  walk_at "go"
  refine wg_tup rfl (wgs_cons (wg_name (wgs_cons (wg_name (wgs_nil ?_)))))
  change KR.WS _ _ [some (.scr ns), some (.hd 1), some (.int q), some (.lst (ks.map keyD)), some (.lst (dr.map rowD)), some (caseD q ks dr), none, none, none, none, none, none, none, none, none, none, none, none, none, none, none, none, none, none, none, none] ([Cell.tab T.tp__law_turn turnQ] ++ [Cell.dice]) _
  walk_at "go"
  refine ⟨(1, 20), ⟨rfl, hm0, by decide, by decide⟩, fun d m2 ⟨e, l, ed, he0, hel, hl20, em⟩ => ?_, fun _ _ _ h => h.elim⟩
  subst ed
  subst em
  have hl20 : l ≤ 20 := hl20
  refine wg_tup rfl (wgs_cons (wg_name (wgs_cons (wg_name (wgs_nil ?_)))))
  refine ws_seq (ws_asg (we_cb (wa_cons (we_lcSubR (fun a => .int (a : Int)) (fun _ _ => rfl) (by decide) ?_))))
  walk_at "go"
  refine ⟨fun a m' _ hg => ?_, fun a m' _ hg => ?_, fun l' hs => ?_⟩
  · walk_at "go"
    refine (calls_next (k := 1) (n := 2) (hg _ _ hm0) (by decide) (by decide) fun u u0 u1 => ?_).2
    walk_at "go"
    rfl
  · walk_at "go"
    exact ⟨rfl, rfl⟩
  walk_at "go"
  refine wc_tupK rfl ?_
  have ho : Opens (l'.map fun a : Nat => (a : Int)) := by
    have hs : l'.Sublist (List.range 10) := hs
    refine ⟨?_, fun x hx => ?_⟩
    · rw [List.pairwise_map]
      exact (List.pairwise_lt_range.sublist hs).imp fun {a b} (h : a < b) => Int.ofNat_lt.mpr h
    · obtain ⟨a, ha, rfl⟩ := List.mem_map.mp hx
      have := List.mem_range.mp (hs.subset ha)
      omega
  have eo : D.tup (l'.map fun a : Nat => .int (a : Int)) = .tup ((l'.map fun a : Nat => (a : Int)).map .int) := by rw [List.map_map]; rfl
  rw [eo]
  generalize l'.map (fun a : Nat => (a : Int)) = os at ho ⊢
  refine wg_name ?_
  change KR.WS _ _ [some (.scr ns), some (.hd 1), some (.int q), some (.lst (ks.map keyD)), some (.lst (dr.map rowD)), some (caseD q ks dr), some (.int e), some (.int l), some (.tup (os.map .int)), none, none, none, none, none, none, none, none, none, none, none, none, none, none, none, none, none] ([Cell.tab T.tp__law_turn turnQ] ++ [Cell.dice]) _
  walk_at "go"
  refine we_lst ?_
  walk_at "go"
  refine we_lst ?_
  walk_at "go"
  refine calls_next (k := 1) (n := (q : Int)) hm0 (by omega) (by omega) fun who w0 w1 => ?_
  walk_at "go"
  refine wr_cat rfl rfl (by rw [List.length_map]; show _ + 1 ≤ _; omega) ?_
  have ed : ks.map keyD ++ [D.tup [.tup (os.map .int), .bl false, .lst [.tup [.int who, .int e, .int l]]]] = (ks ++ [(⟨os, false, [(some who, e, l)]⟩ : KeyS)]).map keyD := by rw [List.map_append]; rfl
  rw [ed]
  have hz : GoodRow (IsPerson q) 8 999 [((some who, e, l) : Ent)] := ⟨show 1 ≤ 8 by decide, fun x hx => by
    rw [List.mem_singleton.mp hx]
    exact ⟨fun y hy => by cases hy; exact ⟨w0, w1⟩, he0, hel, by show l ≤ 999; omega⟩, (stuckG_none 0 0 _).mpr fun pre x post h => by
      cases pre with
      | nil =>
        cases h
        show mx 0 e ≤ l
        unfold mx
        split <;> omega
      | cons a pre => simp at h⟩
  have hokm : CaseOk q (ks ++ [(⟨os, false, [(some who, e, l)]⟩ : KeyS)]) dr := ⟨hok5.p0, by rw [List.length_append]; show _ + 1 ≤ 6; omega, hok5.d0, fun k hk => by
    rcases List.mem_append.mp hk with h | h
    · exact hok5.key k h
    · rw [List.mem_singleton.mp h]
      exact ⟨ho, hz⟩, hok5.door⟩
  obtain ⟨z, ez⟩ : ∃ z : KeyS, z = ⟨os, false, [(some who, e, l)]⟩ := ⟨_, rfl⟩
  rw [← ez] at hokm ⊢
  clear ez hz ed
  walk_at "go"
  refine we_lstM ?_
  walk_at "go"
  refine ⟨_, _, rfl, ?_⟩
  change KR.WS _ _ [some (.scr ns), some (.hd 1), some (.int q), some (.lst (ks.map keyD)), some (.lst (dr.map rowD)), some (caseD q ks dr), some (.int e), some (.int l), some (.tup (os.map .int)), none, some (caseD q (ks ++ [z]) dr), some (.hd 2), none, none, none, none, none, none, none, none, none, none, none, none, none, none] [Cell.tab T.tp__law_turn turnQ, Cell.dice, Cell.lst []] _
  refine ws_seq (ws_forL (f := keyD) ?_)
  walk_at "go"
  refine ⟨fun pre ρ' m' => ∃ ls : List KeyS, PySem.Paired WideK pre ls ∧ (∀ k ∈ ls, Opens k.opens) ∧ m' = [Cell.tab T.tp__law_turn turnQ, Cell.dice, Cell.lst (ls.map keyD)] ∧ ∃ x9 x12 x13 x14 x15 x16 x17 x18 x19 x20 x21 x22 x23 x24 x25, ρ' = [some (.scr ns), some (.hd 1), some (.int q), some (.lst (ks.map keyD)), some (.lst (dr.map rowD)), some (caseD q ks dr), some (.int e), some (.int l), some (.tup (os.map .int)), x9, some (caseD q (ks ++ [z]) dr), some (.hd 2), x12, x13, x14, x15, x16, x17, x18, x19, x20, x21, x22, x23, x24, x25], ⟨[], .nil, fun _ h => (by cases h), rfl, _, _, _, _, _, _, _, _, _, _, _, _, _, _, _, rfl⟩, ?_, ?_⟩
  · rintro pre key post ρ' m' eks ⟨ls, hP, hlo, rfl, x9, x12, x13, x14, x15, x16, x17, x18, x19, x20, x21, x22, x23, x24, x25, rfl⟩
    have hkey := hok5.key key (by rw [eks]; simp)
    have hpl : pre.length < 5 := by
      have := congrArg List.length eks
      rw [List.length_append, List.length_cons] at this
      omega
    have hll : ls.length = pre.length := wide_len hP
    refine wg_tup rfl ?_
    walk_at "go"
    refine we_lcSupR (fun a => .int (a : Int)) (fun a => decide ((a : Int) ∈ key.opens)) (fun _ _ => rfl) (by decide) ?_
    walk_at "go"
    refine ⟨fun a m' _ hg => ?_, fun a m' _ hg => ?_, fun l' hs hmu => ?_⟩
    · walk_at "go"
      refine wr_in (neg := false) (a := .int (a : Int)) (us := key.opens.map V.int) rfl rfl (by rw [List.map_map, List.map_map]; rfl) ?_
      rw [if_neg (by decide), in_int]
      refine ⟨_, rfl, fun hb => ?_, fun hb => ?_⟩
      · exact ⟨rfl, fun _ => rfl⟩
      walk_at "go"
      refine (calls_next (k := 1) (n := 4) (hg 1 _ rfl) (by decide) (by decide) fun u u0 u1 => ?_).2
      walk_at "go"
      exact ⟨rfl, fun h => by rw [hb] at h; cases h⟩
    · walk_at "go"
      exact ⟨rfl, rfl⟩
    walk_at "go"
    refine wc_tupK rfl ?_
    have ho2 : Opens (l'.map fun a : Nat => (a : Int)) := by
      have hs : l'.Sublist (List.range 10) := hs
      refine ⟨?_, fun x hx => ?_⟩
      · rw [List.pairwise_map]
        exact (List.pairwise_lt_range.sublist hs).imp fun {a b} (h : a < b) => Int.ofNat_lt.mpr h
      · obtain ⟨a, ha, rfl⟩ := List.mem_map.mp hx
        have := List.mem_range.mp (hs.subset ha)
        omega
    have hin : ∀ x ∈ key.opens, x ∈ (l'.map fun a : Nat => (a : Int)) := fun x hx => by
      have hb := hkey.1.2 x hx
      obtain ⟨a, rfl⟩ : ∃ a : Nat, x = (a : Int) := ⟨x.toNat, by omega⟩
      exact List.mem_map.mpr ⟨a, hmu a (by show a < 10; omega) (decide_eq_true hx), rfl⟩
    have eo2 : D.tup (l'.map fun a : Nat => .int (a : Int)) = .tup ((l'.map fun a : Nat => (a : Int)).map .int) := by rw [List.map_map]; rfl
    rw [eo2]
    generalize l'.map (fun a : Nat => (a : Int)) = os2 at ho2 hin ⊢
    walk_at "go"
    refine wm_append rfl (by rw [List.length_map]; omega) ?_
    refine ⟨ls ++ [⟨os2, key.plain, key.row⟩], paired_snoc ⟨rfl, rfl, hin⟩ hP, fun k hk => ?_, ?_, _, _, _, _, _, _, _, _, _, _, _, _, _, _, _, rfl⟩
    · rcases List.mem_append.mp hk with h | h
      · exact hlo k h
      · rw [List.mem_singleton.mp h]
        exact ho2
    · rw [List.map_append]
      rfl
  rintro ρ' m' ⟨ls, hP, hlo, rfl, x9, x12, x13, x14, x15, x16, x17, x18, x19, x20, x21, x22, x23, x24, x25, rfl⟩
  refine ws_freeze (i := 11) (k := 2) rfl rfl ?_
  have hlen := wide_len hP
  have hokw : CaseOk q ls dr := ⟨hok5.p0, by rw [hlen]; omega, hok5.d0, fun k hk => by
    obtain ⟨k0, h0, hw⟩ := wide_back hP k hk
    exact ⟨hlo k hk, by rw [hw.1]; exact (hok5.key k0 h0).2⟩, hok5.door⟩
  refine ws_seq (ws_asg (we_lst ?_))
  walk_at "go"
  refine ⟨rfl, (q, ks, dr), ⟨rfl, hok5⟩, fun d m2 ⟨ed, em⟩ => ?_, fun _ _ _ h => h.elim⟩
  subst ed
  subst em
  dsimp only
  walk_at "go"
  refine ⟨rfl, (q, ks ++ [z], dr), ⟨rfl, hokm⟩, fun d m2 ⟨ed, em⟩ => ?_, fun _ _ _ h => h.elim⟩
  subst ed
  subst em
  dsimp only
  walk_at "go"
  refine ⟨rfl, (q, ls, dr), ⟨rfl, hokw⟩, fun d m2 ⟨ed, em⟩ => ?_, fun _ _ _ h => h.elim⟩
  subst ed
  subst em
  dsimp only
  walk_at "go"
  change KR.WS _ _ [some (.scr ns), some (.hd 1), some (.int q), some (.lst (ks.map keyD)), some (.lst (dr.map rowD)), some (caseD q ks dr), some (.int e), some (.int l), some (.tup (os.map .int)), _, some (caseD q (ks ++ [z]) dr), some (.lst (ls.map keyD)), _, _, _, some (.lst [bookD T.C_Book q 3, bookD T.C_Book q 7, bookD T.C_Book q 11]), _, _, _, _, _, _, _, _, _, _] (withBk (withBk (withBk ([Cell.tab T.tp__law_turn turnQ, Cell.dice, Cell.lst (ls.map keyD)].set 2 Cell.dead) (bookOf q ks dr)) (bookOf q (ks ++ [z]) dr)) (bookOf q ls dr)) _
  have hB0 : HasBk (withBk (withBk (withBk ([Cell.tab T.tp__law_turn turnQ, Cell.dice, Cell.lst (ls.map keyD)].set 2 Cell.dead) (bookOf q ks dr)) (bookOf q (ks ++ [z]) dr)) (bookOf q ls dr)) 3 (bookOf q ks dr) := (show HasBk ((withBk ([Cell.tab T.tp__law_turn turnQ, Cell.dice, Cell.lst (ls.map keyD)].set 2 Cell.dead) (bookOf q ks dr) ++ _) ++ _) 3 (bookOf q ks dr) from HasBk.app (HasBk.app ⟨isBk_with _ _, hok5.bk⟩))
  have hB1 : HasBk (withBk (withBk (withBk ([Cell.tab T.tp__law_turn turnQ, Cell.dice, Cell.lst (ls.map keyD)].set 2 Cell.dead) (bookOf q ks dr)) (bookOf q (ks ++ [z]) dr)) (bookOf q ls dr)) 7 (bookOf q (ks ++ [z]) dr) := (show HasBk (withBk (withBk ([Cell.tab T.tp__law_turn turnQ, Cell.dice, Cell.lst (ls.map keyD)].set 2 Cell.dead) (bookOf q ks dr)) (bookOf q (ks ++ [z]) dr) ++ _) 7 (bookOf q (ks ++ [z]) dr) from HasBk.app ⟨isBk_with _ _, hokm.bk⟩)
  have hB2 : HasBk (withBk (withBk (withBk ([Cell.tab T.tp__law_turn turnQ, Cell.dice, Cell.lst (ls.map keyD)].set 2 Cell.dead) (bookOf q ks dr)) (bookOf q (ks ++ [z]) dr)) (bookOf q ls dr)) 11 (bookOf q ls dr) := ⟨isBk_with _ _, hokw.bk⟩
  have hD : (withBk (withBk (withBk ([Cell.tab T.tp__law_turn turnQ, Cell.dice, Cell.lst (ls.map keyD)].set 2 Cell.dead) (bookOf q ks dr)) (bookOf q (ks ++ [z]) dr)) (bookOf q ls dr))[1]? = some .dice := rfl
  have h0 : (withBk (withBk (withBk ([Cell.tab T.tp__law_turn turnQ, Cell.dice, Cell.lst (ls.map keyD)].set 2 Cell.dead) (bookOf q ks dr)) (bookOf q (ks ++ [z]) dr)) (bookOf q ls dr))[0]? = some (.tab T.tp__law_turn turnQ) := rfl
  generalize withBk (withBk (withBk ([Cell.tab T.tp__law_turn turnQ, Cell.dice, Cell.lst (ls.map keyD)].set 2 Cell.dead) (bookOf q ks dr)) (bookOf q (ks ++ [z]) dr)) (bookOf q ls dr) = M2 at hB0 hB1 hB2 hD h0 ⊢
  obtain ⟨L3, hL3⟩ : ∃ L : List (Nat × List KeyS), L = [(3, ks), (7, ks ++ [z]), (11, ls)] := ⟨_, rfl⟩
  have hLb : [bookD T.C_Book q 3, bookD T.C_Book q 7, bookD T.C_Book q 11] = L3.map fun x => bookD T.C_Book q x.1 := by rw [hL3]; rfl
  have hLl : L3.length = 3 := by rw [hL3]; rfl
  have hLo : ∀ x ∈ L3, HasBk M2 x.1 (bookOf q x.2 dr) ∧ CaseOk q x.2 dr ∧ ∀ n, n < ks.length → n < x.2.length ∧ rowAt (bookOf q x.2 dr).keys n = (ks.getD n ⟨[], false, []⟩).row := fun x hx => by
    rw [hL3] at hx
    rcases List.mem_cons.mp hx with rfl | hx
    · refine ⟨hB0, hok5, fun n hn => ⟨hn, ?_⟩⟩
      rw [key_row hn, List.getD_eq_getElem?_getD, List.getElem?_eq_getElem hn]
      rfl
    rcases List.mem_cons.mp hx with rfl | hx
    · refine ⟨hB1, hokm, fun n hn => ⟨by show n < (ks ++ [z]).length; rw [List.length_append]; omega, ?_⟩⟩
      rw [key_row (by show n < (ks ++ [z]).length; rw [List.length_append]; omega), List.getElem_append_left hn, List.getD_eq_getElem?_getD, List.getElem?_eq_getElem hn]
      rfl
    · rw [List.mem_singleton.mp hx]
      refine ⟨hB2, hokw, fun n hn => ⟨by show n < ls.length; omega, ?_⟩⟩
      rw [key_row (by show n < ls.length; omega), wide_row hP hn, List.getD_eq_getElem?_getD, List.getElem?_eq_getElem hn]
      rfl
  have hPr : ∀ n, n < ks.length → ∀ x ∈ (ks.getD n ⟨[], false, []⟩).row, IsPerson (q : Int) x.1 := fun n hn x hx => by
    rw [List.getD_eq_getElem?_getD, List.getElem?_eq_getElem hn] at hx
    exact ((hok5.key _ (List.getElem_mem hn)).2.ent x hx).1
  have hq4 : q ≤ 4 := by omega
  refine ws_seq (ws_forL (f := D.int) (we_lcAll (v := D.int) (R := fun t => 0 ≤ t ∧ t < 24) (fun _ _ => rfl) (by decide) ?_))
  walk_at "go"
  refine ⟨fun a m' ha hgr => ?_, fun ts htl hts => ⟨ts, rfl, fun pre ρ' m' => M2 = m' ∧ ∃ x9 x12 x13 x14 x16 x17 x18 x19 x20 x21 x22 x23 x24 x25, ρ' = [some (.scr ns), some (.hd 1), some (.int q), some (.lst (ks.map keyD)), some (.lst (dr.map rowD)), some (caseD q ks dr), some (.int e), some (.int l), some (.tup (os.map .int)), x9, some (caseD q (ks ++ [z]) dr), some (.lst (ls.map keyD)), x12, x13, x14, some (.lst [bookD T.C_Book q 3, bookD T.C_Book q 7, bookD T.C_Book q 11]), x16, x17, x18, x19, x20, x21, x22, x23, x24, x25], ⟨rfl, _, _, _, _, _, _, _, _, _, _, _, _, _, _, rfl⟩, ?_, ?_⟩⟩
  · walk_at "go"
    refine (calls_next (k := 1) (n := 24) (hgr _ _ hD) (by decide) (by decide) fun t t0 t1 => ?_).2
    exact ⟨rfl, t, rfl, t0, t1⟩
  · rintro pre t post ρ' m' et ⟨rfl, x9, x12, x13, x14, x16, x17, x18, x19, x20, x21, x22, x23, x24, x25, rfl⟩
    have ht : 0 ≤ t ∧ t < 24 := hts t (by rw [et]; simp)
    refine wg_name ?_
    change KR.WS _ _ [some (.scr ns), some (.hd 1), some (.int q), some (.lst (ks.map keyD)), some (.lst (dr.map rowD)), some (caseD q ks dr), some (.int e), some (.int l), some (.tup (os.map .int)), x9, some (caseD q (ks ++ [z]) dr), some (.lst (ls.map keyD)), x12, x13, x14, some (.lst [bookD T.C_Book q 3, bookD T.C_Book q 7, bookD T.C_Book q 11]), some (.int t), x17, x18, x19, x20, x21, x22, x23, x24, x25] _ _
    walk_at "go"
    refine we_lcP (α := Nat × List KeyS) (f := fun x => bookD T.C_Book q x.1) (by decide) ?_
    rw [hLb]
    walk_at "go"
    refine ⟨L3, fun _ => true, fun x => wordsD q dr t (bookOf q x.2 dr), rfl, by omega, fun a m3 _ _ => wt_yes ⟨rfl, rfl⟩, fun x m3 hx hg3 _ => ?_, ?_⟩
    · walk_at "go"
      refine ⟨rfl, ⟨x.1, bookOf q x.2 dr, q, ks, dr, t⟩, ⟨rfl, (hLo x hx).1.grow hg3, rfl, rfl, by dsimp only; omega, by dsimp only; omega, by dsimp only; omega⟩, fun d m4 ⟨ed, em⟩ => ⟨em, ed, by rw [ed]; exact words_hb⟩, fun _ _ _ h => h.elim⟩
    rw [filt_true, ← hLb]
    refine wg_name ?_
    change KR.WS _ _ [some (.scr ns), some (.hd 1), some (.int q), some (.lst (ks.map keyD)), some (.lst (dr.map rowD)), some (caseD q ks dr), some (.int e), some (.int l), some (.tup (os.map .int)), x9, some (caseD q (ks ++ [z]) dr), some (.lst (ls.map keyD)), x12, x13, some (.lst (L3.map fun x => wordsD q dr t (bookOf q x.2 dr))), some (.lst [bookD T.C_Book q 3, bookD T.C_Book q 7, bookD T.C_Book q 11]), some (.int t), x17, x18, x19, x20, x21, x22, x23, x24, x25] _ _
    refine ws_seq (ws_forN ?_)
    walk_at "go"
    rw [List.length_map]
    refine ⟨by omega, fun i ρ' m' => M2 = m' ∧ ∃ x9 x12 x13 x17 x18 x19 x20 x21 x22 x23 x24 x25, ρ' = [some (.scr ns), some (.hd 1), some (.int q), some (.lst (ks.map keyD)), some (.lst (dr.map rowD)), some (caseD q ks dr), some (.int e), some (.int l), some (.tup (os.map .int)), x9, some (caseD q (ks ++ [z]) dr), some (.lst (ls.map keyD)), x12, x13, some (.lst (L3.map fun x => wordsD q dr t (bookOf q x.2 dr))), some (.lst [bookD T.C_Book q 3, bookD T.C_Book q 7, bookD T.C_Book q 11]), some (.int t), x17, x18, x19, x20, x21, x22, x23, x24, x25], ⟨rfl, _, _, _, _, _, _, _, _, _, _, _, _, rfl⟩, ?_, ?_⟩
    · rintro door ρ' m' hdoor ⟨rfl, x9, x12, x13, x17, x18, x19, x20, x21, x22, x23, x24, x25, rfl⟩
      have hrow := hok5.door _ (rowAt_mem hdoor)
      have hf := hrow.rk (Int.le_refl _)
      refine wg_name ?_
      change KR.WS _ _ [some (.scr ns), some (.hd 1), some (.int q), some (.lst (ks.map keyD)), some (.lst (dr.map rowD)), some (caseD q ks dr), some (.int e), some (.int l), some (.tup (os.map .int)), x9, some (caseD q (ks ++ [z]) dr), some (.lst (ls.map keyD)), x12, x13, some (.lst (L3.map fun x => wordsD q dr t (bookOf q x.2 dr))), some (.lst [bookD T.C_Book q 3, bookD T.C_Book q 7, bookD T.C_Book q 11]), some (.int t), x17, x18, some (.int (door : Int)), x20, x21, x22, x23, x24, x25] _ _
      refine ws_seq (ws_forN ?_)
      walk_at "go"
      refine ⟨by omega, fun i ρ' m' => M2 = m' ∧ ∃ x9 x12 x13 x17 x18 x20 x21 x22 x23 x24 x25, ρ' = [some (.scr ns), some (.hd 1), some (.int q), some (.lst (ks.map keyD)), some (.lst (dr.map rowD)), some (caseD q ks dr), some (.int e), some (.int l), some (.tup (os.map .int)), x9, some (caseD q (ks ++ [z]) dr), some (.lst (ls.map keyD)), x12, x13, some (.lst (L3.map fun x => wordsD q dr t (bookOf q x.2 dr))), some (.lst [bookD T.C_Book q 3, bookD T.C_Book q 7, bookD T.C_Book q 11]), some (.int t), x17, x18, some (.int (door : Int)), x20, x21, x22, x23, x24, x25], ⟨rfl, _, _, _, _, _, _, _, _, _, _, _, rfl⟩, ?_, ?_⟩
      · rintro who ρ' m' hwho ⟨rfl, x9, x12, x13, x17, x18, x20, x21, x22, x23, x24, x25, rfl⟩
        refine wg_name ?_
        change KR.WS _ _ [some (.scr ns), some (.hd 1), some (.int q), some (.lst (ks.map keyD)), some (.lst (dr.map rowD)), some (caseD q ks dr), some (.int e), some (.int l), some (.tup (os.map .int)), x9, some (caseD q (ks ++ [z]) dr), some (.lst (ls.map keyD)), x12, x13, some (.lst (L3.map fun x => wordsD q dr t (bookOf q x.2 dr))), some (.lst [bookD T.C_Book q 3, bookD T.C_Book q 7, bookD T.C_Book q 11]), some (.int t), x17, x18, some (.int (door : Int)), some (.int (who : Int)), x21, x22, x23, x24, x25] _ _
        walk_at "go"
        refine we_lcP (α := Nat × List KeyS) (f := fun x => wordsD q dr t (bookOf q x.2 dr)) (by decide) ?_
        walk_at "go"
        refine ⟨L3, fun _ => true, fun x => .int (rankN (couldW (rowAt dr door) (who : Int) t (x.2.map KeyS.kw)) : Nat), rfl, by omega, fun a m3 _ _ => wt_yes ⟨rfl, rfl⟩, fun x m3 hx hg3 _ => ?_, ?_⟩
        · walk_at "go"
          refine we_lst ?_
          walk_at "go"
          refine wr_words hdoor ?_
          walk_at "go"
          refine wr_word hwho ?_
          rw [book_ks]
          walk_at "go"
          refine wm_indexF (us := [.str "no", .str "maybe", .str "surely"]) rfl rfl rfl (rank_find (could_cases _ _ _ _)) ?_
          exact ⟨rfl, rfl, rfl⟩
        rw [filt_true]
        have hr3 : ∃ a b c : Nat, a ≤ b ∧ a ≤ c ∧ L3.map (fun x => D.int ((rankN (couldW (rowAt dr door) (who : Int) t (x.2.map KeyS.kw)) : Nat) : Int)) = ([(a : Int), (b : Int), (c : Int)].map D.int) := by
          refine ⟨_, _, _, more_rank (who := (who : Int)) (ks := ks.map KeyS.kw) (ks' := (ks ++ [z]).map KeyS.kw) ?_ hf (rk_all hok5) (rk_all hokm) ht.1 (by omega), more_rank (who := (who : Int)) (ks := ks.map KeyS.kw) (ks' := ls.map KeyS.kw) (wide_keys hP) hf (rk_all hok5) (rk_all hokw) ht.1 (by omega), ?_⟩
          · rw [List.map_append]
            exact more_key
          · rw [hL3]
            rfl
        obtain ⟨a, b, c, hab, hac, er⟩ := hr3
        rw [er]
        walk_at "go"
        refine ⟨fun h => ?_, fun _ => ?_⟩
        · exact absurd (of_decide_eq_true h) (by omega)
        walk_at "go"
        refine ⟨fun h => ?_, fun _ => ?_⟩
        · exact absurd (of_decide_eq_true h) (by omega)
        walk_at "go"
        exact ⟨rfl, _, _, _, _, _, _, _, _, _, _, _, rfl⟩
      rintro ρ' m' ⟨rfl, x9, x12, x13, x17, x18, x20, x21, x22, x23, x24, x25, rfl⟩
      refine ws_seq (ws_asg (we_wf fun wf4 => we_trm (we_subs ?_)))
      walk_at "go"
      refine openers_data wf4 (B := bookOf q ks dr) hB0 hdoor ⟨ht.1, by omega⟩ ?_
      refine wg_tup rfl (wgs_cons (wg_name (wgs_cons (wg_name (wgs_nil ?_)))))
      change KR.WS _ _ [some (.scr ns), some (.hd 1), some (.int q), some (.lst (ks.map keyD)), some (.lst (dr.map rowD)), some (caseD q ks dr), some (.int e), some (.int l), some (.tup (os.map .int)), x9, some (caseD q (ks ++ [z]) dr), some (.lst (ls.map keyD)), x12, x13, some (.lst (L3.map fun x => wordsD q dr t (bookOf q x.2 dr))), some (.lst [bookD T.C_Book q 3, bookD T.C_Book q 7, bookD T.C_Book q 11]), some (.int t), x17, x18, some (.int (door : Int)), x20, x21, x22, some (.lst ((wordL (rowAt dr door) (q : Int) t (bookOf q ks dr).ks "surely").map .int)), some (.lst ((wordL (rowAt dr door) (q : Int) t (bookOf q ks dr).ks "maybe").map .int)), x25] _ _
      have hS1 := wordL_pw (rowAt dr door) (q : Int) t (bookOf q ks dr).ks "surely"
      have hY1 := wordL_pw (rowAt dr door) (q : Int) t (bookOf q ks dr).ks "maybe"
      have hS2 := wordL_len (rowAt dr door) (q : Int) t (bookOf q ks dr).ks "surely"
      have hY2 := wordL_len (rowAt dr door) (q : Int) t (bookOf q ks dr).ks "maybe"
      have hSY := wordL_apart (rowAt dr door) (q : Int) t (bookOf q ks dr).ks
      generalize wordL (rowAt dr door) (q : Int) t (bookOf q ks dr).ks "surely" = S at hS1 hS2 hSY ⊢
      generalize wordL (rowAt dr door) (q : Int) t (bookOf q ks dr).ks "maybe" = Y at hY1 hY2 hSY ⊢
      refine ws_seq (ws_if (wt_test (we_op (we_lcP (α := Int) (f := D.int) (by decide) ?_))))
      walk_at "go"
      refine ⟨S, fun x => decide (x ∈ Y), fun x => .int x, rfl, by omega, fun a m3 _ _ => ?_, fun x m3 hx hg3 _ => ?_, ?_⟩
      · walk_at "go"
        refine wr_in (neg := false) (a := .int a) (us := Y.map V.int) rfl rfl (by rw [List.map_map, List.map_map]; rfl) ?_
        rw [if_neg (by decide), in_int]
        exact ⟨_, rfl, rfl, rfl⟩
      · walk_at "go"
        exact ⟨rfl, rfl, rfl⟩
      rw [hSY]
      walk_at "go"
      refine we_lst ?_
      walk_at "go"
      refine wr_neS (.lst (.nil 1)) (.lst (.nil 1)) ?_
      refine ⟨false, rfl, fun h => (by cases h), fun _ => ws_next ?_⟩
      refine ws_seq (ws_if (wt_test (we_op ?_)))
      walk_at "go"
      refine wc_sorted (ns := S) rfl (by omega) ?_
      rw [sortI_id hS1]
      refine wr_neS ints_py ints_py ?_
      refine ⟨false, rfl, fun h => (by cases h), fun _ => ws_next ?_⟩
      refine ws_if (wt_test (we_op ?_))
      walk_at "go"
      refine wc_sorted (ns := Y) rfl (by omega) ?_
      rw [sortI_id hY1]
      refine wr_neS ints_py ints_py ?_
      refine ⟨false, rfl, fun h => (by cases h), fun _ => ws_next ?_⟩
      exact ⟨rfl, _, _, _, _, _, _, _, _, _, _, _, _, rfl⟩
    rintro ρ' m' ⟨rfl, x9, x12, x13, x17, x18, x19, x20, x21, x22, x23, x24, x25, rfl⟩
    refine ws_forN ?_
    walk_at "go"
    rw [List.length_map]
    refine ⟨by omega, fun i ρ' m' => M2 = m' ∧ ∃ x9 x12 x13 x17 x18 x19 x20 x21 x22 x23 x24 x25, ρ' = [some (.scr ns), some (.hd 1), some (.int q), some (.lst (ks.map keyD)), some (.lst (dr.map rowD)), some (caseD q ks dr), some (.int e), some (.int l), some (.tup (os.map .int)), x9, some (caseD q (ks ++ [z]) dr), some (.lst (ls.map keyD)), x12, x13, some (.lst (L3.map fun x => wordsD q dr t (bookOf q x.2 dr))), some (.lst [bookD T.C_Book q 3, bookD T.C_Book q 7, bookD T.C_Book q 11]), some (.int t), x17, x18, x19, x20, x21, x22, x23, x24, x25], ⟨rfl, _, _, _, _, _, _, _, _, _, _, _, _, rfl⟩, ?_, ?_⟩
    · rintro n ρ' m' hn ⟨rfl, x9, x12, x13, x17, x18, x19, x20, x21, x22, x23, x24, x25, rfl⟩
      refine wg_name ?_
      change KR.WS _ _ [some (.scr ns), some (.hd 1), some (.int q), some (.lst (ks.map keyD)), some (.lst (dr.map rowD)), some (caseD q ks dr), some (.int e), some (.int l), some (.tup (os.map .int)), x9, some (caseD q (ks ++ [z]) dr), some (.lst (ls.map keyD)), x12, x13, some (.lst (L3.map fun x => wordsD q dr t (bookOf q x.2 dr))), some (.lst [bookD T.C_Book q 3, bookD T.C_Book q 7, bookD T.C_Book q 11]), some (.int t), x17, x18, x19, x20, x21, x22, x23, x24, some (.int (n : Int))] _ _
      have hsm := hold_small (t := t) hq4 (hPr n hn)
      refine ws_if (wt_test (we_op (we_lenSetS ?_)))
      refine we_lcP (α := Nat × List KeyS) (f := fun x => bookD T.C_Book q x.1) (by decide) ?_
      rw [hLb]
      walk_at "go"
      refine ⟨L3, fun _ => true, fun _ => .str (pairPy (holdF (q : Int) (toldF (ks.getD n ⟨[], false, []⟩).row t))).shown, rfl, by omega, fun a m3 _ _ => wt_yes ⟨rfl, rfl⟩, fun x m3 hx hg3 _ => ?_, ?_⟩
      · refine we_cb (wa_cons (we_wf fun wf1 => we_trm (we_sub (we_meth ?_))))
        walk_at "go"
        refine ⟨_, _, rfl, by decide, ?_⟩
        walk_at "go"
        refine holders_data wf1 (B := bookOf q x.2 dr) ((hLo x hx).1.grow hg3) (by show n < (List.map _ _).length; rw [List.length_map]; exact ((hLo x hx).2.2 n hn).1) ⟨ht.1, by omega⟩ ?_
        rw [((hLo x hx).2.2 n hn).2]
        walk_at "go"
        refine wc_strT (pair_pyI _) (.inl ⟨_, rfl⟩) (by decide) hsm.1 hsm.2.1 hsm.2.2 ?_
        exact ⟨rfl, rfl, rfl⟩
      rw [filt_true]
      refine ⟨_, L3.map fun _ => (pairPy (holdF (q : Int) (toldF (ks.getD n ⟨[], false, []⟩).row t))).shown, rfl, by rw [List.map_map, List.map_map, List.map_map]; rfl, by rw [List.length_map]; omega, ?_⟩
      rw [cntG_one (a := (pairPy (holdF (q : Int) (toldF (ks.getD n ⟨[], false, []⟩).row t))).shown) (fun x hx => by
        obtain ⟨y, _, rfl⟩ := List.mem_map.mp hx
        rfl) (by rw [List.length_map]; omega), show ((1 : Nat) : Int) = 1 from rfl]
      walk_at "go"
      exact ⟨rfl, _, _, _, _, _, _, _, _, _, _, _, _, rfl⟩
    · rintro ρ' m' ⟨rfl, x9, x12, x13, x17, x18, x19, x20, x21, x22, x23, x24, x25, rfl⟩
      exact ⟨rfl, _, _, _, _, _, _, _, _, _, _, _, _, _, _, rfl⟩
  · rintro ρ' m' ⟨rfl, x9, x12, x13, x14, x16, x17, x18, x19, x20, x21, x22, x23, x24, x25, rfl⟩
    have hm' := take_same (m := [Cell.tab T.tp__law_turn turnQ]) (m' := M2) (Nat.succ_le_of_lt (List.getElem?_eq_some_iff.mp h0).1) fun j hj => by
      have : j = 0 := Nat.lt_one_iff.mp hj
      subst this
      exact h0
    refine (ws_next ?_ : KR.WS _ _ _ _ _)
    refine (ws_ret (we_bl ?_) : KR.WS _ _ _ _ _)
    rw [hm']
    exact fin_trim wf rfl rfl

theorem ok_law (T : Tx K mg) (TB : LamX.TabB base mg T.co__law_turn T.tp__law_turn) : RunAt P w K mg base CX0 T.a_law T.f_law ["_law_script"] (spLawT K T.tp__law_turn) callerA :=
  fun outer s H args us vs Q E a b c h => ok_law1 (P := P) (w := w) (base := base) T TB outer s H args us vs Q E a b c (law_convT h)

end
theorem all {l : PySem.W.OpenLaw} {w : World} {K : PySem.W.Frag} {mg : Str → Option Value} {fa : Addr} (hfa : mg "law" = some (.ref fa)) (T : ∃ T : Tx K mg, mg "law" = some (.ref T.a_law)) :
    ∃ c P : Addr, PySem.W.tabIn K "_law_turn" = some (c, P) ∧ K.lookup P = none ∧ ∃ fd : FuncData, (∀ (s : Shared) (v : Value), BindsTo s fd ⟨[v], []⟩ [("_law_script", v)]) ∧ ∀ base : Heap, K.In base → base.Ns mainGlobals mg → LamX.TabB base mg c P → RunAt l.prog w K mg base CX0 fa fd ["_law_script"] (spLawT K P) callerA := by
  obtain ⟨T, e⟩ := T
  rw [hfa] at e
  cases e
  refine ⟨T.co__law_turn, T.tp__law_turn, T.tb__law_turn, T.nt__law_turn, T.f_law, fun s v => ?_, fun base _ _ TB => ok_law T TB⟩
  obtain ⟨oc, od, kV, doc, pm, an, cdv, ct, osl, e, _⟩ := T.F_law.ex
  rw [e]
  exact .of_eq rfl
end KX
open PySem PySem.W PyProof.Rows
set_option maxRecDepth 100000 in
set_option maxHeartbeats 0 in
theorem PySem.Challenge.cw_keyroll_k37_whole_more_keys_open_more_holds : PySem.Challenge.rw_keyroll_k37_whole_more_keys_open_more.Holds := by
  w_on; o_law; k_head; (case hw => w_witness2)
  k_fill
  refine _root_.KR.walk_at (l := PySem.Challenge.rw_keyroll_k37_whole_more_keys_open_more) (x := "_law_turn") rfl rfl (fun w h Y => PySem.W.km_in_of Y) rfl ?F
  case F =>
    intro w mg fa h KY G hmg
    refine _root_.KX.all hmg ?_
    refine' _root_.KX.mkTx KY G ?c_Book ?pg_Book ?hd_Book ?po_Book ?sa_Book ?mk_Book ?kc_Book ?na_Book__cuts ?na_Book__door_rows ?na_Book__key_rows ?na_Book__persons ?c_BadBook ?c_BadKey ?c_BadPlace ?c_BadTimes ?c_KeyrollError ?c_NoMoment ?c_NoOne ?sp_KeyrollError ?ty_KeyrollError ?tb_KeyrollError ?rd_KeyrollError ?vi_KeyrollError ?sb_KeyrollError ?hd_KeyrollError ?og ?ot ?kc_BadPlace ?sb_BadPlace ?ty_BadPlace ?su_BadPlace ?ga_BadPlace ?gg_BadPlace ?hd_BadPlace ?oc_BadPlace ?mo_BadPlace ?kt_BadPlace_BadBook ?kt_BadPlace_BadKey ?kt_BadPlace_NoOne ?kt_BadPlace_BadPlace ?kt_BadPlace_BadTimes ?kt_BadPlace_NoMoment ?kv_BadPlace ?x_BadPlace ?kc_BadTimes ?sb_BadTimes ?ty_BadTimes ?su_BadTimes ?ga_BadTimes ?gg_BadTimes ?hd_BadTimes ?oc_BadTimes ?mo_BadTimes ?kt_BadTimes_BadBook ?kt_BadTimes_BadKey ?kt_BadTimes_NoOne ?kt_BadTimes_BadPlace ?kt_BadTimes_BadTimes ?kt_BadTimes_NoMoment ?kv_BadTimes ?lk_BadTimes ?rv_BadTimes ?sa_BadTimes ?i_BadTimes ?ti_BadTimes ?nf_BadTimes ?tb__law_turn ?nt__law_turn ?k_BadTimes_init ?l_BadTimes_init ?cc_BadTimes_init ?g_check_moment ?l_check_moment ?cc_check_moment ?k_check_moment ?g_check_place ?l_check_place ?cc_check_place ?k_check_place ?g_soonest ?l_soonest ?cc_soonest ?k_soonest ?g_latest ?l_latest ?cc_latest ?k_latest ?g_first_stuck ?l_first_stuck ?cc_first_stuck ?k_first_stuck ?g_row_with ?l_row_with ?cc_row_with ?k_row_with ?g_spans ?l_spans ?cc_spans ?k_spans ?g_standing ?l_standing ?cc_standing ?k_standing ?g_moments_by ?l_moments_by ?cc_moments_by ?k_moments_by ?g_in_force ?l_in_force ?cc_in_force ?k_in_force ?g_told ?l_told ?cc_told ?k_told ?g_place_had ?l_place_had ?cc_place_had ?k_place_had ?g_place_opened ?l_place_opened ?cc_place_opened ?k_place_opened ?g_shown ?l_shown ?cc_shown ?k_shown ?g_moments_without ?l_moments_without ?cc_moments_without ?k_moments_without ?g_moments_against ?l_moments_against ?cc_moments_against ?k_moments_against ?g_denied ?l_denied ?cc_denied ?k_denied ?g_could ?l_could ?cc_could ?k_could ?g_openers ?l_openers ?cc_openers ?k_openers ?g_are_kinds ?l_are_kinds ?cc_are_kinds ?k_are_kinds ?m_Book_init ?i_Book_init ?l_Book_init ?cc_Book_init ?k_Book_init ?m_Book_cut ?i_Book_cut ?l_Book_cut ?cc_Book_cut ?k_Book_cut ?m_Book_hand ?i_Book_hand ?l_Book_hand ?cc_Book_hand ?k_Book_hand ?m_Book_fit ?i_Book_fit ?l_Book_fit ?cc_Book_fit ?k_Book_fit ?m_Book_entries ?i_Book_entries ?l_Book_entries ?cc_Book_entries ?k_Book_entries ?m_Book_fitted ?i_Book_fitted ?l_Book_fitted ?cc_Book_fitted ?k_Book_fitted ?m_Book_holders ?i_Book_holders ?l_Book_holders ?cc_Book_holders ?k_Book_holders ?m_Book_locks ?i_Book_locks ?l_Book_locks ?cc_Book_locks ?k_Book_locks ?m_Book_everybody ?i_Book_everybody ?l_Book_everybody ?cc_Book_everybody ?k_Book_everybody ?m_Book_cuts ?i_Book_cuts ?l_Book_cuts ?cc_Book_cuts ?k_Book_cuts ?m_Book_check_person ?i_Book_check_person ?l_Book_check_person ?cc_Book_check_person ?k_Book_check_person ?m_Book__key_row ?i_Book__key_row ?l_Book__key_row ?cc_Book__key_row ?k_Book__key_row ?m_Book__door_row ?i_Book__door_row ?l_Book__door_row ?cc_Book__door_row ?k_Book__door_row ?g__law_dice ?l__law_dice ?cc__law_dice ?k__law_dice ?g__law_next ?l__law_next ?cc__law_next ?k__law_next ?g__law_window ?l__law_window ?cc__law_window ?k__law_window ?g__law_fits ?l__law_fits ?cc__law_fits ?k__law_fits ?g__law_turn ?l__law_turn ?cc__law_turn ?k__law_turn ?g__law_story ?l__law_story ?cc__law_story ?k__law_story ?g__law_written ?l__law_written ?cc__law_written ?k__law_written ?g__law_words ?l__law_words ?cc__law_words ?k__law_words ?g_law ?l_law ?cc_law ?k_law ?g__law_told ?l__law_told ?cc__law_told ?k__law_told ?g_LAST_KIND ?g_LAST_MOMENT ?g_MAYBE ?g_MOST_DOORS ?g_MOST_ENTRIES ?g_MOST_KEYS ?g_MOST_PERSONS ?g_NOT ?g_NOTHING_YET ?g_SURELY ?n_ValueError ?n_enumerate ?n_int ?n_isinstance ?n_len ?n_list ?n_max ?n_min ?n_range ?n_reversed ?n_set ?n_sorted ?n_str ?n_tuple ?n_zip
    (case c_Book => first | k_is | decide +kernel | k_exc | rfl)
    (case pg_Book => first | k_is | decide +kernel | k_exc | rfl)
    (case hd_Book => first | k_is | decide +kernel | k_exc | rfl)
    (case po_Book => first | k_is | decide +kernel | k_exc | rfl)
    (case sa_Book => first | k_is | decide +kernel | k_exc | rfl)
    (case mk_Book => first | k_is | decide +kernel | k_exc | rfl)
    (case kc_Book => first | k_is | decide +kernel | k_exc | rfl)
    (case na_Book__cuts => first | k_is | decide +kernel | k_exc | rfl)
    (case na_Book__door_rows => first | k_is | decide +kernel | k_exc | rfl)
    (case na_Book__key_rows => first | k_is | decide +kernel | k_exc | rfl)
    (case na_Book__persons => first | k_is | decide +kernel | k_exc | rfl)
    (case c_BadBook => first | k_is | decide +kernel | k_exc | rfl)
    (case c_BadKey => first | k_is | decide +kernel | k_exc | rfl)
    (case c_BadPlace => first | k_is | decide +kernel | k_exc | rfl)
    (case c_BadTimes => first | k_is | decide +kernel | k_exc | rfl)
    (case c_KeyrollError => first | k_is | decide +kernel | k_exc | rfl)
    (case c_NoMoment => first | k_is | decide +kernel | k_exc | rfl)
    (case c_NoOne => first | k_is | decide +kernel | k_exc | rfl)
    (case sp_KeyrollError => first | k_is | decide +kernel | k_exc | rfl)
    (case ty_KeyrollError => first | k_is | decide +kernel | k_exc | rfl)
    (case tb_KeyrollError => first | k_is | decide +kernel | k_exc | rfl)
    (case rd_KeyrollError => first | k_is | decide +kernel | k_exc | rfl)
    (case vi_KeyrollError => first | k_is | decide +kernel | k_exc | rfl)
    (case sb_KeyrollError => first | k_is | decide +kernel | k_exc | rfl)
    (case hd_KeyrollError => first | k_is | decide +kernel | k_exc | rfl)
    (case og => first | k_is | decide +kernel | k_exc | rfl)
    (case ot => first | k_is | decide +kernel | k_exc | rfl)
    (case kc_BadPlace => first | k_is | decide +kernel | k_exc | rfl)
    (case sb_BadPlace => first | k_is | decide +kernel | k_exc | rfl)
    (case ty_BadPlace => first | k_is | decide +kernel | k_exc | rfl)
    (case su_BadPlace => first | k_is | decide +kernel | k_exc | rfl)
    (case ga_BadPlace => first | k_is | decide +kernel | k_exc | rfl)
    (case gg_BadPlace => first | k_is | decide +kernel | k_exc | rfl)
    (case hd_BadPlace => first | k_is | decide +kernel | k_exc | rfl)
    (case oc_BadPlace => first | k_is | decide +kernel | k_exc | rfl)
    (case mo_BadPlace => first | k_is | decide +kernel | k_exc | rfl)
    (case kt_BadPlace_BadBook => first | k_is | decide +kernel | k_exc | rfl)
    (case kt_BadPlace_BadKey => first | k_is | decide +kernel | k_exc | rfl)
    (case kt_BadPlace_NoOne => first | k_is | decide +kernel | k_exc | rfl)
    (case kt_BadPlace_BadPlace => first | k_is | decide +kernel | k_exc | rfl)
    (case kt_BadPlace_BadTimes => first | k_is | decide +kernel | k_exc | rfl)
    (case kt_BadPlace_NoMoment => first | k_is | decide +kernel | k_exc | rfl)
    (case kv_BadPlace => first | k_is | decide +kernel | k_exc | rfl)
    (case x_BadPlace => first | k_is | decide +kernel | k_exc | rfl)
    (case kc_BadTimes => first | k_is | decide +kernel | k_exc | rfl)
    (case sb_BadTimes => first | k_is | decide +kernel | k_exc | rfl)
    (case ty_BadTimes => first | k_is | decide +kernel | k_exc | rfl)
    (case su_BadTimes => first | k_is | decide +kernel | k_exc | rfl)
    (case ga_BadTimes => first | k_is | decide +kernel | k_exc | rfl)
    (case gg_BadTimes => first | k_is | decide +kernel | k_exc | rfl)
    (case hd_BadTimes => first | k_is | decide +kernel | k_exc | rfl)
    (case oc_BadTimes => first | k_is | decide +kernel | k_exc | rfl)
    (case mo_BadTimes => first | k_is | decide +kernel | k_exc | rfl)
    (case kt_BadTimes_BadBook => first | k_is | decide +kernel | k_exc | rfl)
    (case kt_BadTimes_BadKey => first | k_is | decide +kernel | k_exc | rfl)
    (case kt_BadTimes_NoOne => first | k_is | decide +kernel | k_exc | rfl)
    (case kt_BadTimes_BadPlace => first | k_is | decide +kernel | k_exc | rfl)
    (case kt_BadTimes_BadTimes => first | k_is | decide +kernel | k_exc | rfl)
    (case kt_BadTimes_NoMoment => first | k_is | decide +kernel | k_exc | rfl)
    (case kv_BadTimes => first | k_is | decide +kernel | k_exc | rfl)
    (case lk_BadTimes => first | k_is | decide +kernel | k_exc | rfl)
    (case rv_BadTimes => first | k_is | decide +kernel | k_exc | rfl)
    (case sa_BadTimes => first | k_is | decide +kernel | k_exc | rfl)
    (case i_BadTimes => first | k_is | decide +kernel | k_exc | rfl)
    (case ti_BadTimes => first | k_is | decide +kernel | k_exc | rfl)
    (case nf_BadTimes => first | k_is | decide +kernel | k_exc | rfl)
    (case tb__law_turn => first | k_is | decide +kernel | k_exc | rfl)
    (case nt__law_turn => first | k_is | decide +kernel | k_exc | rfl)
    (case k_BadTimes_init => first | k_is | decide +kernel | k_exc | rfl)
    (case l_BadTimes_init => first | k_is | decide +kernel | k_exc | rfl)
    (case cc_BadTimes_init => first | k_is | decide +kernel | k_exc | rfl)
    (case g_check_moment => first | k_is | decide +kernel | k_exc | rfl)
    (case l_check_moment => first | k_is | decide +kernel | k_exc | rfl)
    (case cc_check_moment => first | k_is | decide +kernel | k_exc | rfl)
    (case k_check_moment => first | k_is | decide +kernel | k_exc | rfl)
    (case g_check_place => first | k_is | decide +kernel | k_exc | rfl)
    (case l_check_place => first | k_is | decide +kernel | k_exc | rfl)
    (case cc_check_place => first | k_is | decide +kernel | k_exc | rfl)
    (case k_check_place => first | k_is | decide +kernel | k_exc | rfl)
    (case g_soonest => first | k_is | decide +kernel | k_exc | rfl)
    (case l_soonest => first | k_is | decide +kernel | k_exc | rfl)
    (case cc_soonest => first | k_is | decide +kernel | k_exc | rfl)
    (case k_soonest => first | k_is | decide +kernel | k_exc | rfl)
    (case g_latest => first | k_is | decide +kernel | k_exc | rfl)
    (case l_latest => first | k_is | decide +kernel | k_exc | rfl)
    (case cc_latest => first | k_is | decide +kernel | k_exc | rfl)
    (case k_latest => first | k_is | decide +kernel | k_exc | rfl)
    (case g_first_stuck => first | k_is | decide +kernel | k_exc | rfl)
    (case l_first_stuck => first | k_is | decide +kernel | k_exc | rfl)
    (case cc_first_stuck => first | k_is | decide +kernel | k_exc | rfl)
    (case k_first_stuck => first | k_is | decide +kernel | k_exc | rfl)
    (case g_row_with => first | k_is | decide +kernel | k_exc | rfl)
    (case l_row_with => first | k_is | decide +kernel | k_exc | rfl)
    (case cc_row_with => first | k_is | decide +kernel | k_exc | rfl)
    (case k_row_with => first | k_is | decide +kernel | k_exc | rfl)
    (case g_spans => first | k_is | decide +kernel | k_exc | rfl)
    (case l_spans => first | k_is | decide +kernel | k_exc | rfl)
    (case cc_spans => first | k_is | decide +kernel | k_exc | rfl)
    (case k_spans => first | k_is | decide +kernel | k_exc | rfl)
    (case g_standing => first | k_is | decide +kernel | k_exc | rfl)
    (case l_standing => first | k_is | decide +kernel | k_exc | rfl)
    (case cc_standing => first | k_is | decide +kernel | k_exc | rfl)
    (case k_standing => first | k_is | decide +kernel | k_exc | rfl)
    (case g_moments_by => first | k_is | decide +kernel | k_exc | rfl)
    (case l_moments_by => first | k_is | decide +kernel | k_exc | rfl)
    (case cc_moments_by => first | k_is | decide +kernel | k_exc | rfl)
    (case k_moments_by => first | k_is | decide +kernel | k_exc | rfl)
    (case g_in_force => first | k_is | decide +kernel | k_exc | rfl)
    (case l_in_force => first | k_is | decide +kernel | k_exc | rfl)
    (case cc_in_force => first | k_is | decide +kernel | k_exc | rfl)
    (case k_in_force => first | k_is | decide +kernel | k_exc | rfl)
    (case g_told => first | k_is | decide +kernel | k_exc | rfl)
    (case l_told => first | k_is | decide +kernel | k_exc | rfl)
    (case cc_told => first | k_is | decide +kernel | k_exc | rfl)
    (case k_told => first | k_is | decide +kernel | k_exc | rfl)
    (case g_place_had => first | k_is | decide +kernel | k_exc | rfl)
    (case l_place_had => first | k_is | decide +kernel | k_exc | rfl)
    (case cc_place_had => first | k_is | decide +kernel | k_exc | rfl)
    (case k_place_had => first | k_is | decide +kernel | k_exc | rfl)
    (case g_place_opened => first | k_is | decide +kernel | k_exc | rfl)
    (case l_place_opened => first | k_is | decide +kernel | k_exc | rfl)
    (case cc_place_opened => first | k_is | decide +kernel | k_exc | rfl)
    (case k_place_opened => first | k_is | decide +kernel | k_exc | rfl)
    (case g_shown => first | k_is | decide +kernel | k_exc | rfl)
    (case l_shown => first | k_is | decide +kernel | k_exc | rfl)
    (case cc_shown => first | k_is | decide +kernel | k_exc | rfl)
    (case k_shown => first | k_is | decide +kernel | k_exc | rfl)
    (case g_moments_without => first | k_is | decide +kernel | k_exc | rfl)
    (case l_moments_without => first | k_is | decide +kernel | k_exc | rfl)
    (case cc_moments_without => first | k_is | decide +kernel | k_exc | rfl)
    (case k_moments_without => first | k_is | decide +kernel | k_exc | rfl)
    (case g_moments_against => first | k_is | decide +kernel | k_exc | rfl)
    (case l_moments_against => first | k_is | decide +kernel | k_exc | rfl)
    (case cc_moments_against => first | k_is | decide +kernel | k_exc | rfl)
    (case k_moments_against => first | k_is | decide +kernel | k_exc | rfl)
    (case g_denied => first | k_is | decide +kernel | k_exc | rfl)
    (case l_denied => first | k_is | decide +kernel | k_exc | rfl)
    (case cc_denied => first | k_is | decide +kernel | k_exc | rfl)
    (case k_denied => first | k_is | decide +kernel | k_exc | rfl)
    (case g_could => first | k_is | decide +kernel | k_exc | rfl)
    (case l_could => first | k_is | decide +kernel | k_exc | rfl)
    (case cc_could => first | k_is | decide +kernel | k_exc | rfl)
    (case k_could => first | k_is | decide +kernel | k_exc | rfl)
    (case g_openers => first | k_is | decide +kernel | k_exc | rfl)
    (case l_openers => first | k_is | decide +kernel | k_exc | rfl)
    (case cc_openers => first | k_is | decide +kernel | k_exc | rfl)
    (case k_openers => first | k_is | decide +kernel | k_exc | rfl)
    (case g_are_kinds => first | k_is | decide +kernel | k_exc | rfl)
    (case l_are_kinds => first | k_is | decide +kernel | k_exc | rfl)
    (case cc_are_kinds => first | k_is | decide +kernel | k_exc | rfl)
    (case k_are_kinds => first | k_is | decide +kernel | k_exc | rfl)
    (case m_Book_init => first | k_is | decide +kernel | k_exc | rfl)
    (case i_Book_init => first | k_is | decide +kernel | k_exc | rfl)
    (case l_Book_init => first | k_is | decide +kernel | k_exc | rfl)
    (case cc_Book_init => first | k_is | decide +kernel | k_exc | rfl)
    (case k_Book_init => first | k_is | decide +kernel | k_exc | rfl)
    (case m_Book_cut => first | k_is | decide +kernel | k_exc | rfl)
    (case i_Book_cut => first | k_is | decide +kernel | k_exc | rfl)
    (case l_Book_cut => first | k_is | decide +kernel | k_exc | rfl)
    (case cc_Book_cut => first | k_is | decide +kernel | k_exc | rfl)
    (case k_Book_cut => first | k_is | decide +kernel | k_exc | rfl)
    (case m_Book_hand => first | k_is | decide +kernel | k_exc | rfl)
    (case i_Book_hand => first | k_is | decide +kernel | k_exc | rfl)
    (case l_Book_hand => first | k_is | decide +kernel | k_exc | rfl)
    (case cc_Book_hand => first | k_is | decide +kernel | k_exc | rfl)
    (case k_Book_hand => first | k_is | decide +kernel | k_exc | rfl)
    (case m_Book_fit => first | k_is | decide +kernel | k_exc | rfl)
    (case i_Book_fit => first | k_is | decide +kernel | k_exc | rfl)
    (case l_Book_fit => first | k_is | decide +kernel | k_exc | rfl)
    (case cc_Book_fit => first | k_is | decide +kernel | k_exc | rfl)
    (case k_Book_fit => first | k_is | decide +kernel | k_exc | rfl)
    (case m_Book_entries => first | k_is | decide +kernel | k_exc | rfl)
    (case i_Book_entries => first | k_is | decide +kernel | k_exc | rfl)
    (case l_Book_entries => first | k_is | decide +kernel | k_exc | rfl)
    (case cc_Book_entries => first | k_is | decide +kernel | k_exc | rfl)
    (case k_Book_entries => first | k_is | decide +kernel | k_exc | rfl)
    (case m_Book_fitted => first | k_is | decide +kernel | k_exc | rfl)
    (case i_Book_fitted => first | k_is | decide +kernel | k_exc | rfl)
    (case l_Book_fitted => first | k_is | decide +kernel | k_exc | rfl)
    (case cc_Book_fitted => first | k_is | decide +kernel | k_exc | rfl)
    (case k_Book_fitted => first | k_is | decide +kernel | k_exc | rfl)
    (case m_Book_holders => first | k_is | decide +kernel | k_exc | rfl)
    (case i_Book_holders => first | k_is | decide +kernel | k_exc | rfl)
    (case l_Book_holders => first | k_is | decide +kernel | k_exc | rfl)
    (case cc_Book_holders => first | k_is | decide +kernel | k_exc | rfl)
    (case k_Book_holders => first | k_is | decide +kernel | k_exc | rfl)
    (case m_Book_locks => first | k_is | decide +kernel | k_exc | rfl)
    (case i_Book_locks => first | k_is | decide +kernel | k_exc | rfl)
    (case l_Book_locks => first | k_is | decide +kernel | k_exc | rfl)
    (case cc_Book_locks => first | k_is | decide +kernel | k_exc | rfl)
    (case k_Book_locks => first | k_is | decide +kernel | k_exc | rfl)
    (case m_Book_everybody => first | k_is | decide +kernel | k_exc | rfl)
    (case i_Book_everybody => first | k_is | decide +kernel | k_exc | rfl)
    (case l_Book_everybody => first | k_is | decide +kernel | k_exc | rfl)
    (case cc_Book_everybody => first | k_is | decide +kernel | k_exc | rfl)
    (case k_Book_everybody => first | k_is | decide +kernel | k_exc | rfl)
    (case m_Book_cuts => first | k_is | decide +kernel | k_exc | rfl)
    (case i_Book_cuts => first | k_is | decide +kernel | k_exc | rfl)
    (case l_Book_cuts => first | k_is | decide +kernel | k_exc | rfl)
    (case cc_Book_cuts => first | k_is | decide +kernel | k_exc | rfl)
    (case k_Book_cuts => first | k_is | decide +kernel | k_exc | rfl)
    (case m_Book_check_person => first | k_is | decide +kernel | k_exc | rfl)
    (case i_Book_check_person => first | k_is | decide +kernel | k_exc | rfl)
    (case l_Book_check_person => first | k_is | decide +kernel | k_exc | rfl)
    (case cc_Book_check_person => first | k_is | decide +kernel | k_exc | rfl)
    (case k_Book_check_person => first | k_is | decide +kernel | k_exc | rfl)
    (case m_Book__key_row => first | k_is | decide +kernel | k_exc | rfl)
    (case i_Book__key_row => first | k_is | decide +kernel | k_exc | rfl)
    (case l_Book__key_row => first | k_is | decide +kernel | k_exc | rfl)
    (case cc_Book__key_row => first | k_is | decide +kernel | k_exc | rfl)
    (case k_Book__key_row => first | k_is | decide +kernel | k_exc | rfl)
    (case m_Book__door_row => first | k_is | decide +kernel | k_exc | rfl)
    (case i_Book__door_row => first | k_is | decide +kernel | k_exc | rfl)
    (case l_Book__door_row => first | k_is | decide +kernel | k_exc | rfl)
    (case cc_Book__door_row => first | k_is | decide +kernel | k_exc | rfl)
    (case k_Book__door_row => first | k_is | decide +kernel | k_exc | rfl)
    (case g__law_dice => first | k_is | decide +kernel | k_exc | rfl)
    (case l__law_dice => first | k_is | decide +kernel | k_exc | rfl)
    (case cc__law_dice => first | k_is | decide +kernel | k_exc | rfl)
    (case k__law_dice => first | k_is | decide +kernel | k_exc | rfl)
    (case g__law_next => first | k_is | decide +kernel | k_exc | rfl)
    (case l__law_next => first | k_is | decide +kernel | k_exc | rfl)
    (case cc__law_next => first | k_is | decide +kernel | k_exc | rfl)
    (case k__law_next => first | k_is | decide +kernel | k_exc | rfl)
    (case g__law_window => first | k_is | decide +kernel | k_exc | rfl)
    (case l__law_window => first | k_is | decide +kernel | k_exc | rfl)
    (case cc__law_window => first | k_is | decide +kernel | k_exc | rfl)
    (case k__law_window => first | k_is | decide +kernel | k_exc | rfl)
    (case g__law_fits => first | k_is | decide +kernel | k_exc | rfl)
    (case l__law_fits => first | k_is | decide +kernel | k_exc | rfl)
    (case cc__law_fits => first | k_is | decide +kernel | k_exc | rfl)
    (case k__law_fits => first | k_is | decide +kernel | k_exc | rfl)
    (case g__law_turn => first | k_is | decide +kernel | k_exc | rfl)
    (case l__law_turn => first | k_is | decide +kernel | k_exc | rfl)
    (case cc__law_turn => first | k_is | decide +kernel | k_exc | rfl)
    (case k__law_turn => first | k_is | decide +kernel | k_exc | rfl)
    (case g__law_story => first | k_is | decide +kernel | k_exc | rfl)
    (case l__law_story => first | k_is | decide +kernel | k_exc | rfl)
    (case cc__law_story => first | k_is | decide +kernel | k_exc | rfl)
    (case k__law_story => first | k_is | decide +kernel | k_exc | rfl)
    (case g__law_written => first | k_is | decide +kernel | k_exc | rfl)
    (case l__law_written => first | k_is | decide +kernel | k_exc | rfl)
    (case cc__law_written => first | k_is | decide +kernel | k_exc | rfl)
    (case k__law_written => first | k_is | decide +kernel | k_exc | rfl)
    (case g__law_words => first | k_is | decide +kernel | k_exc | rfl)
    (case l__law_words => first | k_is | decide +kernel | k_exc | rfl)
    (case cc__law_words => first | k_is | decide +kernel | k_exc | rfl)
    (case k__law_words => first | k_is | decide +kernel | k_exc | rfl)
    (case g_law => first | k_is | decide +kernel | k_exc | rfl)
    (case l_law => first | k_is | decide +kernel | k_exc | rfl)
    (case cc_law => first | k_is | decide +kernel | k_exc | rfl)
    (case k_law => first | k_is | decide +kernel | k_exc | rfl)
    (case g__law_told => first | k_is | decide +kernel | k_exc | rfl)
    (case l__law_told => first | k_is | decide +kernel | k_exc | rfl)
    (case cc__law_told => first | k_is | decide +kernel | k_exc | rfl)
    (case k__law_told => first | k_is | decide +kernel | k_exc | rfl)
    (case g_LAST_KIND => first | k_is | decide +kernel | k_exc | rfl)
    (case g_LAST_MOMENT => first | k_is | decide +kernel | k_exc | rfl)
    (case g_MAYBE => first | k_is | decide +kernel | k_exc | rfl)
    (case g_MOST_DOORS => first | k_is | decide +kernel | k_exc | rfl)
    (case g_MOST_ENTRIES => first | k_is | decide +kernel | k_exc | rfl)
    (case g_MOST_KEYS => first | k_is | decide +kernel | k_exc | rfl)
    (case g_MOST_PERSONS => first | k_is | decide +kernel | k_exc | rfl)
    (case g_NOT => first | k_is | decide +kernel | k_exc | rfl)
    (case g_NOTHING_YET => first | k_is | decide +kernel | k_exc | rfl)
    (case g_SURELY => first | k_is | decide +kernel | k_exc | rfl)
    (case n_ValueError => first | k_is | decide +kernel | k_exc | rfl)
    (case n_enumerate => first | k_is | decide +kernel | k_exc | rfl)
    (case n_int => first | k_is | decide +kernel | k_exc | rfl)
    (case n_isinstance => first | k_is | decide +kernel | k_exc | rfl)
    (case n_len => first | k_is | decide +kernel | k_exc | rfl)
    (case n_list => first | k_is | decide +kernel | k_exc | rfl)
    (case n_max => first | k_is | decide +kernel | k_exc | rfl)
    (case n_min => first | k_is | decide +kernel | k_exc | rfl)
    (case n_range => first | k_is | decide +kernel | k_exc | rfl)
    (case n_reversed => first | k_is | decide +kernel | k_exc | rfl)
    (case n_set => first | k_is | decide +kernel | k_exc | rfl)
    (case n_sorted => first | k_is | decide +kernel | k_exc | rfl)
    (case n_str => first | k_is | decide +kernel | k_exc | rfl)
    (case n_tuple => first | k_is | decide +kernel | k_exc | rfl)
    (case n_zip => first | k_is | decide +kernel | k_exc | rfl)
