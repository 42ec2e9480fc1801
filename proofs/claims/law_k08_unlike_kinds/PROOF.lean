import PyProof.Rows.All
import Wide.All
import OpenK.AllK
import Wide.FinOn
import HandS.ForMost
import HandS.ForExc
import HandS.CallSlots
import HandS.Walk
import HandS.Deep
import HandS.Wide
import HandS.WideBits
import HandS.Style
import HandS.Conv
import HandS.NoneIn
import HandS.RevRange
import HandS.Rev
import HandS.Zip
import HandS.IsInst
import HandS.TupAny
import HandS.SortInts
import HandS.TupSets
import HandS.RaiseMore
import HandS.ExcInit
import HandS.Exc
import HandS.Property
import HandS.Defaults
import HandS.OwnEq
import KE.SortData
import HandS.Ends
import HandS.EndBits
import HandS.ExcField
import HandS.ExcIs
import KE.KExcIs
import KE.KIsAll
import PyProof.StrOps2
import HandS.Dict
import KE.KDictDisplayH
import HandS.SetFor
import HandS.Strs
import KE.GoesMore
import KE.GoesEnum
import PyProof.ReprBulk
import KE.BitLaws
import PySem.Challenge.RW_lookcrowd_k08_unlike_kinds
set_option Elab.async false
set_option linter.all false
set_option maxRecDepth 100000
set_option maxHeartbeats 4000000
open PySem
namespace L3
theorem str_len_app (a b : Str) : (a ++ b).length = a.length + b.length := by
  show (a.cps ++ b.cps).size = _
  simp [Str.length]
theorem textFrom_len (B : Nat) : ∀ (ts : List Str) (k : Nat) (acc : Str), (∀ t ∈ ts, t.length ≤ B) → (textFrom k acc ts).length ≤ acc.length + ts.length * (B + 2)
  | [], k, acc, _ => by rw [textFrom.eq_1]; simp
  | t :: ts, k, acc, h => by
    rw [textFrom.eq_2]
    have ih := textFrom_len B ts (k + 1) (acc ++ Str.ofString (if k > 0 then ", " else "") ++ t) (fun x hx => h x (List.mem_cons_of_mem _ hx))
    rw [str_len_app, str_len_app] at ih
    have h1 : t.length ≤ B := h t List.mem_cons_self
    have h2 : (Str.ofString (if k > 0 then ", " else "")).length ≤ 2 := by split <;> decide
    rw [List.length_cons, Nat.add_mul]
    omega
theorem listText_len {ts : List Str} {B : Nat} (h : ∀ t ∈ ts, t.length ≤ B) : (listText ts).length ≤ ts.length * (B + 2) + 2 := by
  show (textFrom 0 (Str.ofString "[") ts ++ Str.ofString "]").length ≤ _
  rw [str_len_app]
  have := textFrom_len B ts 0 (Str.ofString "[") h
  have e1 : (Str.ofString "[").length = 1 := by decide
  have e2 : (Str.ofString "]").length = 1 := by decide
  omega
theorem shown_list {xs : List PyData} {B : Nat} (h : ∀ x ∈ xs, (PyData.shown x).length ≤ B) : (PyData.shown (.list xs)).length ≤ xs.length * (B + 2) + 2 := by
  rw [PyData.shown.eq_5]
  have e : ∀ l : List PyData, (PyData.shownAll l).length = l.length := fun l => by
    induction l with
    | nil => rfl
    | cons x r ih => show (PyData.shown x :: PyData.shownAll r).length = _; simp [ih]
  have m : ∀ (l : List PyData) (t : Str), t ∈ PyData.shownAll l → ∃ x ∈ l, t = PyData.shown x := fun l => by
    induction l with
    | nil => intro t ht; exact absurd ht (by show t ∉ ([] : List Str); simp)
    | cons x r ih =>
      intro t ht
      have ht : t ∈ PyData.shown x :: PyData.shownAll r := ht
      rcases List.mem_cons.mp ht with rfl | h
      · exact ⟨x, List.mem_cons_self, rfl⟩
      · obtain ⟨y, hy, e⟩ := ih t h
        exact ⟨y, List.mem_cons_of_mem _ hy, e⟩
  have := listText_len (ts := PyData.shownAll xs) (B := B) (fun t ht => by
    obtain ⟨x, hx, rfl⟩ := m xs t ht
    exact h x hx)
  rw [e] at this
  exact this
theorem shown_triple {a b c : PyData} {B : Nat} (h1 : (PyData.shown a).length ≤ B) (h2 : (PyData.shown b).length ≤ B) (h3 : (PyData.shown c).length ≤ B) : (PyData.shown (.tuple [a, b, c])).length ≤ 3 * B + 6 := by
  rw [PyData.shown.eq_6]
  have e : tupleText (PyData.shownAll [a, b, c]) = Str.ofString "(" ++ (Str.ofString ", ").join [PyData.shown a, PyData.shown b, PyData.shown c] ++ Str.ofString ")" := rfl
  have j : (Str.ofString ", ").join [PyData.shown a, PyData.shown b, PyData.shown c] = PyData.shown a ++ Str.ofString ", " ++ (PyData.shown b ++ Str.ofString ", " ++ PyData.shown c) := rfl
  rw [e, j]
  simp only [str_len_app]
  have e1 : (Str.ofString "(").length = 1 := by decide
  have e2 : (Str.ofString ")").length = 1 := by decide
  have e3 : (Str.ofString ", ").length = 2 := by decide
  omega
theorem shown_int {i : Int} (h0 : 0 ≤ i) (h : i ≤ 64) : (PyData.shown (.int i)).length ≤ 2 := by
  have q : ∀ i : Fin 65, (PyData.shown (.int (i.val : Int))).length ≤ 2 := by decide +kernel
  have := q ⟨i.toNat, by omega⟩
  have e : ((i.toNat : Nat) : Int) = i := by omega
  simp only [e] at this
  exact this
theorem showableAll_of : ∀ {xs : List PyData}, (∀ x ∈ xs, PyData.showable x = true) → PyData.showable (.list xs) = true
  | [], _ => rfl
  | x :: xs, h => by
    have h1 := h x List.mem_cons_self
    have h2 := showableAll_of (xs := xs) fun y hy => h y (List.mem_cons_of_mem _ hy)
    show (PyData.showable x && PyData.showable (.list xs)) = true
    rw [h1, h2]; rfl
theorem depth_list {n : Nat} : ∀ {xs : List PyData}, (∀ x ∈ xs, PyData.depth x ≤ n) → PyData.depth (.list xs) ≤ n + 1
  | [], _ => by show 0 + 1 ≤ n + 1; omega
  | x :: xs, h => by
    have h1 := h x List.mem_cons_self
    have h2 := depth_list (xs := xs) fun y hy => h y (List.mem_cons_of_mem _ hy)
    have h3 : PyData.depth (.list (x :: xs)) = max (PyData.depth x) (PyData.depth (.list xs) - 1) + 1 := rfl
    rw [h3]; omega
end L3

set_option Elab.async false
set_option maxRecDepth 100000
set_option maxHeartbeats 4000000
/-! L3, first part: deep values, what stands in the heap for them, the state of a def that runs. -/
namespace L3
open PySem PySem.Spec PyProof.Rows L2

/-- a value to its depth; obj c: an instance of the c-th class of the text -/
inductive D where
  | non | bl (b : Bool) | int (i : Int) | str (s : Str)
  | lst (xs : List D) | tup (xs : List D)
  | obj (c : Nat) (xs : List D)
  | dT (ks : List (List Key)) (xs : List D)
  | scr (ns : List Int)

instance : Inhabited D := ⟨.non⟩

/-- the classes of the text: address and attributes, in their order; the error classes -/
structure Tab where
  cls : Nat → Option (Addr × List Str)
  exc : Nat → Option Addr

def D.atom : D → Bool
  | .non => true | .bl _ => true | .int _ => true | .str _ => true
  | _ => false

section
variable (K : PySem.W.Frag) (TB : Tab) (F : Hp)
mutual
inductive Dx : V → D → Prop
  | non : Dx .non .non
  | bl (b : Bool) : Dx (.bl b) (.bl b)
  | int (i : Int) : Dx (.int i) (.int i)
  | str (x : Str) : Dx (.str x) (.str x)
  | lst {a : Addr} {vs : List V} {ds : List D} : F a = some (.lst vs) → DxAll vs ds → Dx (.ref a) (.lst ds)
  | tup {a : Addr} {vs : List V} {ds : List D} : F a = some (.tup vs) → DxAll vs ds → Dx (.ref a) (.tup ds)
  | obj {a C dx : Addr} {fs : List (Str × V)} {c : Nat} {ds : List D} : F a = some (.ins C dx fs) → TB.cls c = some (C, fs.map Prod.fst) → DxAll (fs.map Prod.snd) ds → Dx (.ref a) (.obj c ds)
  | dT {a : Addr} {kvs : List (List Key × V)} {ds : List D} : F a = some (.dT kvs) → DxAll (kvs.map Prod.snd) ds → Dx (.ref a) (.dT (kvs.map Prod.fst) ds)
  | scr {a : Addr} {ns : List Int} : SqL K F a (ns.map V.int) → Dx (.ref a) (.scr ns)
inductive DxAll : List V → List D → Prop
  | nil : DxAll [] []
  | cons {v : V} {vs : List V} {d : D} {ds : List D} : Dx v d → DxAll vs ds → DxAll (v :: vs) (d :: ds)
end
end

section
variable {K : PySem.W.Frag} {TB : Tab} {F F' : Hp}
theorem DxAll.length : ∀ {vs : List V} {ds : List D}, DxAll K TB F vs ds → vs.length = ds.length
  | _, _, .nil => rfl
  | _, _, .cons _ t => congrArg Nat.succ (DxAll.length t)

mutual
theorem Dx.mono (e : Same F F') : ∀ (d : D) {v : V}, Dx K TB F v d → Dx K TB F' v d
  | .non, _, h => by cases h; exact .non
  | .bl _, _, h => by cases h; exact .bl _
  | .int _, _, h => by cases h; exact .int _
  | .str _, _, h => by cases h; exact .str _
  | .lst ds, _, h => by
    cases h with
    | lst hs ha => exact .lst (e _ _ hs) (DxAll.mono e ds ha)
  | .tup ds, _, h => by
    cases h with
    | tup hs ha => exact .tup (e _ _ hs) (DxAll.mono e ds ha)
  | .obj c ds, _, h => by
    cases h with
    | obj ha hc hd => exact .obj (e _ _ ha) hc (DxAll.mono e ds hd)
  | .dT ks ds, _, h => by
    cases h with
    | dT ha hd => exact .dT (e _ _ ha) (DxAll.mono e ds hd)
  | .scr ns, _, h => by
    cases h with
    | scr hs => exact .scr (e.seq hs)
theorem DxAll.mono (e : Same F F') : ∀ (ds : List D) {vs : List V}, DxAll K TB F vs ds → DxAll K TB F' vs ds
  | [], _, h => by cases h; exact .nil
  | d :: ds, _, h => by
    cases h with
    | cons h1 h2 => exact .cons (Dx.mono e d h1) (DxAll.mono e ds h2)
end
theorem DxAll.get : ∀ {vs : List V} {ds : List D} {i : Nat} {d : D}, DxAll K TB F vs ds → ds[i]? = some d → ∃ v, vs[i]? = some v ∧ Dx K TB F v d
  | _, _, _, _, .nil, e => by simp at e
  | _, _, 0, _, .cons h _, e => by simp at e; subst e; exact ⟨_, rfl, h⟩
  | _, _, i + 1, _, .cons _ t, e => by
    obtain ⟨v, h1, h2⟩ := DxAll.get (i := i) t (by simpa using e)
    exact ⟨v, by simpa using h1, h2⟩
theorem DxAll.get' : ∀ {vs : List V} {ds : List D} {i : Nat} {v : V}, DxAll K TB F vs ds → vs[i]? = some v → ∃ d, ds[i]? = some d ∧ Dx K TB F v d
  | _, _, _, _, .nil, e => by simp at e
  | _, _, 0, _, .cons h _, e => by simp at e; subst e; exact ⟨_, rfl, h⟩
  | _, _, i + 1, _, .cons _ t, e => by
    obtain ⟨v, h1, h2⟩ := DxAll.get' (i := i) t (by simpa using e)
    exact ⟨v, by simpa using h1, h2⟩
theorem DxAll.append : ∀ {vs ws : List V} {ds es : List D}, DxAll K TB F vs ds → DxAll K TB F ws es → DxAll K TB F (vs ++ ws) (ds ++ es)
  | _, _, _, _, .nil, h => h
  | _, _, _, _, .cons h t, g => .cons h (DxAll.append t g)
theorem Dx.atomic {d : D} {v : V} (h : Dx K TB F v d) (a : d.atom = true) : Dx K TB F' v d := by
  cases h <;> first | exact .non | exact .bl _ | exact .int _ | exact .str _ | cases a
end

/-! ### values of a def that runs: d, with 'all of it is new since the entry'; m j, the j-th list that may still change -/
inductive T where
  | v (new : Bool) (d : D)
  | m (j : Nat)
instance : Inhabited T := ⟨.v true .non⟩
/-- what stands at an address that may still change -/
inductive Cell where
  | lst (ts : List T)
  | tup (ts : List T)
  | obj (c : Nat) (ts : List T)
  | dT (ks : List (List Key)) (ts : List T)
  | dK (ks : List Key) (ts : List T)
  | frz (new : Bool) (d : D)
  | hid
abbrev Mu := List Cell
abbrev Gam := List (Option T)

/-- the entry: what was tracked there, the cells handed in, the text -/
structure Ent where
  K : PySem.W.Frag
  TB : Tab
  H0 : Hp
  F0 : Hp
  ms0 : List Addr

/-- the heap of a running def, parted: F all that stands for good, N what of it is new, ms the cells -/
structure Pt where
  F : Hp
  N : Hp
  ms : List Addr

structure Pt.Le (p q : Pt) : Prop where
  f : Same p.F q.F
  n : Same p.N q.N
  m : p.ms <+: q.ms
theorem Pt.Le.refl (p : Pt) : p.Le p := ⟨Same.refl _, Same.refl _, List.prefix_refl _⟩
theorem Pt.Le.trans {p q r : Pt} (a : p.Le q) (b : q.Le r) : p.Le r := ⟨a.f.trans b.f, a.n.trans b.n, a.m.trans b.m⟩

def RT (Z : Ent) (p : Pt) (v : V) : T → Prop
  | .v true d => Dx Z.K Z.TB p.N v d
  | .v false d => Dx Z.K Z.TB p.F v d
  | .m j => ∃ a, p.ms[j]? = some a ∧ v = .ref a
inductive RTs (Z : Ent) (p : Pt) : List V → List T → Prop
  | nil : RTs Z p [] []
  | cons {v : V} {vs : List V} {t : T} {ts : List T} : RT Z p v t → RTs Z p vs ts → RTs Z p (v :: vs) (t :: ts)

def CellOk (Z : Ent) (p : Pt) (H : Hp) (a : Addr) : Cell → Prop
  | .lst ts => ∃ vs, H a = some (.lst vs) ∧ RTs Z p vs ts
  | .tup ts => ∃ vs, H a = some (.tup vs) ∧ RTs Z p vs ts
  | .obj c ts => ∃ C dx fs names, H a = some (.ins C dx fs) ∧ Z.TB.cls c = some (C, names) ∧ fs.map Prod.fst = names.take ts.length ∧ RTs Z p (fs.map Prod.snd) ts
  | .dT ks ts => ∃ kvs, H a = some (.dT kvs) ∧ kvs.map Prod.fst = ks ∧ RTs Z p (kvs.map Prod.snd) ts
  | .dK ks ts => ∃ kvs, H a = some (.dK kvs) ∧ kvs.map Prod.fst = ks ∧ RTs Z p (kvs.map Prod.snd) ts
  | .frz f d => RT Z p (.ref a) (.v f d)
  | .hid => True
def Cell.live : Cell → Bool
  | .frz _ _ => false
  | _ => true

structure SR (Z : Ent) (p : Pt) (H : Hp) (μ : Mu) : Prop where
  sub : Same p.F H
  nin : Same p.N p.F
  fr : ∀ a o, p.N a = some o → Z.H0 a = none
  org : ∀ a o, p.F a = some o → Z.F0 a = some o ∨ Z.H0 a = none
  keep : ∀ a o, Z.H0 a = some o → a ∉ Z.ms0 → H a = some o
  dom : ∀ a o, Z.H0 a = some o → ∃ o', H a = some o'
  pre : Z.ms0 <+: p.ms
  nd : p.ms.Nodup
  len : p.ms.length = μ.length
  nof : ∀ (j : Nat) (a : Addr) (c : Cell), p.ms[j]? = some a → μ[j]? = some c → c.live = true → p.F a = none
  trk : ∀ a ∈ p.ms, ∃ o, H a = some o
  new : ∀ (j : Nat) (a : Addr), p.ms[j]? = some a → Z.ms0.length ≤ j → Z.H0 a = none
  cell : ∀ (j : Nat) (a : Addr) (c : Cell), p.ms[j]? = some a → μ[j]? = some c → CellOk Z p H a c

def ER (Z : Ent) (p : Pt) (σ : L2.St) (Γ : Gam) : Prop := σ.length = Γ.length ∧ ∀ (i : Nat) (t : T), Γ[i]? = some (some t) → ∃ v, σ[i]? = some (some v) ∧ RT Z p v t

section
variable {Z : Ent} {p q : Pt} {H H' : Hp} {μ : Mu} {σ : L2.St} {Γ : Gam}
theorem RT.mono (e : p.Le q) {v : V} : ∀ {t : T}, RT Z p v t → RT Z q v t
  | .v true d, h => Dx.mono e.n d h
  | .v false d, h => Dx.mono e.f d h
  | .m j, ⟨a, h, r⟩ => ⟨a, by
      obtain ⟨l, hl⟩ := e.m
      rw [← hl, List.getElem?_append_left (List.getElem?_eq_some_iff.mp h).1]
      exact h, r⟩
theorem RTs.mono (e : p.Le q) : ∀ {vs : List V} {ts : List T}, RTs Z p vs ts → RTs Z q vs ts
  | _, _, .nil => .nil
  | _, _, .cons h t => .cons (h.mono e) (RTs.mono e t)
theorem RTs.length : ∀ {vs : List V} {ts : List T}, RTs Z p vs ts → vs.length = ts.length
  | _, _, .nil => rfl
  | _, _, .cons _ t => congrArg Nat.succ (RTs.length t)
theorem RTs.get : ∀ {vs : List V} {ts : List T} {i : Nat} {t : T}, RTs Z p vs ts → ts[i]? = some t → ∃ v, vs[i]? = some v ∧ RT Z p v t
  | _, _, _, _, .nil, e => by simp at e
  | _, _, 0, _, .cons h _, e => by simp at e; subst e; exact ⟨_, rfl, h⟩
  | _, _, i + 1, _, .cons _ t, e => by
    obtain ⟨v, h1, h2⟩ := RTs.get (i := i) t (by simpa using e)
    exact ⟨v, by simpa using h1, h2⟩
theorem RTs.append : ∀ {vs ws : List V} {ts us : List T}, RTs Z p vs ts → RTs Z p ws us → RTs Z p (vs ++ ws) (ts ++ us)
  | _, _, _, _, .nil, h => h
  | _, _, _, _, .cons h t, g => .cons h (RTs.append t g)
theorem RTs.set {v : V} {t : T} (r : RT Z p v t) : ∀ {vs : List V} {ts : List T} (i : Nat), RTs Z p vs ts → RTs Z p (vs.set i v) (ts.set i t)
  | _, _, _, .nil => .nil
  | _, _, 0, .cons _ g => .cons r g
  | _, _, i + 1, .cons h g => .cons h (RTs.set r i g)
theorem ER.mono (e : p.Le q) (h : ER Z p σ Γ) : ER Z q σ Γ := ⟨h.1, fun i t hi => by
  obtain ⟨v, h1, h2⟩ := h.2 i t hi
  exact ⟨v, h1, h2.mono e⟩⟩
theorem ER.set {v : V} {t : T} (h : ER Z p σ Γ) (r : RT Z p v t) (i : Nat) : ER Z p (σ.set i (some v)) (Γ.set i (some t)) := by
  refine ⟨by simp [h.1], fun j u hj => ?_⟩
  by_cases e : i = j
  · subst e
    by_cases hi : i < Γ.length
    · rw [List.getElem?_set_self hi] at hj
      cases hj
      exact ⟨v, by rw [List.getElem?_set_self (by rw [h.1]; exact hi)], r⟩
    · rw [List.getElem?_eq_none (by simpa using hi)] at hj
      cases hj
  · rw [List.getElem?_set_ne e] at hj ⊢
    exact h.2 j u hj
theorem ER.wipe (h : ER Z p σ Γ) (i : Nat) : ER Z p (σ.set i none) (Γ.set i none) := by
  refine ⟨by simp [h.1], fun j u hj => ?_⟩
  by_cases e : i = j
  · subst e
    by_cases hi : i < Γ.length
    · rw [List.getElem?_set_self hi] at hj
      cases hj
    · rw [List.getElem?_eq_none (by simpa using hi)] at hj
      cases hj
  · rw [List.getElem?_set_ne e] at hj ⊢
    exact h.2 j u hj
end
end L3

set_option Elab.async false
set_option maxRecDepth 100000
set_option maxHeartbeats 4000000
/-! L3, second part: what a piece of the text does to (slots, cells), and what it means for the layer below. -/
namespace L3
open PySem PySem.Spec PyProof.Rows L2

/-- an end: a value, or an error of the c-th error class with its value -/
inductive Rs (α : Type) where
  | ok (a : α) (μ : Mu)
  | exc (c : Nat) (t : T) (μ : Mu)
abbrev Ot (α : Type) := Option (Rs α)
def Ot.bind {α β : Type} (x : Ot α) (k : α → Mu → Ot β) : Ot β := match x with
  | some (.ok a μ) => k a μ
  | some (.exc c t μ) => some (.exc c t μ)
  | none => none
abbrev De := Gam → Mu → Ot T
/-- the same for lists of values -/
abbrev Da := Gam → Mu → Ot (List T)

/-- what a caller wants of an error -/
abbrev Wish := Value → Option Addr → L2.St → Hp → Prop

section
variable (Z : Ent) (W : Wish) (σ : L2.St)
/-- an error's end -/
def PostX (p : Pt) (c : Nat) (t : T) (μ : Mu) : Prop :=
  ∀ (C : Addr) (v : V) (dx : Addr) (H' : Hp) (q : Pt), Z.TB.exc c = some C → p.Le q → SR Z q H' μ → Z.H0 dx = none → q.N dx = some (.xd [("value", v)]) → RT Z q v t → W (.ref C) (some dx) σ H'
def Post (Q : VK) (p : Pt) (r : Ot T) : Prop := match r with
  | some (.ok t μ) => ∀ (v : V) (H' : Hp) (q : Pt), p.Le q → SR Z q H' μ → RT Z q v t → Q v H'
  | some (.exc c t μ) => PostX Z W σ p c t μ
  | none => False
def PostA (Q : List V → Hp → Prop) (p : Pt) (r : Ot (List T)) : Prop := match r with
  | some (.ok ts μ) => ∀ (vs : List V) (H' : Hp) (q : Pt), p.Le q → SR Z q H' μ → RTs Z q vs ts → Q vs H'
  | some (.exc c t μ) => PostX Z W σ p c t μ
  | none => False
def PostB (Q : Bool → Hp → Prop) (p : Pt) (r : Ot Bool) : Prop := match r with
  | some (.ok b μ) => ∀ (H' : Hp) (q : Pt), p.Le q → SR Z q H' μ → Q b H'
  | some (.exc c t μ) => PostX Z W σ p c t μ
  | none => False
end

/-- the reading of a piece that does g -/
def tD (Z : Ent) (W : Wish) (g : De) : TE := fun σ H Q => ∃ (p : Pt) (μ : Mu) (Γ : Gam), SR Z p H μ ∧ ER Z p σ Γ ∧ Post Z W σ Q p (g Γ μ)
def tDA (Z : Ent) (W : Wish) (g : Da) : TA := fun σ H Q => ∃ (p : Pt) (μ : Mu) (Γ : Gam), SR Z p H μ ∧ ER Z p σ Γ ∧ PostA Z W σ Q p (g Γ μ)
def tDB (Z : Ent) (W : Wish) (g : Gam → Mu → Ot Bool) : TT := fun σ H Q => ∃ (p : Pt) (μ : Mu) (Γ : Gam), SR Z p H μ ∧ ER Z p σ Γ ∧ PostB Z W σ Q p (g Γ μ)

/-! weaker readings -/
theorem pe_imp {X : Cx} {e : Expr} {t u : TE} (h : PE X e t) (i : ∀ σ H Q, u σ H Q → t σ H Q) : PE X e u := ⟨fun pins s σ H Q I q => h.run pins s σ H Q I (i σ H Q q)⟩
theorem pt_imp {X : Cx} {e : Expr} {t u : TT} (h : PT X e t) (i : ∀ σ H Q, u σ H Q → t σ H Q) : PT X e u := ⟨fun pins s σ H Q I q => h.run pins s σ H Q I (i σ H Q q)⟩
theorem pa_imp {X : Cx} {es : List Expr} {t u : TA} (h : PA X es t) (i : ∀ σ H Q, u σ H Q → t σ H Q) : PA X es u := ⟨fun pos pins s σ H Q I q => h.run pos pins s σ H Q I (i σ H Q q)⟩
theorem ps_imp {X : Cx} {e : Stmt} {t u : TS} (h : PS X e t) (i : ∀ D σ H, u D σ H → t D σ H) : PS X e u := ⟨fun pins s σ H D I q => h.run pins s σ H D I (i D σ H q)⟩
theorem pss_imp {X : Cx} {e : List Stmt} {t u : TS} (h : PSs X e t) (i : ∀ D σ H, u D σ H → t D σ H) : PSs X e u := ⟨fun pins s σ H D I q => h.run pins s σ H D I (i D σ H q)⟩

section
variable {Z : Ent} {W : Wish} {σ : L2.St} {p q : Pt} {H : Hp} {μ : Mu} {Γ : Gam}

theorem PostX.le {c : Nat} {t : T} (e : p.Le q) (h : PostX Z W σ p c t μ) : PostX Z W σ q c t μ :=
  fun C v dx H' r hc hl hs h0 hd hr => h C v dx H' r hc (e.trans hl) hs h0 hd hr
theorem Post.le {Q : VK} {r : Ot T} (e : p.Le q) (h : Post Z W σ Q p r) : Post Z W σ Q q r := by
  match r, h with
  | some (.ok t μ), h => exact fun v H' r hl => h v H' r (e.trans hl)
  | some (.exc c t μ), h => exact PostX.le e h
/-- one piece, then what hangs on its value -/
theorem tD_bind {g : De} {k : T → Mu → Ot T} {Q : VK} (s : SR Z p H μ) (e : ER Z p σ Γ) (h : Post Z W σ Q p (Ot.bind (g Γ μ) k)) :
    tD Z W g σ H fun v H1 => ∃ (q : Pt) (μ1 : Mu) (t : T), p.Le q ∧ SR Z q H1 μ1 ∧ ER Z q σ Γ ∧ RT Z q v t ∧ Post Z W σ Q q (k t μ1) := by
  refine ⟨p, μ, Γ, s, e, ?_⟩
  match hg : g Γ μ, h with
  | some (.ok t μ1), h =>
    have h : Post Z W σ Q p (k t μ1) := h
    exact fun v H' q hl hs hr => ⟨q, μ1, t, hl, hs, e.mono hl, hr, Post.le hl h⟩
  | some (.exc c t μ1), h => exact h
theorem tD_bindA {g : De} {k : T → Mu → Ot (List T)} {Q : List V → Hp → Prop} (s : SR Z p H μ) (e : ER Z p σ Γ) (h : PostA Z W σ Q p (Ot.bind (g Γ μ) k)) :
    tD Z W g σ H fun v H1 => ∃ (q : Pt) (μ1 : Mu) (t : T), p.Le q ∧ SR Z q H1 μ1 ∧ ER Z q σ Γ ∧ RT Z q v t ∧ PostA Z W σ Q q (k t μ1) := by
  refine ⟨p, μ, Γ, s, e, ?_⟩
  match hg : g Γ μ, h with
  | some (.ok t μ1), h =>
    have h : PostA Z W σ Q p (k t μ1) := h
    refine fun v H' q hl hs hr => ⟨q, μ1, t, hl, hs, e.mono hl, hr, ?_⟩
    match hk : k t μ1, h with
    | some (.ok t μ), h => exact fun v H' r hl' => h v H' r (hl.trans hl')
    | some (.exc c t μ), h => exact PostX.le hl h
  | some (.exc c t μ1), h => exact h
theorem PostB.le {Q : Bool → Hp → Prop} {r : Ot Bool} (e : p.Le q) (h : PostB Z W σ Q p r) : PostB Z W σ Q q r := by
  match r, h with
  | some (.ok t μ), h => exact fun H' r hl => h H' r (e.trans hl)
  | some (.exc c t μ), h => exact PostX.le e h
theorem PostA.le {Q : List V → Hp → Prop} {r : Ot (List T)} (e : p.Le q) (h : PostA Z W σ Q p r) : PostA Z W σ Q q r := by
  match r, h with
  | some (.ok t μ), h => exact fun v H' r hl => h v H' r (e.trans hl)
  | some (.exc c t μ), h => exact PostX.le e h
theorem tD_bindB {g : De} {k : T → Mu → Ot Bool} {Q : Bool → Hp → Prop} (s : SR Z p H μ) (e : ER Z p σ Γ) (h : PostB Z W σ Q p (Ot.bind (g Γ μ) k)) :
    tD Z W g σ H fun v H1 => ∃ (q : Pt) (μ1 : Mu) (t : T), p.Le q ∧ SR Z q H1 μ1 ∧ ER Z q σ Γ ∧ RT Z q v t ∧ PostB Z W σ Q q (k t μ1) := by
  refine ⟨p, μ, Γ, s, e, ?_⟩
  match hg : g Γ μ, h with
  | some (.ok t μ1), h =>
    have h : PostB Z W σ Q p (k t μ1) := h
    exact fun v H' q hl hs hr => ⟨q, μ1, t, hl, hs, e.mono hl, hr, PostB.le hl h⟩
  | some (.exc c t μ1), h => exact h
theorem tDB_bind {g : Gam → Mu → Ot Bool} {k : Bool → Mu → Ot T} {Q : VK} (s : SR Z p H μ) (e : ER Z p σ Γ) (h : Post Z W σ Q p (Ot.bind (g Γ μ) k)) :
    tDB Z W g σ H fun b H1 => ∃ (q : Pt) (μ1 : Mu), p.Le q ∧ SR Z q H1 μ1 ∧ ER Z q σ Γ ∧ Post Z W σ Q q (k b μ1) := by
  refine ⟨p, μ, Γ, s, e, ?_⟩
  match hg : g Γ μ, h with
  | some (.ok t μ1), h =>
    have h : Post Z W σ Q p (k t μ1) := h
    exact fun H' q hl hs => ⟨q, μ1, hl, hs, e.mono hl, Post.le hl h⟩
  | some (.exc c t μ1), h => exact h
theorem tDB_bindB {g : Gam → Mu → Ot Bool} {k : Bool → Mu → Ot Bool} {Q : Bool → Hp → Prop} (s : SR Z p H μ) (e : ER Z p σ Γ) (h : PostB Z W σ Q p (Ot.bind (g Γ μ) k)) :
    tDB Z W g σ H fun b H1 => ∃ (q : Pt) (μ1 : Mu), p.Le q ∧ SR Z q H1 μ1 ∧ ER Z q σ Γ ∧ PostB Z W σ Q q (k b μ1) := by
  refine ⟨p, μ, Γ, s, e, ?_⟩
  match hg : g Γ μ, h with
  | some (.ok t μ1), h =>
    have h : PostB Z W σ Q p (k t μ1) := h
    exact fun H' q hl hs => ⟨q, μ1, hl, hs, e.mono hl, PostB.le hl h⟩
  | some (.exc c t μ1), h => exact h
theorem tDA_bind {g : Da} {k : List T → Mu → Ot T} {Q : VK} (s : SR Z p H μ) (e : ER Z p σ Γ) (h : Post Z W σ Q p (Ot.bind (g Γ μ) k)) :
    tDA Z W g σ H fun vs H1 => ∃ (q : Pt) (μ1 : Mu) (ts : List T), p.Le q ∧ SR Z q H1 μ1 ∧ ER Z q σ Γ ∧ RTs Z q vs ts ∧ Post Z W σ Q q (k ts μ1) := by
  refine ⟨p, μ, Γ, s, e, ?_⟩
  match hg : g Γ μ, h with
  | some (.ok t μ1), h =>
    have h : Post Z W σ Q p (k t μ1) := h
    exact fun v H' q hl hs hr => ⟨q, μ1, t, hl, hs, e.mono hl, hr, Post.le hl h⟩
  | some (.exc c t μ1), h => exact h
theorem tDA_bindA {g : Da} {k : List T → Mu → Ot (List T)} {Q : List V → Hp → Prop} (s : SR Z p H μ) (e : ER Z p σ Γ) (h : PostA Z W σ Q p (Ot.bind (g Γ μ) k)) :
    tDA Z W g σ H fun vs H1 => ∃ (q : Pt) (μ1 : Mu) (ts : List T), p.Le q ∧ SR Z q H1 μ1 ∧ ER Z q σ Γ ∧ RTs Z q vs ts ∧ PostA Z W σ Q q (k ts μ1) := by
  refine ⟨p, μ, Γ, s, e, ?_⟩
  match hg : g Γ μ, h with
  | some (.ok t μ1), h =>
    have h : PostA Z W σ Q p (k t μ1) := h
    exact fun v H' q hl hs hr => ⟨q, μ1, t, hl, hs, e.mono hl, hr, PostA.le hl h⟩
  | some (.exc c t μ1), h => exact h

/-- a value stands for itself -/
theorem RT.up {v : V} (s : SR Z p H μ) {d : D} (f : Bool) (h : RT Z p v (.v f d)) : Dx Z.K Z.TB H v d := by
  cases f
  · exact Dx.mono s.sub d h
  · exact Dx.mono (s.nin.trans s.sub) d h
theorem RT.old {v : V} (s : SR Z p H μ) {d : D} {f : Bool} (h : RT Z p v (.v f d)) : RT Z p v (.v false d) := by
  cases f
  · exact h
  · exact Dx.mono s.nin d h
theorem RT.atom {v : V} {d : D} {f : Bool} (h : RT Z p v (.v f d)) (a : d.atom = true) (f' : Bool) : RT Z q v (.v f' d) := by
  cases f <;> cases f' <;> exact Dx.atomic h a
/-- an item of what is new is new; an atom always is -/
def mkT (f : Bool) (d : D) : T := .v (f || d.atom) d
theorem RT.mk {v : V} {d : D} {f : Bool} (h : RT Z p v (.v f d)) : RT Z p v (mkT f d) := by
  unfold mkT
  cases ha : d.atom
  · rw [Bool.or_false]; exact h
  · exact h.atom ha _
theorem RTs.mk {f : Bool} : ∀ {vs : List V} {ds : List D}, (∀ (i : Nat) v d, vs[i]? = some v → ds[i]? = some d → RT Z p v (.v f d)) → vs.length = ds.length → RTs Z p vs (ds.map (mkT f))
  | [], [], _, _ => .nil
  | v :: vs, d :: ds, h, e => .cons (RT.mk (h 0 v d rfl rfl)) (RTs.mk (fun i v' d' h1 h2 => h (i + 1) v' d' (by simpa using h1) (by simpa using h2)) (by simpa using e))
  | [], _ :: _, _, e => by simp at e
  | _ :: _, [], _, e => by simp at e
/-- the values of a list: all of it for good, and whether all of it is new -/
def pack : List T → Option (Bool × List D)
  | [] => some (true, [])
  | .v f d :: r => match pack r with
    | some (g, ds) => some (f && g, d :: ds)
    | none => none
  | .m _ :: _ => none
theorem pack_ok (s : SR Z p H μ) : ∀ {ts : List T} {vs : List V} {f : Bool} {ds : List D}, pack ts = some (f, ds) → RTs Z p vs ts →
    (f = true → DxAll Z.K Z.TB p.N vs ds) ∧ DxAll Z.K Z.TB p.F vs ds
  | [], vs, f, ds, h, r => by
    cases h
    cases r
    exact ⟨fun _ => .nil, .nil⟩
  | .m _ :: _, vs, f, ds, h, r => by cases h
  | .v g d :: ts, vs, f, ds, h, r => by
    cases r with
    | cons r1 r2 =>
      unfold pack at h
      match hp : pack ts, h with
      | some (g', ds'), h =>
        cases h
        obtain ⟨h1, h2⟩ := pack_ok s hp r2
        refine ⟨fun e => ?_, .cons (show RT Z p _ (.v false d) from r1.old s) h2⟩
        obtain ⟨e1, e2⟩ := Bool.and_eq_true_iff.mp e
        subst e1
        exact .cons r1 (h1 e2)
end
end L3

set_option Elab.async false
set_option linter.all false
set_option maxRecDepth 100000
set_option maxHeartbeats 4000000
/-! L3, third part: new objects, lists that change, lists that stand still from now on, what is read. -/
namespace L3
open PySem PySem.Spec PyProof.Rows L2

section
variable {Z : Ent} {p q : Pt} {H : Hp} {μ : Mu} {σ : L2.St} {Γ : Gam}

theorem same_upd {H H' : Hp} {a : Addr} {o : HO} (h : Same H H') (n : H a = none) : Same H (upd H' a o) := fun b u e => by
  rw [upd_ne (ne_of_none e n)]
  exact h b u e
theorem same_upd2 {H H' : Hp} {a : Addr} {o : HO} (h : Same H H') : Same (upd H a o) (upd H' a o) := fun b u e => by
  by_cases hb : b = a
  · subst hb; rw [upd_same] at e ⊢; exact e
  · rw [upd_ne hb] at e ⊢; exact h b u e

theorem SR.free0 (s : SR Z p H μ) {a : Addr} (n : H a = none) : Z.H0 a = none := by
  cases e : Z.H0 a with
  | none => rfl
  | some o =>
    obtain ⟨o', h⟩ := s.dom a o e
    rw [n] at h; cases h
theorem SR.freeF (s : SR Z p H μ) {a : Addr} (n : H a = none) : p.F a = none := s.sub.free n
theorem SR.freeN (s : SR Z p H μ) {a : Addr} (n : H a = none) : p.N a = none := s.nin.free (s.freeF n)
theorem Cell.mono {a : Addr} (e : p.Le q) {H' : Hp} (h : H' a = H a) : ∀ {c : Cell}, CellOk Z p H a c → CellOk Z q H' a c
  | .lst ts, ⟨vs, h1, h2⟩ => ⟨vs, h.trans h1, h2.mono e⟩
  | .tup ts, ⟨vs, h1, h2⟩ => ⟨vs, h.trans h1, h2.mono e⟩
  | .obj c ts, ⟨C, dx, fs, names, h1, h2, h3, h4⟩ => ⟨C, dx, fs, names, h.trans h1, h2, h3, h4.mono e⟩
  | .dT ks ts, ⟨kvs, h1, h2, h3⟩ => ⟨kvs, h.trans h1, h2, h3.mono e⟩
  | .dK ks ts, ⟨kvs, h1, h2, h3⟩ => ⟨kvs, h.trans h1, h2, h3.mono e⟩
  | .frz f d, h1 => RT.mono e h1
  | .hid, _ => trivial

/-- a new object that stands for good; f: nothing in it is older than the entry -/
def Pt.add (p : Pt) (f : Bool) (a : Addr) (o : HO) : Pt := ⟨upd p.F a o, if f then upd p.N a o else p.N, p.ms⟩
theorem Pt.add_le {f : Bool} {a : Addr} {o : HO} (hF : p.F a = none) (hN : p.N a = none) : p.Le (p.add f a o) :=
  ⟨same_upd (Same.refl _) hF, by
    cases f
    · exact Same.refl _
    · exact same_upd (Same.refl _) hN, List.prefix_refl _⟩
theorem SR.add (s : SR Z p H μ) {f : Bool} {a : Addr} {o : HO} (n : H a = none) : SR Z (p.add f a o) (upd H a o) μ where
  sub := same_upd2 s.sub
  nin := by
    cases f
    · exact same_upd s.nin (s.freeN n)
    · exact same_upd2 s.nin
  fr := fun b u e => by
    cases f
    · exact s.fr b u e
    · by_cases hb : b = a
      · subst hb; exact s.free0 n
      · have e' : upd p.N a o b = some u := e
        rw [upd_ne hb] at e'
        exact s.fr b u e'
  org := fun b u e => by
    by_cases hb : b = a
    · subst hb; exact .inr (s.free0 n)
    · have e' : upd p.F a o b = some u := e
      rw [upd_ne hb] at e'
      exact s.org b u e'
  keep := fun b u e hb => by rw [upd_ne (ne_of_none e (s.free0 n))]; exact s.keep b u e hb
  dom := fun b u e => by rw [upd_ne (ne_of_none e (s.free0 n))]; exact s.dom b u e
  pre := s.pre
  nd := s.nd
  len := s.len
  nof := fun j b c hj hc hl => by
    obtain ⟨u, hu⟩ := s.trk b (List.mem_of_getElem? hj)
    show upd p.F a o b = none
    rw [upd_ne (ne_of_none hu n)]
    exact s.nof j b c hj hc hl
  trk := fun b hb => by
    obtain ⟨u, hu⟩ := s.trk b hb
    exact ⟨u, by rw [upd_ne (ne_of_none hu n)]; exact hu⟩
  new := s.new
  cell := fun j b c hj hc => by
    obtain ⟨u, hu⟩ := s.trk b (List.mem_of_getElem? hj)
    exact Cell.mono (Pt.add_le (s.freeF n) (s.freeN n)) (upd_ne (ne_of_none hu n)) (s.cell j b c hj hc)
theorem SR.add_le (s : SR Z p H μ) {f : Bool} {a : Addr} {o : HO} (n : H a = none) : p.Le (p.add f a o) := Pt.add_le (s.freeF n) (s.freeN n)

/-- a new cell -/
def Pt.push (p : Pt) (a : Addr) : Pt := ⟨p.F, p.N, p.ms ++ [a]⟩
theorem Pt.push_le {a : Addr} : p.Le (p.push a) := ⟨Same.refl _, Same.refl _, List.prefix_append _ _⟩
theorem get_snoc {α : Type} {l : List α} {x : α} {j : Nat} {y : α} (h : (l ++ [x])[j]? = some y) : (j < l.length ∧ l[j]? = some y) ∨ (j = l.length ∧ y = x) := by
  by_cases hj : j < l.length
  · rw [List.getElem?_append_left hj] at h
    exact .inl ⟨hj, h⟩
  · rw [List.getElem?_append_right (Nat.le_of_not_lt hj)] at h
    have : j - l.length = 0 := by
      cases e : j - l.length with
      | zero => rfl
      | succ n => rw [e] at h; simp at h
    rw [this] at h
    simp at h
    exact .inr ⟨by omega, h.symm⟩
theorem SR.push (s : SR Z p H μ) {a : Addr} {o : HO} {c : Cell} (n : H a = none) (hl : c.live = true) (hc : CellOk Z (p.push a) (upd H a o) a c) : SR Z (p.push a) (upd H a o) (μ ++ [c]) where
  sub := same_upd s.sub (s.freeF n)
  nin := s.nin
  fr := s.fr
  org := s.org
  keep := fun b u e hb => by rw [upd_ne (ne_of_none e (s.free0 n))]; exact s.keep b u e hb
  dom := fun b u e => by rw [upd_ne (ne_of_none e (s.free0 n))]; exact s.dom b u e
  pre := s.pre.trans (List.prefix_append _ _)
  nd := by
    show (p.ms ++ [a]).Nodup
    rw [List.nodup_append]
    refine ⟨s.nd, by simp, fun b hb c hc => ?_⟩
    obtain ⟨u, hu⟩ := s.trk b hb
    have : c = a := by simpa using hc
    subst this
    exact ne_of_none hu n
  len := by
    show (p.ms ++ [a]).length = (μ ++ [c]).length
    simp [s.len]
  nof := fun j b d hj hd hl => by
    rcases get_snoc hj with ⟨h1, h2⟩ | ⟨h1, h2⟩
    · rw [List.getElem?_append_left (by rw [← s.len]; exact h1)] at hd
      exact s.nof j b d h2 hd hl
    · subst h2; exact s.freeF n
  trk := fun b hb => by
    rcases List.mem_append.mp (show b ∈ p.ms ++ [a] from hb) with hb | hb
    · obtain ⟨u, hu⟩ := s.trk b hb
      exact ⟨u, by rw [upd_ne (ne_of_none hu n)]; exact hu⟩
    · have : b = a := by simpa using hb
      subst this
      exact ⟨_, upd_same⟩
  new := fun j b hj hb => by
    rcases get_snoc hj with ⟨h1, h2⟩ | ⟨h1, h2⟩
    · exact s.new j b h2 hb
    · subst h2; exact s.free0 n
  cell := fun j b d hj hd => by
    rcases get_snoc hj with ⟨h1, h2⟩ | ⟨h1, h2⟩
    · rw [List.getElem?_append_left (by rw [← s.len]; exact h1)] at hd
      obtain ⟨u, hu⟩ := s.trk b (List.mem_of_getElem? h2)
      exact Cell.mono Pt.push_le (upd_ne (ne_of_none hu n)) (s.cell j b d h2 hd)
    · subst h2
      rw [h1, s.len, List.getElem?_append_right (Nat.le_refl _), Nat.sub_self] at hd
      have : d = c := by simpa using hd.symm
      subst this
      exact hc

/-- a cell is written -/
theorem SR.write (s : SR Z p H μ) {j : Nat} {a : Addr} {o : HO} {c c' : Cell} (hj : p.ms[j]? = some a) (hc : μ[j]? = some c) (hl : c.live = true) (hl' : c'.live = true) (ho : CellOk Z p (upd H a o) a c') : SR Z p (upd H a o) (μ.set j c') where
  sub := fun b u e => by
    have : b ≠ a := ne_of_none e (s.nof j a c hj hc hl)
    rw [upd_ne this]
    exact s.sub b u e
  nin := s.nin
  fr := s.fr
  org := s.org
  keep := fun b u e hb => by
    by_cases hba : b = a
    · subst hba
      by_cases h0 : Z.ms0.length ≤ j
      · rw [s.new j b hj h0] at e; cases e
      · obtain ⟨l, hl⟩ := s.pre
        rw [← hl, List.getElem?_append_left (Nat.lt_of_not_le h0)] at hj
        exact absurd (List.mem_of_getElem? hj) hb
    · rw [upd_ne hba]
      exact s.keep b u e hb
  dom := fun b u e => by
    by_cases hba : b = a
    · subst hba; exact ⟨_, upd_same⟩
    · rw [upd_ne hba]; exact s.dom b u e
  pre := s.pre
  nd := s.nd
  len := by rw [List.length_set]; exact s.len
  nof := fun i b d hi hd hld => by
    by_cases e : j = i
    · subst e
      rw [hj] at hi; cases hi
      exact s.nof j a c hj hc hl
    · rw [List.getElem?_set_ne e] at hd
      exact s.nof i b d hi hd hld
  trk := fun b hb => by
    by_cases hba : b = a
    · subst hba; exact ⟨_, upd_same⟩
    · rw [upd_ne hba]; exact s.trk b hb
  new := s.new
  cell := fun i b d hi hd => by
    by_cases e : j = i
    · subst e
      rw [hj] at hi; cases hi
      rw [List.getElem?_set_self (by rw [← s.len]; exact (List.getElem?_eq_some_iff.mp hj).1)] at hd
      cases hd
      exact ho
    · rw [List.getElem?_set_ne e] at hd
      have : b ≠ a := fun z => by subst z; exact e (nd_ix s.nd hj hi)
      exact Cell.mono (Pt.Le.refl _) (upd_ne this) (s.cell i b d hi hd)

/-- a list stands still from now on -/
theorem SR.freeze (s : SR Z p H μ) {j : Nat} {a : Addr} {ts : List T} {f : Bool} {ds : List D} (hj : p.ms[j]? = some a) (hc : μ[j]? = some (.lst ts)) (h0 : Z.ms0.length ≤ j) (hp : pack ts = some (f, ds)) :
    ∃ o, H a = some o ∧ SR Z (p.add f a o) H (μ.set j (.frz f (.lst ds))) ∧ p.Le (p.add f a o) ∧ RT Z (p.add f a o) (.ref a) (.v f (.lst ds)) := by
  obtain ⟨vs, ha, hr⟩ := s.cell j a _ hj hc
  have hF := s.nof j a _ hj hc rfl
  have hN := s.nin.free hF
  have le : p.Le (p.add f a (.lst vs)) := Pt.add_le hF hN
  obtain ⟨r1, r2⟩ := pack_ok s hp hr
  have rt : RT Z (p.add f a (.lst vs)) (.ref a) (.v f (.lst ds)) := by
    cases f
    · refine Dx.lst (?_) (DxAll.mono le.f ds r2)
      show upd p.F a _ a = _
      exact upd_same
    · refine Dx.lst (?_) (DxAll.mono le.n ds (r1 rfl))
      show upd p.N a _ a = _
      exact upd_same
  refine ⟨.lst vs, ha, ⟨fun b u e => ?_, ?_, fun b u e => ?_, fun b u e => ?_, s.keep, s.dom, s.pre, s.nd, by rw [List.length_set]; exact s.len, fun i b d hi hd hl => ?_, s.trk, s.new, fun i b d hi hd => ?_⟩, le, rt⟩
  · by_cases hb : b = a
    · subst hb
      have e' : upd p.F b (.lst vs) b = some u := e
      rw [upd_same] at e'
      rw [ha]; exact e'
    · have e' : upd p.F a (.lst vs) b = some u := e
      rw [upd_ne hb] at e'
      exact s.sub b u e'
  · cases f
    · exact same_upd s.nin hN
    · exact same_upd2 s.nin
  · cases f
    · exact s.fr b u e
    · by_cases hb : b = a
      · subst hb; exact s.new j b hj h0
      · have e' : upd p.N a (.lst vs) b = some u := e
        rw [upd_ne hb] at e'
        exact s.fr b u e'
  · by_cases hb : b = a
    · subst hb; exact .inr (s.new j b hj h0)
    · have e' : upd p.F a (.lst vs) b = some u := e
      rw [upd_ne hb] at e'
      exact s.org b u e'
  · by_cases e : j = i
    · subst e
      rw [List.getElem?_set_self (by rw [← s.len]; exact (List.getElem?_eq_some_iff.mp hj).1)] at hd
      cases hd
      cases hl
    · rw [List.getElem?_set_ne e] at hd
      have : b ≠ a := fun z => by subst z; exact e (nd_ix s.nd hj hi)
      show upd p.F a _ b = none
      rw [upd_ne this]
      exact s.nof i b d hi hd hl
  · by_cases e : j = i
    · subst e
      rw [List.getElem?_set_self (by rw [← s.len]; exact (List.getElem?_eq_some_iff.mp hj).1)] at hd
      cases hd
      have hi' : p.ms[j]? = some b := hi
      rw [hj] at hi'; cases hi'
      exact rt
    · rw [List.getElem?_set_ne e] at hd
      exact Cell.mono le rfl (s.cell i b d hi hd)

/-- values that speak of the first k cells alone -/
def T.low (k : Nat) : T → Bool
  | .v _ _ => true
  | .m j => decide (j < k)
def Cell.low (k : Nat) : Cell → Bool
  | .lst ts => ts.all (T.low k)
  | .tup ts => ts.all (T.low k)
  | .obj _ ts => ts.all (T.low k)
  | .dT _ ts => ts.all (T.low k)
  | .dK _ ts => ts.all (T.low k)
  | .frz _ _ => true
  | .hid => true
def Pt.cut (p : Pt) (k : Nat) : Pt := ⟨p.F, p.N, p.ms.take k⟩
theorem RT.low {k : Nat} {v : V} : ∀ {t : T}, t.low k = true → RT Z p v t → RT Z (p.cut k) v t
  | .v true _, _, h => h
  | .v false _, _, h => h
  | .m j, e, ⟨a, h, r⟩ => ⟨a, by
      have : j < k := of_decide_eq_true e
      show (p.ms.take k)[j]? = some a
      rw [List.getElem?_take_of_lt this]
      exact h, r⟩
theorem RTs.low {k : Nat} : ∀ {vs : List V} {ts : List T}, ts.all (T.low k) = true → RTs Z p vs ts → RTs Z (p.cut k) vs ts
  | _, _, _, .nil => .nil
  | _, _, e, .cons h t => by
    rw [List.all_cons, Bool.and_eq_true_iff] at e
    exact .cons (h.low e.1) (RTs.low e.2 t)
theorem CellOk.low {k : Nat} {a : Addr} : ∀ {c : Cell}, c.low k = true → CellOk Z p H a c → CellOk Z (p.cut k) H a c
  | .lst ts, e, ⟨vs, h1, h2⟩ => ⟨vs, h1, h2.low e⟩
  | .tup ts, e, ⟨vs, h1, h2⟩ => ⟨vs, h1, h2.low e⟩
  | .obj c ts, e, ⟨C, dx, fs, names, h1, h2, h3, h4⟩ => ⟨C, dx, fs, names, h1, h2, h3, h4.low e⟩
  | .dT ks ts, e, ⟨kvs, h1, h2, h3⟩ => ⟨kvs, h1, h2, h3.low e⟩
  | .dK ks ts, e, ⟨kvs, h1, h2, h3⟩ => ⟨kvs, h1, h2, h3.low e⟩
  | .frz f d, _, h1 => RT.low rfl h1
  | .hid, _, _ => trivial
theorem SR.cut (s : SR Z p H μ) {k : Nat} (h0 : Z.ms0.length ≤ k) (hl : (μ.take k).all (Cell.low k) = true) : SR Z (p.cut k) H (μ.take k) where
  sub := s.sub
  nin := s.nin
  fr := s.fr
  org := s.org
  keep := s.keep
  dom := s.dom
  pre := by
    show Z.ms0 <+: p.ms.take k
    rw [List.prefix_take_iff]
    exact ⟨s.pre, h0⟩
  nd := s.nd.sublist (List.take_sublist _ _)
  len := by
    show (p.ms.take k).length = (μ.take k).length
    rw [List.length_take, List.length_take, s.len]
  nof := fun j a c hj hc hl => by
    have hj : (p.ms.take k)[j]? = some a := hj
    rw [List.getElem?_take] at hj hc
    split at hj
    · rename_i h
      rw [if_pos h] at hc
      exact s.nof j a c hj hc hl
    · cases hj
  trk := fun a ha => s.trk a (List.mem_of_mem_take ha)
  new := fun j a hj => by
    have hj : (p.ms.take k)[j]? = some a := hj
    rw [List.getElem?_take] at hj
    split at hj
    · exact s.new j a hj
    · cases hj
  cell := fun j a c hj hc => by
    have hj : (p.ms.take k)[j]? = some a := hj
    have hlow : c.low k = true := List.all_eq_true.mp hl c (List.mem_of_getElem? hc)
    rw [List.getElem?_take] at hj hc
    split at hj
    · rename_i h
      rw [if_pos h] at hc
      exact (s.cell j a c hj hc).low hlow
    · cases hj
/-- what was said before the cells above k were made still stands -/
theorem SR.cut_le {r : Pt} (s : SR Z r H μ) (e : p.Le r) {k : Nat} (hk : p.ms.length ≤ k) : p.Le (r.cut k) :=
  ⟨e.f, e.n, by
    show p.ms <+: r.ms.take k
    rw [List.prefix_take_iff]
    exact ⟨e.m, hk⟩⟩
end
end L3

set_option Elab.async false
set_option linter.all false
set_option maxRecDepth 100000
set_option maxHeartbeats 4000000
/-! L3, fourth part: what values are to a reader. -/
namespace L3
open PySem PySem.Spec PyProof.Rows L2

/-- the items of a list or a tuple, as values; the Bool: a list -/
def itemsV (f : Bool) : D → Option (Bool × List T)
  | .lst xs => some (true, xs.map (mkT f))
  | .tup xs => some (false, xs.map (mkT f))
  | .scr ns => some (true, ns.map fun n => .v true (.int n))
  | _ => none
def items (μ : Mu) : T → Option (Bool × List T)
  | .v f d => itemsV f d
  | .m j => match μ[j]? with
    | some (.lst ts) => some (true, ts)
    | some (.tup ts) => some (false, ts)
    | some (.frz f d) => itemsV f d
    | _ => none

mutual
/-- data without instances, as the library has it -/
def D.py : D → Option PyData
  | .non => some .none
  | .bl b => some (.bool b)
  | .int i => some (.int i)
  | .str s => some (.str s)
  | .lst xs => match D.pys xs with | some ds => some (.list ds) | none => none
  | .tup xs => match D.pys xs with | some ds => some (.tuple ds) | none => none
  | .obj _ _ => none
  | .dT _ _ => none
  | .scr ns => some (.list (ns.map PyData.int))
def D.pys : List D → Option (List PyData)
  | [] => some []
  | x :: xs => match D.py x, D.pys xs with
    | some d, some ds => some (d :: ds)
    | _, _ => none
end

theorem dp_ints {K : PySem.W.Frag} {H : Hp} : ∀ ns : List Int, DpAll K H (ns.map V.int) (ns.map PyData.int)
  | [] => .nil
  | _ :: ns => .cons (.int _) (dp_ints ns)
section
variable {Z : Ent} {p q : Pt} {H : Hp} {μ : Mu}
mutual
theorem Dx.py {K : PySem.W.Frag} {TB : Tab} : ∀ (d : D) {v : V} {e : PyData}, Dx K TB H v d → d.py = some e → Dp K H v e
  | .non, _, _, h, r => by cases h; simp [D.py] at r; subst r; exact .non
  | .bl _, _, _, h, r => by cases h; simp [D.py] at r; subst r; exact .bl _
  | .int _, _, _, h, r => by cases h; simp [D.py] at r; subst r; exact .int _
  | .str _, _, _, h, r => by cases h; simp [D.py] at r; subst r; exact .str _
  | .lst xs, _, _, h, r => by
    cases h with
    | lst hs ha =>
      unfold D.py at r
      match hp : D.pys xs, r with
      | some ds, r => cases r; exact .lst (SqL.of hs) (DxAll.pys xs ha hp)
  | .tup xs, _, _, h, r => by
    cases h with
    | tup hs ha =>
      unfold D.py at r
      match hp : D.pys xs, r with
      | some ds, r => cases r; exact .tup (SqT.of hs) (DxAll.pys xs ha hp)
  | .obj _ _, _, _, h, r => by unfold D.py at r; cases r
  | .dT _ _, _, _, h, r => by unfold D.py at r; cases r
  | .scr ns, _, _, h, r => by
    cases h with
    | scr hs =>
      unfold D.py at r; cases r
      exact .lst hs (dp_ints ns)
theorem DxAll.pys {K : PySem.W.Frag} {TB : Tab} : ∀ (ds : List D) {vs : List V} {es : List PyData}, DxAll K TB H vs ds → D.pys ds = some es → DpAll K H vs es
  | [], _, _, h, r => by cases h; simp [D.pys] at r; subst r; exact .nil
  | d :: ds, _, _, h, r => by
    cases h with
    | cons h1 h2 =>
      unfold D.pys at r
      match hp : D.py d, hq : D.pys ds, r with
      | some e, some es, r => cases r; exact .cons (Dx.py d h1 hp) (DxAll.pys ds h2 hq)
end

theorem RTs.of_all {f : Bool} {vs : List V} {ds : List D} (h : DxAll Z.K Z.TB (if f then p.N else p.F) vs ds) : RTs Z p vs (ds.map (mkT f)) := by
  refine RTs.mk (fun i v d h1 h2 => ?_) h.length
  obtain ⟨v', e1, e2⟩ := h.get h2
  rw [h1] at e1; cases e1
  cases f
  · exact e2
  · exact e2
theorem SqL.up {K : PySem.W.Frag} {F H : Hp} (e : Same F H) {a : Addr} {xs : List V} (h : SqL K F a xs) : SqL K H a xs := e.seq h
theorem SqT.up {K : PySem.W.Frag} {F H : Hp} (e : Same F H) {a : Addr} {xs : List V} (h : SqT K F a xs) : SqT K H a xs := by
  rcases h with (z | ⟨o, z⟩) | z
  · exact .inl (.inl (e _ _ z))
  · exact .inl (.inr ⟨o, e _ _ z⟩)
  · exact .inr z

theorem rts_ints : ∀ ns : List Int, RTs Z p (ns.map V.int) (ns.map fun n => .v true (.int n))
  | [] => .nil
  | _ :: ns => .cons (Dx.int _) (rts_ints ns)
theorem items_v (s : SR Z p H μ) {f : Bool} {d : D} {v : V} {b : Bool} {ts : List T} (h : RT Z p v (.v f d)) (e : itemsV f d = some (b, ts)) :
    ∃ a vs, v = .ref a ∧ (if b then SqL Z.K H a vs else SqT Z.K H a vs) ∧ RTs Z p vs ts := by
  have up : Same (if f then p.N else p.F) H := by
    cases f
    · exact s.sub
    · exact s.nin.trans s.sub
  have h : Dx Z.K Z.TB (if f then p.N else p.F) v d := by
    cases f
    · exact h
    · exact h
  cases h with
  | lst hs ha =>
    cases e
    exact ⟨_, _, rfl, SqL.of (up _ _ hs), RTs.of_all ha⟩
  | tup hs ha =>
    cases e
    exact ⟨_, _, rfl, SqT.of (up _ _ hs), RTs.of_all ha⟩
  | non => cases e
  | bl => cases e
  | int => cases e
  | str => cases e
  | obj => cases e
  | dT => cases e
  | scr hs =>
    cases e
    exact ⟨_, _, rfl, SqL.up up hs, rts_ints _⟩
theorem items_ok (s : SR Z p H μ) {t : T} {v : V} {b : Bool} {ts : List T} (h : RT Z p v t) (e : items μ t = some (b, ts)) :
    ∃ a vs, v = .ref a ∧ (if b then SqL Z.K H a vs else SqT Z.K H a vs) ∧ RTs Z p vs ts := by
  match t, h, e with
  | .v f d, h, e => exact items_v s h e
  | .m j, ⟨a, hj, hv⟩, e =>
    subst hv
    simp only [items] at e
    cases hc : μ[j]? with
    | none => rw [hc] at e; cases e
    | some c =>
      rw [hc] at e
      cases c with
      | lst ts' =>
        cases e
        obtain ⟨vs, h1, h2⟩ := s.cell j a _ hj hc
        exact ⟨a, vs, rfl, SqL.of h1, h2⟩
      | tup ts' =>
        cases e
        obtain ⟨vs, h1, h2⟩ := s.cell j a _ hj hc
        exact ⟨a, vs, rfl, SqT.of h1, h2⟩
      | frz f d => exact items_v s (show RT Z p (.ref a) (.v f d) from s.cell j a _ hj hc) e
      | obj _ _ => cases e
      | dT _ _ => cases e
      | dK _ _ => cases e
      | hid => cases e
/-- a list that stands in the heap is not too long -/
theorem items_len {X : Cx} {pins : List (Addr × Obj)} {σ : L2.St} {st : Shared} (I : Inv X pins σ H st) (hK : X.K = Z.K) (s : SR Z p H μ) {t : T} {v : V} {b : Bool} {ts : List T} (h : RT Z p v t) (e : items μ t = some (b, ts)) : ts.length ≤ sizeLine := by
  obtain ⟨a, vs, _, h1, h2⟩ := items_ok s h e
  rw [← h2.length]
  cases b
  · have h1 : SqT Z.K H a vs := h1
    rw [← hK] at h1
    obtain ⟨_, _, _, z⟩ := I.tuple h1
    exact z
  · have h1 : SqL Z.K H a vs := h1
    rw [← hK] at h1
    obtain ⟨_, _, _, z⟩ := I.list h1
    exact z

/-- the whole value, as it stands now -/
def deep : Nat → Mu → T → Option D
  | _, _, .v _ d => some d
  | 0, _, .m _ => none
  | n + 1, μ, .m j => match μ[j]? with
    | some (.lst ts) => match ts.mapM (deep n μ) with
      | some ds => some (.lst ds)
      | none => none
    | some (.tup ts) => match ts.mapM (deep n μ) with
      | some ds => some (.tup ds)
      | none => none
    | some (.dT ks ts) => match ts.mapM (deep n μ) with
      | some ds => some (.dT ks ds)
      | none => none
    | some (.frz _ d) => some d
    | _ => none
theorem deeps_of {G : Hp} {n : Nat} (ih : ∀ {t : T} {v : V} {d : D}, RT Z p v t → deep n μ t = some d → Dx Z.K Z.TB G v d) : ∀ {ts : List T} {vs : List V} {ds : List D}, RTs Z p vs ts → ts.mapM (deep n μ) = some ds → DxAll Z.K Z.TB G vs ds
  | [], _, _, h, e => by cases h; simp at e; subst e; exact .nil
  | t :: ts, _, ds, h, e => by
    cases h with
    | cons h1 h2 =>
      rw [List.mapM_cons] at e
      match hd : deep n μ t, hds : ts.mapM (deep n μ), e with
      | some d, some ds', e =>
        simp at e
        subst e
        exact .cons (ih h1 hd) (deeps_of ih h2 hds)
      | some d, none, e => simp at e
      | none, _, e => simp at e
/-- read in any heap that holds what is asked -/
theorem deep_in {G : Hp} (hF : Same p.F G) (hN : Same p.N p.F) (hC : ∀ (j : Nat) (a : Addr) (c : Cell), p.ms[j]? = some a → μ[j]? = some c → CellOk Z p G a c) :
    ∀ {n : Nat} {t : T} {v : V} {d : D}, RT Z p v t → deep n μ t = some d → Dx Z.K Z.TB G v d
  | _, .v f d, v, d', h, e => by
    have : d = d' := by unfold deep at e; exact Option.some.inj e
    subst this
    cases f
    · exact Dx.mono hF d h
    · exact Dx.mono (hN.trans hF) d h
  | 0, .m j, v, d, h, e => by unfold deep at e; cases e
  | n + 1, .m j, v, d, ⟨a, hj, hv⟩, e => by
    subst hv
    unfold deep at e
    cases hc : μ[j]? with
    | none => simp only [hc] at e; cases e
    | some c =>
      have q := hC j a c hj hc
      cases c with
      | lst ts =>
        obtain ⟨vs, h1, h2⟩ := q
        simp only [hc] at e
        cases hm : ts.mapM (deep n μ) with
        | none => rw [hm] at e; cases e
        | some ds =>
          rw [hm] at e
          cases e
          exact .lst h1 (deeps_of (fun h e => deep_in hF hN hC h e) h2 hm)
      | tup ts =>
        obtain ⟨vs, h1, h2⟩ := q
        simp only [hc] at e
        cases hm : ts.mapM (deep n μ) with
        | none => rw [hm] at e; cases e
        | some ds =>
          rw [hm] at e
          cases e
          exact .tup h1 (deeps_of (fun h e => deep_in hF hN hC h e) h2 hm)
      | dT ks ts =>
        obtain ⟨kvs, h1, h2, h3⟩ := q
        simp only [hc] at e
        cases hm : ts.mapM (deep n μ) with
        | none => rw [hm] at e; cases e
        | some ds =>
          rw [hm] at e
          cases e
          subst h2
          exact .dT h1 (deeps_of (fun h e => deep_in hF hN hC h e) h3 hm)
      | frz f d' =>
        simp only [hc] at e
        cases e
        have q : RT Z p (.ref a) (.v f d) := q
        cases f
        · exact Dx.mono hF d q
        · exact Dx.mono (hN.trans hF) d q
      | obj _ _ => simp only [hc] at e; cases e
      | hid => simp only [hc] at e; cases e
      | dK _ _ => simp only [hc] at e; cases e
theorem deep_ok (s : SR Z p H μ) {n : Nat} {t : T} {v : V} {d : D} (h : RT Z p v t) (e : deep n μ t = some d) : Dx Z.K Z.TB H v d :=
  deep_in s.sub s.nin s.cell h e
end
end L3

set_option Elab.async false
set_option linter.all false
set_option maxRecDepth 100000
set_option maxHeartbeats 4000000
/-! L3, fifth part: operators, by values. -/
namespace L3
open PySem PySem.Spec PyProof.Rows L2

abbrev Vt := Option (T × Mu)
def VPost (Z : Ent) (Q : VK) (p : Pt) (r : Vt) : Prop := match r with
  | some (t, μ) => ∀ (v : V) (H' : Hp) (q : Pt), p.Le q → SR Z q H' μ → RT Z q v t → Q v H'
  | none => False
def Vt.ot (r : Vt) : Ot T := match r with
  | some (t, μ) => some (.ok t μ)
  | none => none

/-- items that stand as a plain list or tuple -/
def itemsPV (f : Bool) : D → Option (Bool × List T)
  | .lst xs => some (true, xs.map (mkT f))
  | .tup xs => some (false, xs.map (mkT f))
  | _ => none
def itemsP (μ : Mu) : T → Option (Bool × List T)
  | .v f d => itemsPV f d
  | .m j => match μ[j]? with
    | some (.lst ts) => some (true, ts)
    | some (.tup ts) => some (false, ts)
    | some (.frz f d) => itemsPV f d
    | _ => none

/-- a new list: to change, or for good -/
def newL (live : Bool) (μ : Mu) (ts : List T) : Vt :=
  if live then some (.m μ.length, μ ++ [.lst ts]) else match pack ts with
    | some (f, ds) => some (.v f (.lst ds), μ)
    | none => none
def newU (μ : Mu) (ts : List T) : Vt := match pack ts with
  | some (f, ds) => some (.v f (.tup ds), μ)
  | none => none

section
variable {Z : Ent} {p q : Pt} {H : Hp} {μ : Mu}
theorem VPost.post {W : Wish} {σ : L2.St} {Q : VK} {r : Vt} (h : Post Z W σ Q p r.ot) : VPost Z Q p r := by
  match r, h with
  | some (t, μ), h => exact h
theorem itemsPV_ok (s : SR Z p H μ) {f : Bool} {d : D} {v : V} {b : Bool} {ts : List T} (h : RT Z p v (.v f d)) (e : itemsPV f d = some (b, ts)) :
    ∃ a vs, v = .ref a ∧ H a = some (if b then .lst vs else .tup vs) ∧ RTs Z p vs ts := by
  have up : Same (if f then p.N else p.F) H := by
    cases f
    · exact s.sub
    · exact s.nin.trans s.sub
  have h : Dx Z.K Z.TB (if f then p.N else p.F) v d := by
    cases f
    · exact h
    · exact h
  cases h with
  | lst hs ha =>
    cases e
    exact ⟨_, _, rfl, up _ _ hs, RTs.of_all ha⟩
  | tup hs ha =>
    cases e
    exact ⟨_, _, rfl, up _ _ hs, RTs.of_all ha⟩
  | non => cases e
  | bl => cases e
  | int => cases e
  | str => cases e
  | obj => cases e
  | dT => cases e
  | scr => cases e
theorem itemsP_ok (s : SR Z p H μ) {t : T} {v : V} {b : Bool} {ts : List T} (h : RT Z p v t) (e : itemsP μ t = some (b, ts)) :
    ∃ a vs, v = .ref a ∧ H a = some (if b then .lst vs else .tup vs) ∧ RTs Z p vs ts := by
  match t, h, e with
  | .v f d, h, e => exact itemsPV_ok s h e
  | .m j, ⟨a, hj, hv⟩, e =>
    subst hv
    simp only [itemsP] at e
    cases hc : μ[j]? with
    | none => rw [hc] at e; cases e
    | some c =>
      rw [hc] at e
      cases c with
      | lst ts' =>
        cases e
        obtain ⟨vs, h1, h2⟩ := s.cell j a _ hj hc
        exact ⟨a, vs, rfl, h1, h2⟩
      | tup ts' =>
        cases e
        obtain ⟨vs, h1, h2⟩ := s.cell j a _ hj hc
        exact ⟨a, vs, rfl, h1, h2⟩
      | frz f d => exact itemsPV_ok s (show RT Z p (.ref a) (.v f d) from s.cell j a _ hj hc) e
      | obj _ _ => cases e
      | dT _ _ => cases e
      | dK _ _ => cases e
      | hid => cases e
theorem itemsP_items {t : T} {b : Bool} {ts : List T} (e : itemsP μ t = some (b, ts)) : items μ t = some (b, ts) := by
  have hv : ∀ f d, itemsPV f d = some (b, ts) → itemsV f d = some (b, ts) := fun f d e => by
    cases d <;> first | exact e | cases e
  cases t with
  | v f d => exact hv f d e
  | m j =>
    simp only [itemsP] at e
    simp only [items]
    cases hc : μ[j]? with
    | none => rw [hc] at e; cases e
    | some c =>
      rw [hc] at e
      cases c with
      | lst ts' => exact e
      | tup ts' => exact e
      | frz f d => exact hv f d e
      | obj _ _ => cases e
      | dT _ _ => cases e
      | dK _ _ => cases e
      | hid => cases e

/-- a new object for good: the list, the tuple -/
theorem add_lst (s : SR Z p H μ) {vs : List V} {ts : List T} {f : Bool} {ds : List D} (hp : pack ts = some (f, ds)) (r : RTs Z p vs ts) {a : Addr} (n : H a = none) :
    RT Z (p.add f a (.lst vs)) (.ref a) (.v f (.lst ds)) := by
  obtain ⟨r1, r2⟩ := pack_ok s hp r
  have le : p.Le (p.add f a (.lst vs)) := s.add_le n
  cases f
  · exact Dx.lst (show upd p.F a _ a = _ from upd_same) (DxAll.mono le.f ds r2)
  · exact Dx.lst (show upd p.N a _ a = _ from upd_same) (DxAll.mono le.n ds (r1 rfl))
theorem add_tup (s : SR Z p H μ) {vs : List V} {ts : List T} {f : Bool} {ds : List D} (hp : pack ts = some (f, ds)) (r : RTs Z p vs ts) {a : Addr} (n : H a = none) :
    RT Z (p.add f a (.tup vs)) (.ref a) (.v f (.tup ds)) := by
  obtain ⟨r1, r2⟩ := pack_ok s hp r
  have le : p.Le (p.add f a (.tup vs)) := s.add_le n
  cases f
  · exact Dx.tup (show upd p.F a _ a = _ from upd_same) (DxAll.mono le.f ds r2)
  · exact Dx.tup (show upd p.N a _ a = _ from upd_same) (DxAll.mono le.n ds (r1 rfl))
theorem newL_ok (s : SR Z p H μ) {live : Bool} {vs : List V} {ts : List T} {Q : VK} (r : RTs Z p vs ts) (h : VPost Z Q p (newL live μ ts)) {a : Addr} (n : H a = none) : Q (.ref a) (upd H a (.lst vs)) := by
  unfold newL at h
  cases live
  · rw [if_neg Bool.false_ne_true] at h
    cases hp : pack ts with
    | none => rw [hp] at h; exact h.elim
    | some fd =>
      obtain ⟨f, ds⟩ := fd
      rw [hp] at h
      exact h _ _ _ (s.add_le n) (s.add n) (add_lst s hp r n)
  · rw [if_pos rfl] at h
    refine h _ _ _ Pt.push_le (s.push (c := .lst ts) n rfl ⟨vs, upd_same, r.mono Pt.push_le⟩) ⟨a, ?_, rfl⟩
    show (p.ms ++ [a])[μ.length]? = some a
    rw [← s.len]
    simp
theorem newU_ok (s : SR Z p H μ) {vs : List V} {ts : List T} {Q : VK} (r : RTs Z p vs ts) (h : VPost Z Q p (newU μ ts)) {a : Addr} (n : H a = none) : Q (.ref a) (upd H a (.tup vs)) := by
  unfold newU at h
  cases hp : pack ts with
  | none => rw [hp] at h; exact h.elim
  | some fd =>
    obtain ⟨f, ds⟩ := fd
    rw [hp] at h
    exact h _ _ _ (s.add_le n) (s.add n) (add_tup s hp r n)
theorem RT.int {f : Bool} {i : Int} {v : V} (h : RT Z p v (.v f (.int i))) : v = .int i := by
  cases f <;> (cases h; rfl)
theorem RT.str {f : Bool} {i : Str} {v : V} (h : RT Z p v (.v f (.str i))) : v = .str i := by
  cases f <;> (cases h; rfl)
theorem RT.bl {f : Bool} {i : Bool} {v : V} (h : RT Z p v (.v f (.bl i))) : v = .bl i := by
  cases f <;> (cases h; rfl)
theorem RT.non {f : Bool} {v : V} (h : RT Z p v (.v f .non)) : v = .non := by
  cases f <;> (cases h; rfl)
/-- a flat value comes, nothing changes -/
theorem VPost.flat {Q : VK} (s : SR Z p H μ) {d : D} {v : V} (hv : RT Z p v (.v true d)) (h : VPost Z Q p (some (.v true d, μ))) : Q v H := h v H p (Pt.Le.refl p) s hv
end

/-! ### ints -/
def bitsI (i : Int) : Nat := i.natAbs.log2
/-- what an operator makes of two ints; none: not said -/
def binI (op : Operator) (i j : Int) : Option Int := match op with
  | .Add => some (i + j)
  | .Sub => some (i - j)
  | .Mult => if bitsI i + bitsI j < 100000000 then some (i * j) else none
  | .FloorDiv => if 0 < j ∧ bitsI j < 9000 then some (i / j) else none
  | .Mod => if 0 < j then some (i % j) else none
  | .Pow => if 0 ≤ j ∧ (bitsI i + 1) * j.toNat ≤ 100000000 then some (i ^ j.toNat) else none
  | .LShift => if 0 ≤ j ∧ bitsI i + 1 + j.toNat ≤ 100000000 then some (i * 2 ^ j.toNat) else none
  | .RShift => if 0 ≤ j then some (i / 2 ^ j.toNat) else none
  | .BitAnd => some (Builtin.bitAnd i j)
  | .BitOr => some (Builtin.bitOr i j)
  | _ => none
theorem intBits_le (x : Int) : Builtin.Int.intBits x ≤ bitsI x + 1 := by
  unfold Builtin.Int.intBits bitsI
  split <;> omega
section
variable {X : Cx}
def rBinI (op : Operator) : R2 := fun x y H Q => ∃ i j k, x = .int i ∧ y = .int j ∧ binI op i j = some k ∧ Q (.int k) H
theorem op_binI (op : Operator) : OpR X (binaryOp op) (rBinI op) := by
  intro pins s σ H x y v u Q I rx ry h
  obtain ⟨i, j, k, rfl, rfl, hk, q⟩ := h
  cases op with
  | Add => cases hk; exact op_add pins s σ H _ _ v u Q I rx ry ⟨i, j, rfl, rfl, q⟩
  | Sub => cases hk; exact op_sub pins s σ H _ _ v u Q I rx ry ⟨i, j, rfl, rfl, q⟩
  | Mult =>
    simp only [binI] at hk
    split at hk
    · rename_i hc
      cases hk
      obtain ⟨t, rfl⟩ := rx
      obtain ⟨t', rfl⟩ := ry
      have ok : IntMulOk i j := by
        have h1 := intBits_le i
        have h2 := intBits_le j
        intro z
        rw [Bool.and_eq_true] at z
        have z2 := of_decide_eq_true z.2
        have e : bitsLine = 134217728 := by decide
        rw [e] at z2
        omega
      exact PyProof.Rows.mul_int ⟨.int _, H, I.tok _, ⟨_, rfl⟩, q⟩ ok
    · cases hk
  | FloorDiv =>
    simp only [binI] at hk
    split at hk
    · rename_i hc
      cases hk
      exact op_fdivW pins s σ H _ _ v u Q I rx ry ⟨i, j, rfl, rfl, hc, q⟩
    · cases hk
  | Mod =>
    simp only [binI] at hk
    split at hk
    · rename_i hc
      cases hk
      exact op_mod pins s σ H _ _ v u Q I rx ry ⟨i, j, rfl, rfl, hc, q⟩
    · cases hk
  | Pow =>
    simp only [binI] at hk
    split at hk
    · rename_i hc
      cases hk
      obtain ⟨t, rfl⟩ := rx
      obtain ⟨t', rfl⟩ := ry
      refine PyProof.Rows.pow_int hc.1 ?_ ⟨.int _, H, I.tok _, ⟨_, rfl⟩, q⟩
      have h1 := intBits_le i
      have h2 : Builtin.Int.intBits i * j.toNat ≤ 100000000 := Nat.le_trans (Nat.mul_le_mul_right _ h1) hc.2
      have h3 : ((Builtin.Int.intBits i * j.toNat : Nat) : Int) ≤ 2 ^ 27 := by omega
      rw [Int.natCast_mul, Int.toNat_of_nonneg hc.1] at h3
      exact h3
    · cases hk
  | LShift =>
    simp only [binI] at hk
    split at hk
    · rename_i hc
      cases hk
      obtain ⟨t, rfl⟩ := rx
      obtain ⟨t', rfl⟩ := ry
      refine PyProof.Rows.lshift_int hc.1 ?_ ⟨.int _, H, I.tok _, ⟨_, rfl⟩, q⟩
      have h1 := intBits_le i
      have h2 := hc.2
      have h3 := hc.1
      omega
    · cases hk
  | RShift =>
    simp only [binI] at hk
    split at hk
    · rename_i hc
      cases hk
      exact op_shr pins s σ H _ _ v u Q I rx ry ⟨i, j, rfl, rfl, hc, q⟩
    · cases hk
  | BitAnd => cases hk; exact op_and pins s σ H _ _ v u Q I rx ry ⟨i, j, rfl, rfl, q⟩
  | BitOr => cases hk; exact op_or pins s σ H _ _ v u Q I rx ry ⟨i, j, rfl, rfl, q⟩
  | _ => cases hk
end

/-! ### + of lists, of tuples, of texts; a list times an int -/
def binV (live : Bool) (op : Operator) (μ : Mu) (a b : T) : Vt := match a, b with
  | .v _ (.int i), .v _ (.int j) => match binI op i j with
    | some k => some (.v true (.int k), μ)
    | none => none
  | .v _ (.str x), .v _ (.str y) => match op with
    | .Add => if x.length + y.length ≤ sizeLine then some (.v true (.str (x ++ y)), μ) else none
    | _ => none
  | a, b => match op with
    | .Add => match itemsP μ a, itemsP μ b with
      | some (true, ts), some (true, us) => if ts.length + us.length ≤ sizeLine then newL live μ (ts ++ us) else none
      | some (false, ts), some (false, us) => if ts ≠ [] ∧ us ≠ [] ∧ ts.length + us.length ≤ sizeLine then newU μ (ts ++ us) else none
      | _, _ => none
    | .Mult => match itemsP μ a, b with
      | some (true, ts), .v _ (.int k) => if 0 ≤ k ∧ k < 2 ^ 63 ∧ ts.length * k.toNat ≤ sizeLine then newL live μ (List.replicate k.toNat ts).flatten else none
      | _, _ => none
    | _ => none
theorem RTs.rep {Z : Ent} {p : Pt} {vs : List V} {ts : List T} (h : RTs Z p vs ts) : ∀ n : Nat, RTs Z p (List.replicate n vs).flatten (List.replicate n ts).flatten
  | 0 => .nil
  | n + 1 => by
    rw [List.replicate_succ, List.replicate_succ, List.flatten_cons, List.flatten_cons]
    exact RTs.append h (RTs.rep h n)
theorem RTs.nil_iff {Z : Ent} {p : Pt} {vs : List V} {ts : List T} (h : RTs Z p vs ts) : vs = [] ↔ ts = [] := by
  cases h with
  | nil => simp
  | cons _ _ => simp

/-- how values are asked: at a state of the def -/
def rV2 (Z : Ent) (g : Mu → T → T → Vt) : R2 := fun x y H Q => ∃ (p : Pt) (μ : Mu) (tx ty : T), SR Z p H μ ∧ RT Z p x tx ∧ RT Z p y ty ∧ VPost Z Q p (g μ tx ty)
def rV1 (Z : Ent) (g : Mu → T → Vt) : V → Hp → VK → Prop := fun x H Q => ∃ (p : Pt) (μ : Mu) (tx : T), SR Z p H μ ∧ RT Z p x tx ∧ VPost Z Q p (g μ tx)
def rVs (Z : Ent) (g : Mu → List T → Vt) : List V → Hp → VK → Prop := fun xs H Q => ∃ (p : Pt) (μ : Mu) (ts : List T), SR Z p H μ ∧ RTs Z p xs ts ∧ VPost Z Q p (g μ ts)
section
variable {X : Cx} {Z : Ent}
theorem op_binV (hK : X.K = Z.K) (live : Bool) (op : Operator) : OpR X (binaryOp op) (rV2 Z (binV live op)) := by
  intro pins s σ H x y v u Q I rx ry h
  obtain ⟨p, μ, tx, ty, sr, hx, hy, h⟩ := h
  unfold binV at h
  split at h
  · rename_i _ i _ j
    cases hx.int
    cases hy.int
    split at h
    · rename_i k hk
      exact op_binI op pins s σ H _ _ v u Q I rx ry ⟨i, j, k, rfl, rfl, hk, VPost.flat sr (Dx.int k) h⟩
    · exact h.elim
  · rename_i _ a _ b
    cases hx.str
    cases hy.str
    split at h
    · split at h
      · rename_i hz
        exact op_add_str pins s σ H _ _ v u Q I rx ry ⟨_, _, rfl, rfl, hz, VPost.flat sr (Dx.str _) h⟩
      · exact h.elim
    · exact h.elim
  · split at h
    · split at h
      · rename_i ts us e1 e2
        split at h
        · rename_i hz
          obtain ⟨a, vs, rfl, h1, r1⟩ := itemsP_ok sr hx e1
          obtain ⟨b, ws, rfl, h2, r2⟩ := itemsP_ok sr hy e2
          exact op_cat pins s σ H _ _ v u Q I rx ry ⟨a, b, vs, ws, rfl, rfl, h1, h2, by rw [r1.length, r2.length]; exact hz, fun q n => newL_ok sr (r1.append r2) h n⟩
        · exact h.elim
      · rename_i ts us e1 e2
        split at h
        · rename_i hz
          obtain ⟨n1, n2, hz⟩ := hz
          obtain ⟨a, vs, rfl, h1, r1⟩ := itemsP_ok sr hx e1
          obtain ⟨b, ws, rfl, h2, r2⟩ := itemsP_ok sr hy e2
          refine op_catT pins s σ H _ _ v u Q I rx ry ⟨a, b, vs, ws, rfl, rfl, SqT.of h1, SqT.of h2, fun z => n1 (r1.nil_iff.mp z), by rw [r1.length, r2.length]; exact hz, fun z => absurd (r2.nil_iff.mp z) n2, fun _ q n => newU_ok sr (r1.append r2) h n⟩
        · exact h.elim
      · exact h.elim
    · split at h
      · rename_i ts _ k e1 _ _
        split at h
        · rename_i hz
          obtain ⟨h0, h1, hz⟩ := hz
          obtain ⟨a, vs, rfl, ha, r1⟩ := itemsP_ok sr hx e1
          cases hy.int
          refine op_rep pins s σ H _ _ v u Q I rx ry ⟨a, k, vs, rfl, rfl, ha, by omega, h1, by rw [r1.length]; exact hz, fun q n => newL_ok sr (r1.rep _) h n⟩
        · exact h.elim
      · exact h.elim
    · exact h.elim
end
end L3

set_option Elab.async false
set_option linter.all false
set_option maxRecDepth 100000
set_option maxHeartbeats 4000000
/-! L3, sixth part: comparisons, truth, places, slices, lengths. -/
namespace L3
open PySem PySem.Spec PyProof.Rows L2

/-- == of data -/
def eqD (a b : D) : Option Bool := match a.py, b.py with
  | some x, some y => if SeqAt.shaped x && SeqAt.shaped y then some (PyData.eqv x y) else none
  | _, _ => none
/-- how deep a list of lists that still changes is read -/
def DEEP : Nat := 6
def eqT (μ : Mu) (a b : T) : Option Bool := match a, b with
  | .v _ (.int i), .v _ (.int j) => some (decide (i = j))
  | .v _ (.str i), .v _ (.str j) => some (decide (i = j))
  | .v _ (.bl i), .v _ (.bl j) => some (decide (i = j))
  | a, b => match deep DEEP μ a, deep DEEP μ b with
    | some x, some y => eqD x y
    | _, _ => none
/-- membership -/
def inT (μ : Mu) (a b : T) : Option Bool := match a, b with
  | .v _ (.str x), .v _ (.str y) => some (!(Builtin.Str.occurrences y x 0 y.length 1).isEmpty)
  | a, b => match deep DEEP μ a, deep DEEP μ b with
    | some x, some (.lst ys) => match x.py, D.pys ys with
      | some d, some ds => if SeqAt.shaped d && SeqAt.shaped (.list ds) then some (ds.any fun z => PyData.eqv z d) else none
      | _, _ => none
    | _, _ => none
/-- in a tuple -/
def inTu (μ : Mu) (a b : T) : Option Bool := match deep DEEP μ a, deep DEEP μ b with
  | some x, some (.tup ys) => match x.py, D.pys ys with
    | some d, some ds => if SeqAt.shaped d && SeqAt.shaped (.list ds) then some (ds.any fun z => PyData.eqv z d) else none
    | _, _ => none
  | _, _ => none
def cmpV (op : CmpOp) (μ : Mu) (a b : T) : Option Bool := match op with
  | .Eq => eqT μ a b
  | .NotEq => (eqT μ a b).map (!·)
  | .Lt => match a, b with
    | .v _ (.int i), .v _ (.int j) => some (decide (i < j))
    | _, _ => none
  | .LtE => match a, b with
    | .v _ (.int i), .v _ (.int j) => some (decide (i ≤ j))
    | _, _ => none
  | .Gt => match a, b with
    | .v _ (.int i), .v _ (.int j) => some (decide (j < i))
    | _, _ => none
  | .GtE => match a, b with
    | .v _ (.int i), .v _ (.int j) => some (decide (j ≤ i))
    | _, _ => none
  | .Is => match b with
    | .v _ .non => match a with
      | .v _ .non => some true
      | _ => some false
    | _ => none
  | .IsNot => match b with
    | .v _ .non => match a with
      | .v _ .non => some false
      | _ => some true
    | _ => none
  | .In => match inT μ a b with
    | some k => some k
    | none => inTu μ a b
  | .NotIn => (inT μ a b).map (!·)
def cmpVt (op : CmpOp) (μ : Mu) (a b : T) : Vt := match cmpV op μ a b with
  | some k => some (.v true (.bl k), μ)
  | none => none

section
variable {X : Cx} {Z : Ent}
theorem RT.non_iff {p : Pt} {v : V} : ∀ {t : T}, RT Z p v t → (decide (v = .non) = match t with | .v _ .non => true | _ => false)
  | .v f .non, h => by cases f <;> (cases h; rfl)
  | .v f (.bl _), h => by cases f <;> (cases h; rfl)
  | .v f (.int _), h => by cases f <;> (cases h; rfl)
  | .v f (.str _), h => by cases f <;> (cases h; rfl)
  | .v f (.lst _), h => by cases f <;> (cases h; rfl)
  | .v f (.tup _), h => by cases f <;> (cases h; rfl)
  | .v f (.obj _ _), h => by cases f <;> (cases h; rfl)
  | .v f (.dT _ _), h => by cases f <;> (cases h; rfl)
  | .v f (.scr _), h => by cases f <;> (cases h; rfl)
  | .m _, ⟨a, _, h⟩ => by subst h; rfl
/-- the answer of ==, of != -/
theorem eq_pair (hK : X.K = Z.K) (hu : X.A.units + 64 < cLine) {pins : List (Addr × Obj)} {s : Shared} {σ : L2.St} {H : Hp} {x y : V} {v u : Value} {p : Pt} {μ : Mu} {tx ty : T} {k : Bool}
    (I : Inv X pins σ H s) (rx : RelV x v) (ry : RelV y u) (sr : SR Z p H μ) (hx : RT Z p x tx) (hy : RT Z p y ty) (e : eqT μ tx ty = some k) :
    (∀ Q : VK, Q (.bl k) H → wpAny (model X.prog X.w) X.A (compareOp .Eq v u) (EP X pins σ Q) X.xe s) ∧ (∀ Q : VK, Q (.bl (!k)) H → wpAny (model X.prog X.w) X.A (compareOp .NotEq v u) (EP X pins σ Q) X.xe s) := by
  unfold eqT at e
  split at e
  · rename_i _ i _ j
    cases hx.int
    cases hy.int
    have e : decide (i = j) = k := Option.some.inj e
    have e2 : decide (V.int i = V.int j) = k := by rw [← e, Bool.eq_iff_iff]; simp
    exact ⟨fun Q q => op_eq pins s σ H _ _ v u Q I rx ry ⟨rfl, by rw [e2]; exact q⟩, fun Q q => op_ne pins s σ H _ _ v u Q I rx ry ⟨rfl, by rw [e2]; exact q⟩⟩
  · rename_i _ i _ j
    cases hx.str
    cases hy.str
    have e : decide (i = j) = k := Option.some.inj e
    have e2 : decide (V.str i = V.str j) = k := by rw [← e, Bool.eq_iff_iff]; simp
    exact ⟨fun Q q => op_eq pins s σ H _ _ v u Q I rx ry ⟨rfl, by rw [e2]; exact q⟩, fun Q q => op_ne pins s σ H _ _ v u Q I rx ry ⟨rfl, by rw [e2]; exact q⟩⟩
  · rename_i _ i _ j
    cases hx.bl
    cases hy.bl
    have e : decide (i = j) = k := Option.some.inj e
    have e2 : decide (V.bl i = V.bl j) = k := by rw [← e, Bool.eq_iff_iff]; simp
    exact ⟨fun Q q => op_eq pins s σ H _ _ v u Q I rx ry ⟨rfl, by rw [e2]; exact q⟩, fun Q q => op_ne pins s σ H _ _ v u Q I rx ry ⟨rfl, by rw [e2]; exact q⟩⟩
  · split at e
    · rename_i dx dy h1 h2
      have d1 := deep_ok sr hx h1
      have d2 := deep_ok sr hy h2
      unfold eqD at e
      split at e
      · rename_i ex ey p1 p2
        split at e
        · rename_i hs
          rw [Bool.and_eq_true_iff] at hs
          have e : PyData.eqv ex ey = k := Option.some.inj e
          have q1 := Dx.py dx d1 p1
          have q2 := Dx.py dy d2 p2
          rw [← hK] at q1 q2
          exact ⟨fun Q q => op_eqD hu pins s σ H _ _ v u Q I rx ry ⟨ex, ey, q1, q2, hs.1, hs.2, by rw [e]; exact q⟩,
            fun Q q => op_neD hu pins s σ H _ _ v u Q I rx ry ⟨ex, ey, q1, q2, hs.1, hs.2, by rw [e]; exact q⟩⟩
        · cases e
      · cases e
    · cases e
theorem in_pair (hK : X.K = Z.K) (hu : X.A.units + 65 < cLine) {pins : List (Addr × Obj)} {s : Shared} {σ : L2.St} {H : Hp} {x y : V} {v u : Value} {p : Pt} {μ : Mu} {tx ty : T} {k : Bool}
    (I : Inv X pins σ H s) (rx : RelV x v) (ry : RelV y u) (sr : SR Z p H μ) (hx : RT Z p x tx) (hy : RT Z p y ty) (e : inT μ tx ty = some k) :
    (∀ Q : VK, Q (.bl k) H → wpAny (model X.prog X.w) X.A (compareOp .In v u) (EP X pins σ Q) X.xe s) ∧ (∀ Q : VK, Q (.bl (!k)) H → wpAny (model X.prog X.w) X.A (compareOp .NotIn v u) (EP X pins σ Q) X.xe s) := by
  unfold inT at e
  split at e
  · rename_i _ i _ j
    cases hx.str
    cases hy.str
    have e := Option.some.inj e
    exact ⟨fun Q q => op_in_str pins s σ H _ _ v u Q I rx ry ⟨i, j, rfl, rfl, by rw [e]; exact q⟩, fun Q q => L2.op_notin_str pins s σ H _ _ v u Q I rx ry ⟨i, j, rfl, rfl, by rw [e]; exact q⟩⟩
  · split at e
    · rename_i dx dys h1 h2
      have d1 := deep_ok sr hx h1
      have d2 := deep_ok sr hy h2
      split at e
      · rename_i ex es p1 p2
        split at e
        · rename_i hs
          rw [Bool.and_eq_true_iff] at hs
          have e := Option.some.inj e
          have q1 := Dx.py dx d1 p1
          have p2' : D.py (.lst dys) = some (.list es) := by unfold D.py; rw [p2]
          have q2 := Dx.py _ d2 p2'
          rw [← hK] at q1 q2
          exact ⟨fun Q q => op_inD hu pins s σ H _ _ v u Q I rx ry ⟨ex, es, q1, q2, hs.1, hs.2, by rw [e]; exact q⟩,
            fun Q q => op_notInD hu pins s σ H _ _ v u Q I rx ry ⟨ex, es, q1, q2, hs.1, hs.2, by rw [e]; exact q⟩⟩
        · cases e
      · cases e
    · cases e
theorem in_tup (hK : X.K = Z.K) (hu : X.A.units + 65 < cLine) {pins : List (Addr × Obj)} {s : Shared} {σ : L2.St} {H : Hp} {x y : V} {v u : Value} {p : Pt} {μ : Mu} {tx ty : T} {k : Bool}
    (I : Inv X pins σ H s) (rx : RelV x v) (ry : RelV y u) (sr : SR Z p H μ) (hx : RT Z p x tx) (hy : RT Z p y ty) (e : inTu μ tx ty = some k) :
    ∀ Q : VK, Q (.bl k) H → wpAny (model X.prog X.w) X.A (compareOp .In v u) (EP X pins σ Q) X.xe s := by
  unfold inTu at e
  split at e
  · rename_i dx dys h1 h2
    have d1 := deep_ok sr hx h1
    have d2 := deep_ok sr hy h2
    split at e
    · rename_i ex es p1 p2
      split at e
      · rename_i hs
        rw [Bool.and_eq_true_iff] at hs
        have e := Option.some.inj e
        have q1 := Dx.py dx d1 p1
        have p2' : D.py (.tup dys) = some (.tuple es) := by unfold D.py; rw [p2]
        have q2 := Dx.py _ d2 p2'
        rw [← hK] at q1 q2
        intro Q q
        obtain ⟨as, r1⟩ := Dp.reads I ex x v q1 rx
        obtain ⟨bs, r2⟩ := Dp.reads I (.tuple es) y u q2 ry
        exact SeqAt.in_tuple_reads r2 r1 (SeqAt.canLay_of_shaped hs.2) (SeqAt.canLay_of_shaped hs.1) (room_in_shaped hs.1 hu) ⟨.bl _, H, I, rfl, by rw [e]; exact q⟩
      · cases e
    · cases e
  · cases e
theorem op_cmpV (hK : X.K = Z.K) (hu : X.A.units + 65 < cLine) (op : CmpOp) : OpR X (compareOp op) (rV2 Z (cmpVt op)) := by
  intro pins s σ H x y v u Q I rx ry h
  obtain ⟨p, μ, tx, ty, sr, hx, hy, h⟩ := h
  unfold cmpVt at h
  split at h
  · rename_i k hk
    have q : Q (.bl k) H := VPost.flat sr (Dx.bl k) h
    cases op with
    | Eq => exact (eq_pair hK (by omega) I rx ry sr hx hy hk).1 Q q
    | NotEq =>
      have hk : (eqT μ tx ty).map (!·) = some k := hk
      cases e : eqT μ tx ty with
      | none => rw [e] at hk; cases hk
      | some k' =>
        rw [e] at hk
        have : (!k') = k := Option.some.inj hk
        exact (eq_pair hK (by omega) I rx ry sr hx hy e).2 Q (by rw [this]; exact q)
    | Lt =>
      simp only [cmpV] at hk
      split at hk
      · rename_i _ i _ j
        cases hx.int
        cases hy.int
        cases hk
        exact op_lt pins s σ H _ _ v u Q I rx ry ⟨i, j, rfl, rfl, q⟩
      · cases hk
    | LtE =>
      simp only [cmpV] at hk
      split at hk
      · rename_i _ i _ j
        cases hx.int
        cases hy.int
        cases hk
        exact op_le pins s σ H _ _ v u Q I rx ry ⟨i, j, rfl, rfl, q⟩
      · cases hk
    | Gt =>
      simp only [cmpV] at hk
      split at hk
      · rename_i _ i _ j
        cases hx.int
        cases hy.int
        cases hk
        exact op_gt pins s σ H _ _ v u Q I rx ry ⟨i, j, rfl, rfl, q⟩
      · cases hk
    | GtE =>
      simp only [cmpV] at hk
      split at hk
      · rename_i _ i _ j
        cases hx.int
        cases hy.int
        cases hk
        exact op_ge pins s σ H _ _ v u Q I rx ry ⟨i, j, rfl, rfl, q⟩
      · cases hk
    | Is =>
      simp only [cmpV] at hk
      split at hk
      · cases hy.non
        have e := hx.non_iff
        split at hk
        · cases hk
          exact op_isN pins s σ H _ _ v u Q I rx ry ⟨rfl, by rw [e]; exact q⟩
        · rename_i hne
          cases hk
          refine op_isN pins s σ H _ _ v u Q I rx ry ⟨rfl, ?_⟩
          rw [e]
          split
          · rename_i _ f
            exact (hne f rfl).elim
          · exact q
      · cases hk
    | IsNot =>
      simp only [cmpV] at hk
      split at hk
      · cases hy.non
        have e := hx.non_iff
        split at hk
        · cases hk
          exact op_notN pins s σ H _ _ v u Q I rx ry ⟨rfl, by rw [e]; exact q⟩
        · rename_i hne
          cases hk
          refine op_notN pins s σ H _ _ v u Q I rx ry ⟨rfl, ?_⟩
          rw [e]
          split
          · rename_i _ f
            exact (hne f rfl).elim
          · exact q
      · cases hk
    | In =>
      simp only [cmpV] at hk
      cases e : inT μ tx ty with
      | none =>
        rw [e] at hk
        exact in_tup hK hu I rx ry sr hx hy hk Q q
      | some k' =>
        rw [e] at hk
        cases hk
        exact (in_pair hK hu I rx ry sr hx hy e).1 Q q
    | NotIn =>
      have hk : (inT μ tx ty).map (!·) = some k := hk
      cases e : inT μ tx ty with
      | none => rw [e] at hk; cases hk
      | some k' =>
        rw [e] at hk
        have : (!k') = k := Option.some.inj hk
        exact (in_pair hK hu I rx ry sr hx hy e).2 Q (by rw [this]; exact q)
  · exact h.elim

/-! ### truth -/
def truT (μ : Mu) : T → Option Bool
  | .v _ .non => some false
  | .v _ (.bl b) => some b
  | .v _ (.int i) => some (i != 0)
  | t => match items μ t with
    | some (_, ts) => some (!ts.isEmpty)
    | none => none
theorem isEmpty_rts {p : Pt} {vs : List V} {ts : List T} (h : RTs Z p vs ts) : vs.isEmpty = ts.isEmpty := by
  cases h <;> rfl
theorem truT_ok {H : Hp} {x : V} {p : Pt} {μ : Mu} {t : T} {k : Bool} (hK : X.K = Z.K) (sr : SR Z p H μ) (hx : RT Z p x t) (e : truT μ t = some k) : TruV X.K x H k := by
  unfold truT at e
  split at e
  · cases hx.non; cases e; rfl
  · cases hx.bl; cases e; rfl
  · cases hx.int; cases e; rfl
  · split at e
    · rename_i b ts hi
      cases e
      obtain ⟨a, vs, rfl, h1, h2⟩ := items_ok sr hx hi
      rw [hK]
      cases b
      · exact .inr (.inl ⟨vs, h1, by rw [isEmpty_rts h2]⟩)
      · exact .inl ⟨vs, h1, by rw [isEmpty_rts h2]⟩
    · cases e

/-! ### places -/
theorem atI_rts {p : Pt} {vs : List V} {ts : List T} {i : Int} {t : T} (h : RTs Z p vs ts) (e : atI ts i = some t) : ∃ v, atI vs i = some v ∧ RT Z p v t := by
  unfold atI at e ⊢
  rw [h.length]
  cases hj : ixN ts.length i with
  | none => rw [hj] at e; cases e
  | some j =>
    rw [hj] at e
    have e : ts[j]? = some t := e
    obtain ⟨v, h1, h2⟩ := h.get e
    exact ⟨v, h1, h2⟩
def ixV (μ : Mu) (a b : T) : Vt := match b with
  | .v _ (.int i) => match a with
    | .v _ (.str z) => if z.length ≤ sizeLine then (match atI z.cps.toList i with | some c => some (.v true (.str ⟨#[c]⟩), μ) | none => none) else none
    | a => match items μ a with
      | some (_, ts) => match atI ts i with
        | some t => some (t, μ)
        | none => none
      | none => none
  | _ => none
theorem ix_V (hK : X.K = Z.K) : IxR X (rV2 Z ixV) := by
  intro value slice pins s σ H x y v u Q I rx ry h hs
  obtain ⟨p, μ, tx, ty, sr, hx, hy, h⟩ := h
  unfold ixV at h
  split at h
  · rename_i _ i
    cases hy.int
    split at h
    · rename_i _ z
      cases hx.str
      split at h
      · rename_i hz
        split at h
        · rename_i c hc
          exact ix_str value slice pins s σ H _ _ v u Q I rx ry ⟨z, i, c, rfl, rfl, hz, hc, VPost.flat sr (Dx.str _) h⟩ hs
        · exact h.elim
      · exact h.elim
    · split at h
      · rename_i b ts hi
        split at h
        · rename_i t ht
          obtain ⟨a, vs, rfl, h1, h2⟩ := items_ok sr hx hi
          obtain ⟨w', h3, h4⟩ := atI_rts h2 ht
          have q : Q w' H := h w' H p (Pt.Le.refl p) sr h4
          cases b
          · exact ix_tup value slice pins s σ H _ _ v u Q I rx ry ⟨a, vs, i, w', rfl, rfl, by rw [hK]; exact h1, h3, q⟩ hs
          · exact ix_list value slice pins s σ H _ _ v u Q I rx ry ⟨a, vs, i, w', rfl, rfl, by rw [hK]; exact h1, h3, q⟩ hs
        · exact h.elim
      · exact h.elim
  · exact h.elim

/-! ### slices -/
def cutT (ts : List T) (lo hi : Option Int) : List T := (ts.drop (HT.sIx ts.length 0 lo)).take (HT.sIx ts.length ts.length hi - HT.sIx ts.length 0 lo)
theorem RTs.drop {p : Pt} : ∀ {vs : List V} {ts : List T} (n : Nat), RTs Z p vs ts → RTs Z p (vs.drop n) (ts.drop n)
  | _, _, 0, h => h
  | _, _, _ + 1, .nil => .nil
  | _, _, n + 1, .cons _ h => RTs.drop n h
theorem RTs.take {p : Pt} : ∀ {vs : List V} {ts : List T} (n : Nat), RTs Z p vs ts → RTs Z p (vs.take n) (ts.take n)
  | _, _, 0, _ => .nil
  | _, _, _ + 1, .nil => .nil
  | _, _, n + 1, .cons h g => .cons h (RTs.take n g)
theorem RTs.cut {p : Pt} {vs : List V} {ts : List T} (h : RTs Z p vs ts) (lo hi : Option Int) : RTs Z p (cutV vs lo hi) (cutT ts lo hi) := by
  unfold cutV cutT
  rw [h.length]
  exact (h.drop _).take _
def slV (live : Bool) (μ : Mu) (a : T) (lo hi : Option Int) : Vt := match a with
  | .v _ (.str z) => if z.length ≤ sizeLine then some (.v true (.str (cutS z lo hi)), μ) else none
  | a => match items μ a with
    | some (true, ts) => newL live μ (cutT ts lo hi)
    | _ => none
def rSlV (Z : Ent) (live : Bool) : V → Option Int → Option Int → Hp → VK → Prop := fun x lo hi H Q => ∃ (p : Pt) (μ : Mu) (tx : T), SR Z p H μ ∧ RT Z p x tx ∧ VPost Z Q p (slV live μ tx lo hi)
theorem sl_V (hK : X.K = Z.K) (live : Bool) : SlR X (rSlV Z live) := by
  intro pins s σ H x v vl vu lo hi sl Q I rx hs pl pu h
  obtain ⟨p, μ, tx, sr, hx, h⟩ := h
  unfold slV at h
  split at h
  · rename_i _ z
    cases hx.str
    split at h
    · rename_i hz
      exact sl_str pins s σ H _ v vl vu lo hi sl Q I rx hs pl pu ⟨z, rfl, hz, VPost.flat sr (Dx.str _) h⟩
    · exact h.elim
  · split at h
    · rename_i ts hi'
      obtain ⟨a, vs, rfl, h1, h2⟩ := items_ok sr hx hi'
      exact sl_list pins s σ H _ v vl vu lo hi sl Q I rx hs pl pu ⟨a, vs, rfl, by rw [hK]; exact h1, fun q n => newL_ok sr (h2.cut lo hi) h n⟩
    · exact h.elim
end
end L3

set_option Elab.async false
set_option linter.all false
set_option maxRecDepth 100000
set_option maxHeartbeats 4000000
/-! L3, seventh part: what a def promises, how it is called, what its body owes. -/
namespace L3
open PySem PySem.Spec PyProof.Rows L2

/-- the promise of a def, where no repr runs around it -/
structure FnG (P : Program) (w : World) (K : PySem.W.Frag) (mg : Str → Option Value) (base : Heap) (k : Nat) (f : Addr) (fd : FuncData) (ps : List Str) (sp : Sp) : Prop where
  len : ∀ vs H Q E, sp vs H Q E → vs.length = ps.length
  run : ∀ (A : Around) (outer : List Env) (s : Shared) (H : Hp) (args : Args) (us : List Value) (vs : List V) (Q : VK) (E : XK),
    Room k A → A.guards = some [] → Env0 P w K mg base A outer s H → BindsTo s fd args (ps.zip us) → Vals vs us → sp vs H Q E →
      codeAny (model P w) A (.call (.ref f) args) (CR (L2.CX P w) outer P w H s Q E) s

theorem FnG.mono {P : Program} {w : World} {K : PySem.W.Frag} {mg : Str → Option Value} {base : Heap} {j k : Nat} {f : Addr} {fd : FuncData} {ps : List Str} {sp : Sp}
    (F : FnG P w K mg base j f fd ps sp) (h : j ≤ k) : FnG P w K mg base k f fd ps sp :=
  ⟨F.len, fun A outer s H args us vs Q E hr => F.run A outer s H args us vs Q E (hr.mono h)⟩

/-- a def of the text keeps its promise: by its body's reading -/
theorem fnG_of {P : Program} {w : World} {K : PySem.W.Frag} {mg : Str → Option Value} {base : Heap} {k : Nat} {x qual : Str} {st : Stmt} {f : Addr} {fd : FuncData} {N ps : List Str} {sp : Sp}
    (F : Fun K x qual st f fd) (S : FnScope N ps (defScope st)) (hlen : ∀ vs H Q E, sp vs H Q E → vs.length = ps.length)
    (hbody : ∀ (cdv : Value) (A : Around) (outer : List Env) (s : Shared) (H : Hp) (vs : List V) (Q : VK) (E : XK),
      Room k (A.deeper (envOfC qual (defScope st) s.heap.objs.size f cdv)) → A.guards = some [] → sp vs H Q E →
        ∃ t, PSs (cxOf (L2.CX P w) P w K mg base N qual (defScope st) f cdv A outer s H E) (defBody st) t ∧ t { nx := fun _ H' => Q .non H', rt := Q } (start N vs) H) :
    FnG P w K mg base (k + 1) f fd ps sp := by
  obtain ⟨oc, od, kV, doc, pm, an, cdv, ct, osl, rfl, lk, hcd⟩ := F.ex
  constructor
  · exact hlen
  intro A outer s H args us vs Q E hr hgd e0 hb r hsp
  have hl := hlen _ _ _ _ hsp
  have KX : K.In s.heap := e0.mod.kin.keeps fun b o e => (e0.bs b o e).1
  have lim : s.heap.NoLimit := e0.mod.nolimit.keeps fun b o e => (e0.bs b o e).1
  have hkind : ∀ y ∈ ps.zip us, (defScope st).names.lookup y.1 = some .local ∨
      ((defScope st).names.lookup y.1 = some .cell ∧ ((cellsFrom (s.heap.objs.size + 1) (defScope st).names []).lookup y.1).isSome = true) := by
    intro y hy
    cases S.par y.1 (List.of_mem_zip (show (y.1, y.2) ∈ ps.zip us from hy)).1 with
    | inl q => exact Or.inl q
    | inr q => exact Or.inr ⟨q, PySem.W.cellsFrom_some _ _ _ (Or.inl q)⟩
  apply codeAny_call_function hr.depth (KX _ _ lk) rfl S.co S.gen rfl (PySem.W.codeRec_of KX hcd)
  apply hb
  refine wpAny_newFunctionEnv_cells S.kind hkind ?_
  intro env he s1 x
  subst he
  refine And.intro (lim.keeps x.toInCall.keep) (codeAny_func ?_)
  obtain ⟨t, ht, hq⟩ := hbody cdv A outer s H vs Q E (hr.deeper _) hgd hsp
  have I : Inv (cxOf (L2.CX P w) P w K mg base N qual (defScope st) f cdv A outer s H E) [] (start N vs) H s1 := inv_start S hr.hd e0 hl r x
  have hrun := ht.run [] s1 (start N vs) H _ I hq
  refine wpAny_mono hrun ?_ (fun _ _ z => z)
  intro fl s' hs
  cases fl with
  | ret u =>
    obtain ⟨v, σ', H', J, rv, q⟩ := hs
    exact ⟨v, H', J.os, J.bare, J.base, J.hok, rv, q⟩
  | next =>
    obtain ⟨σ', H', J, q⟩ := hs
    exact ⟨V.non, H', J.os, J.bare, J.base, J.hok, (rfl : Value.none = Value.none), q⟩
  | brk => obtain ⟨_, _, _, q⟩ := hs; exact q.elim
  | cont => obtain ⟨_, _, _, q⟩ := hs; exact q.elim

section
variable {X : Cx} {k : Nat} {f C : Addr} {fd : FuncData} {ps : List Str} {sp : Sp} {E : XK}
/-- the callee runs: its arguments bound -/
theorem runG {pins : List (Addr × Obj)} {σ : L2.St} {H : Hp} {s : Shared} {Q : VK} {us us' : List Value} {kw : List (Str × Value)} {vs : List V}
    (F : FnG X.prog X.w X.K X.mg X.base k f fd ps sp) (hr : Room k X.A) (hgd : X.A.guards = some []) (hb : BindsTo s fd ⟨us', kw⟩ (ps.zip us))
    (hx : PassesAt (L2.CX X.prog X.w) X σ E) (I : Inv X pins σ H s) (r : Vals vs us) (h : sp vs H Q E) :
    wpAny (model X.prog X.w) X.A (PySem.call (.ref f) us' kw) (EP X pins σ Q) X.xe s := by
  have hrun := F.run X.A X.stack s H ⟨us', kw⟩ us vs Q E hr hgd I.env0 hb r h
  refine wpAny_call (codeAny_mono hrun ?_)
  intro res s' hq
  match res, hq with
  | .error e, hq => exact hx pins H s e s' I hq
  | .ok (.ret u), hq => exact I.after hq
  | .ok .next, hq => exact False.elim hq
  | .ok .brk, hq => exact False.elim hq
  | .ok .cont, hq => exact False.elim hq
/-- an instance is made and its __init__ runs -/
theorem runMk {pins : List (Addr × Obj)} {σ : L2.St} {H : Hp} {s : Shared} {Q : VK} {us : List Value} {vs : List V} (M : Mk X.K C f)
    (F : FnG X.prog X.w X.K X.mg X.base k f fd ps sp) (hr : Room (k + 1) X.A) (hgd : X.A.guards = some []) (hb : Binds X.K fd ps [])
    (hx : PassesAt (L2.CX X.prog X.w) X σ E)
    (I : Inv X pins σ H s) (r : Vals vs us)
    (h : ∀ x dx, H x = none → H dx = none → dx ≠ x → sp (.ref x :: vs) (upd (upd H dx (.own x)) x (.ins C dx [])) (fun v H2 => v = .non ∧ Q (.ref x) H2) E) :
    wpAny (model X.prog X.w) X.A (PySem.call (.ref C) us) (EP X pins σ Q) X.xe s := by
  have hq := h (s.heap.objs.size + 1) s.heap.objs.size (I.hok.fresh (Nat.le_succ _)) (I.hok.fresh (Nat.le_refl _)) (Nat.ne_of_lt (Nat.lt_succ_self _))
  have I2 := Inv.made (C := C) I
  have r2 : Vals (V.ref (s.heap.objs.size + 1) :: vs) (Value.ref (s.heap.objs.size + 1) :: us) := Paired.cons rfl r
  have hl : (Value.ref (s.heap.objs.size + 1) :: us ++ []).length = ps.length := by
    have e := r2.length
    rw [F.len _ _ _ _ hq] at e
    rw [List.append_nil]
    exact e.symm
  have hbd := hb _ (Value.ref (s.heap.objs.size + 1) :: us) I2.kIn hl
  rw [List.append_nil] at hbd
  have hgm : (X.A.under (.builtin "type.__call__" ⟨.ref C :: us, []⟩)).guards = some [] := by
    first
      | exact hgd
      | simp [Around.under, Code.guards, Code.isGuard, guardIds, pushGuards, hgd]
  have hrun := F.run _ X.stack _ _ ⟨Value.ref (s.heap.objs.size + 1) :: us, []⟩ (Value.ref (s.heap.objs.size + 1) :: us) _ _ E (hr.make C us []) hgm (I2.env0.make C us []) hbd r2 hq
  refine wpAny_call (make_map (f := f) I.kIn M.makes M.init (beq_iff_eq.mp M.fn) (codeAny_mono hrun ?_))
  intro res s' hq'
  match res, hq' with
  | .error e, hq' => exact hx pins _ _ e s' I2 hq'
  | .ok (.ret u), hq' =>
    obtain ⟨v, H', I3, rv, ev, q3⟩ := I2.after hq'
    subst ev
    exact ⟨rv, V.ref (s.heap.objs.size + 1), H', I3, rfl, q3⟩
  | .ok .next, hq' => exact False.elim hq'
  | .ok .brk, hq' => exact False.elim hq'
  | .ok .cont, hq' => exact False.elim hq'
end
end L3

set_option Elab.async false
set_option linter.all false
set_option maxRecDepth 100000
set_option maxHeartbeats 4000000
/-! L3, eighth part: a call: what is handed in, what comes back. -/
namespace L3
open PySem PySem.Spec PyProof.Rows L2

abbrev noHp : Hp := fun _ => none
/-- a def that does g: its promise -/
def spD (K : PySem.W.Frag) (TB : Tab) (g : List T → Mu → Ot T) (n : Nat) : Sp := fun vs H Q E => vs.length = n ∧ ∃ (F : Hp) (ms : List Addr) (μ : Mu) (ts : List T),
  SR ⟨K, TB, H, F, ms⟩ ⟨F, noHp, ms⟩ H μ ∧ RTs ⟨K, TB, H, F, ms⟩ ⟨F, noHp, ms⟩ vs ts ∧ Post ⟨K, TB, H, F, ms⟩ (fun c d _ H' => E c d H') [] Q ⟨F, noHp, ms⟩ (g ts μ)

/-- names of the callee's cells in the caller -/
def ren (js : List Nat) (b : Nat) : T → T
  | .v f d => .v f d
  | .m i => match js[i]? with
    | some j => .m j
    | none => .m (b + (i - js.length))
def renC (js : List Nat) (b : Nat) : Cell → Cell
  | .lst ts => .lst (ts.map (ren js b))
  | .tup ts => .tup (ts.map (ren js b))
  | .obj c ts => .obj c (ts.map (ren js b))
  | .dT ks ts => .dT ks (ts.map (ren js b))
  | .dK ks ts => .dK ks (ts.map (ren js b))
  | .frz f d => .frz f d
  | .hid => .hid
def setAll (μ : Mu) : List Nat → Mu → Mu
  | [], _ => μ
  | _ :: _, [] => μ
  | j :: js, c :: cs => setAll (μ.set j c) js cs
/-- a cell whose content speaks of nothing else -/
def T.flat : T → Bool
  | .v _ d => d.atom
  | .m _ => false
def Cell.flat : Cell → Bool
  | .lst ts => ts.all T.flat
  | .obj _ ts => ts.all T.flat
  | _ => false
/-- the cells that are handed in by reference -/
def refsOf : List Bool → List T → List Nat
  | true :: rf, .m j :: ts => j :: refsOf rf ts
  | false :: rf, _ :: ts => refsOf rf ts
  | _, _ => []
def cellsAt (μ : Mu) : List Nat → Option Mu
  | [] => some []
  | j :: js => match μ[j]?, cellsAt μ js with
    | some c, some cs => if c.flat then some (c :: cs) else none
    | _, _ => none
/-- the arguments, as the callee has them; rf: by reference; i: how many cells so far; live: the caller's cells are only read -/
def argsIn (μ : Mu) (live : Bool) : List Bool → List T → Nat → Option (List T)
  | true :: rf, .m j :: ts, i => match argsIn μ live rf ts (i + 1) with
    | some us => some (.m i :: us)
    | none => none
  | false :: rf, .v _ d :: ts, i => match argsIn μ live rf ts i with
    | some us => some (mkT false d :: us)
    | none => none
  | false :: rf, .m j :: ts, i => if live then match deep DEEP μ (.m j), argsIn μ live rf ts i with
    | some d, some us => some (mkT false d :: us)
    | _, _ => none
    else none
  | [], [], _ => some []
  | _, _, _ => none
def T.news : T → Bool
  | .v f d => f || d.atom
  | .m _ => true
def Cell.news : Cell → Bool
  | .lst ts => ts.all T.news
  | .tup ts => ts.all T.news
  | .obj _ ts => ts.all T.news
  | .dT _ ts => ts.all T.news
  | .dK _ ts => ts.all T.news
  | .frz f _ => f
  | .hid => false
/-- the cells without those that are handed in by reference -/
def hide (μ : Mu) (js : List Nat) : Mu := setAll μ js (js.map fun _ => Cell.hid)
/-- what comes back; b: what the callee could see of the caller's changing lists must not come back -/
def back (b : Bool) (js : List Nat) (μ : Mu) : Ot T → Ot T
  | some (.ok t μ') => if !b || (t.news && μ'.all Cell.news) then some (.ok (ren js μ.length t) (setAll μ js ((μ'.take js.length).map (renC js μ.length)) ++ (μ'.drop js.length).map (renC js μ.length))) else none
  | some (.exc c t μ') => if !b || (t.news && μ'.all Cell.news) then some (.exc c (ren js μ.length t) (setAll μ js ((μ'.take js.length).map (renC js μ.length)) ++ (μ'.drop js.length).map (renC js μ.length))) else none
  | none => none
def callD (g : List T → Mu → Ot T) (live : Bool) (rf : List Bool) (ts : List T) (μ : Mu) : Ot T :=
  match argsIn (if live then hide μ (refsOf rf ts) else μ) live rf ts 0 with
  | some us => if (refsOf rf ts).Nodup then match cellsAt μ (refsOf rf ts) with
    | some cs => back live (refsOf rf ts) μ (g us cs)
    | none => none
    else none
  | none => none

section
variable {Z : Ent} {p q : Pt} {H H' : Hp} {μ : Mu}
theorem setAll_len : ∀ (js : List Nat) (cs μ : Mu), (setAll μ js cs).length = μ.length
  | [], _, _ => by simp only [setAll]
  | _ :: _, [], _ => by simp only [setAll]
  | j :: js, c :: cs, μ => by
    show (setAll (μ.set j c) js cs).length = _
    rw [setAll_len js cs, List.length_set]
theorem setAll_other : ∀ (js : List Nat) (cs μ : Mu) {i : Nat}, i ∉ js → (setAll μ js cs)[i]? = μ[i]?
  | [], _, _, _, _ => by simp only [setAll]
  | _ :: _, [], _, _, _ => by simp only [setAll]
  | j :: js, c :: cs, μ, i, h => by
    show (setAll (μ.set j c) js cs)[i]? = _
    rw [setAll_other js cs _ (fun z => h (List.mem_cons_of_mem _ z)), List.getElem?_set_ne (fun z => h (by rw [z]; exact List.mem_cons_self))]
theorem setAll_at : ∀ (js : List Nat) (cs μ : Mu) {k j : Nat} {c : Cell}, js.Nodup → js[k]? = some j → cs[k]? = some c → j < μ.length → (setAll μ js cs)[j]? = some c
  | [], _, _, _, _, _, _, h, _, _ => by simp at h
  | _ :: _, [], _, _, _, _, _, _, h, _ => by simp at h
  | j0 :: js, c0 :: cs, μ, 0, j, c, nd, h1, h2, hj => by
    simp at h1 h2
    subst h1 h2
    show (setAll (μ.set j0 c0) js cs)[j0]? = _
    rw [setAll_other js cs _ (List.nodup_cons.mp nd).1, List.getElem?_set_self hj]
  | j0 :: js, c0 :: cs, μ, k + 1, j, c, nd, h1, h2, hj => by
    show (setAll (μ.set j0 c0) js cs)[j]? = _
    exact setAll_at js cs _ (List.nodup_cons.mp nd).2 (by simpa using h1) (by simpa using h2) (by rw [List.length_set]; exact hj)
theorem cellsAt_get : ∀ {js : List Nat} {cs : Mu} {k j : Nat}, cellsAt μ js = some cs → js[k]? = some j → ∃ c, μ[j]? = some c ∧ cs[k]? = some c ∧ c.flat = true
  | [], _, _, _, _, h => by simp at h
  | j0 :: js, cs, k, j, e, h => by
    unfold cellsAt at e
    split at e
    · rename_i c0 cs0 h1 h2
      split at e
      · rename_i hf
        cases e
        cases k with
        | zero =>
          simp at h
          subst h
          exact ⟨c0, h1, rfl, hf⟩
        | succ k =>
          obtain ⟨c, a, b, d⟩ := cellsAt_get (k := k) h2 (by simpa using h)
          exact ⟨c, a, by simpa using b, d⟩
      · cases e
    · cases e
theorem cellsAt_len : ∀ {js : List Nat} {cs : Mu}, cellsAt μ js = some cs → cs.length = js.length
  | [], _, e => by cases e; rfl
  | j0 :: js, cs, e => by
    unfold cellsAt at e
    split at e
    · rename_i c0 cs0 h1 h2
      split at e
      · cases e
        simp [cellsAt_len h2]
      · cases e
    · cases e
/-- addresses of cells -/
def addrs (ms : List Addr) (js : List Nat) : List Addr := js.filterMap fun j => ms[j]?
theorem addrs_get {ms : List Addr} : ∀ {js : List Nat} {k j : Nat}, (∀ j ∈ js, j < ms.length) → js[k]? = some j → (addrs ms js)[k]? = ms[j]?
  | [], _, _, _, h => by simp at h
  | j0 :: js, k, j, hl, h => by
    have h0 : ms[j0]? = some (ms[j0]'(hl j0 List.mem_cons_self)) := List.getElem?_eq_getElem _
    unfold addrs
    rw [List.filterMap_cons, h0]
    cases k with
    | zero =>
      simp at h
      subst h
      exact h0.symm
    | succ k => exact addrs_get (js := js) (k := k) (fun j hj => hl j (List.mem_cons_of_mem _ hj)) (by simpa using h)
theorem addrs_len {ms : List Addr} : ∀ {js : List Nat}, (∀ j ∈ js, j < ms.length) → (addrs ms js).length = js.length
  | [], _ => rfl
  | j0 :: js, hl => by
    have h0 : ms[j0]? = some (ms[j0]'(hl j0 List.mem_cons_self)) := List.getElem?_eq_getElem _
    unfold addrs
    rw [List.filterMap_cons, h0]
    exact congrArg Nat.succ (addrs_len (js := js) fun j hj => hl j (List.mem_cons_of_mem _ hj))
theorem addrs_mem {ms : List Addr} {js : List Nat} {a : Addr} (h : a ∈ addrs ms js) : ∃ j ∈ js, ms[j]? = some a := by
  obtain ⟨j, hj, e⟩ := List.mem_filterMap.mp h
  exact ⟨j, hj, e⟩
theorem addrs_nodup {ms : List Addr} (nd : ms.Nodup) : ∀ {js : List Nat}, js.Nodup → (addrs ms js).Nodup
  | [], _ => List.nodup_nil
  | j0 :: js, h => by
    have ih := addrs_nodup nd (List.nodup_cons.mp h).2
    unfold addrs
    rw [List.filterMap_cons]
    split
    · exact ih
    · rename_i a ha
      refine List.nodup_cons.mpr ⟨fun hm => ?_, ih⟩
      obtain ⟨j, hj, e⟩ := addrs_mem hm
      exact (List.nodup_cons.mp h).1 (by rw [nd_ix nd ha e]; exact hj)

/-! the callee's entry -/
/-- the heap without some addresses -/
def less (H : Hp) (l : List Addr) : Hp := fun x => if x ∈ l then none else H x
theorem less_same {H : Hp} {l : List Addr} : Same (less H l) H := fun x o h => by
  unfold less at h
  split at h
  · cases h
  · exact h
def entC (Z : Ent) (p : Pt) (H : Hp) (live : Bool) (js : List Nat) : Ent := ⟨Z.K, Z.TB, H, if live then less H (addrs p.ms js) else p.F, addrs p.ms js⟩
def ptC (Z : Ent) (p : Pt) (H : Hp) (live : Bool) (js : List Nat) : Pt := ⟨if live then less H (addrs p.ms js) else p.F, noHp, addrs p.ms js⟩
theorem flat_rts {Z' : Ent} {q : Pt} : ∀ {vs : List V} {ts : List T}, RTs Z p vs ts → ts.all T.flat = true → RTs Z' q vs ts
  | _, _, .nil, _ => .nil
  | v :: vs, t :: ts, .cons h g, e => by
    rw [List.all_cons, Bool.and_eq_true_iff] at e
    refine .cons ?_ (flat_rts g e.2)
    match t, h, e.1 with
    | .v f d, h, e =>
      have h' : Dx Z.K Z.TB (if f then p.N else p.F) v d := by cases f <;> exact h
      cases h' <;> first
        | (cases f <;> first | exact Dx.non | exact Dx.bl _ | exact Dx.int _ | exact Dx.str _)
        | exact absurd e Bool.false_ne_true
theorem entC_ok (s : SR Z p H μ) {live : Bool} {js : List Nat} {cs : Mu} (nd : js.Nodup) (hc : cellsAt μ js = some cs) :
    SR (entC Z p H live js) (ptC Z p H live js) H cs := by
  have hlt : ∀ j ∈ js, j < p.ms.length := fun j hj => by
    obtain ⟨k, hk⟩ := List.getElem?_of_mem hj
    obtain ⟨c, h1, _, _⟩ := cellsAt_get hc hk
    rw [s.len]
    exact (List.getElem?_eq_some_iff.mp h1).1
  have hn := addrs_len hlt
  have at_ : ∀ {k : Nat} {a : Addr}, (addrs p.ms js)[k]? = some a → ∃ j c, js[k]? = some j ∧ p.ms[j]? = some a ∧ μ[j]? = some c ∧ cs[k]? = some c ∧ c.flat = true := fun {k a} h => by
    have hk : k < js.length := by rw [← hn]; exact (List.getElem?_eq_some_iff.mp h).1
    have e : js[k]? = some js[k] := List.getElem?_eq_getElem hk
    obtain ⟨c, h1, h2, h3⟩ := cellsAt_get hc e
    rw [addrs_get hlt e] at h
    exact ⟨_, c, e, h, h1, h2, h3⟩
  refine ⟨?_, fun _ _ e => (nomatch e), fun _ _ e => (nomatch e), fun a o e => .inl e, fun _ _ e _ => e, fun a o e => ⟨o, e⟩, List.prefix_refl _, addrs_nodup s.nd nd, ?_, ?_, ?_, ?_, ?_⟩
  · show Same (if live then less H (addrs p.ms js) else p.F) H
    cases live
    · exact s.sub
    · exact less_same
  · show (addrs p.ms js).length = cs.length
    rw [hn, cellsAt_len hc]
  · intro k a c h h2 _
    obtain ⟨j, c', e1, e2, e3, e4, e5⟩ := at_ h
    cases live
    · show p.F a = none
      refine s.nof j a c' e2 e3 ?_
      cases c' with
      | frz f d => cases e5
      | _ => rfl
    · show less H (addrs p.ms js) a = none
      unfold less
      rw [if_pos (show a ∈ addrs p.ms js from List.mem_of_getElem? h)]
  · intro a ha
    obtain ⟨j, _, e⟩ := addrs_mem ha
    exact s.trk a (List.mem_of_getElem? e)
  · intro k a h h2
    exact absurd (List.getElem?_eq_some_iff.mp h).1 (Nat.not_lt.mpr h2)
  · intro k a c h h2
    obtain ⟨j, c', e1, e2, e3, e4, e5⟩ := at_ h
    rw [e4] at h2
    cases h2
    have q := s.cell j a c e2 e3
    cases c with
    | lst ts =>
      obtain ⟨vs, h1, r⟩ := q
      exact ⟨vs, h1, flat_rts r e5⟩
    | obj c ts =>
      obtain ⟨C, dx, fs, names, h1, h2, h3, r⟩ := q
      exact ⟨C, dx, fs, names, h1, h2, h3, flat_rts r e5⟩
    | _ => cases e5
theorem args_ok (s : SR Z p H μ) {live : Bool} {js0 : List Nat} {ν : Mu} (up : Same p.F (less H (addrs p.ms js0)))
    (rd : live = true → ∀ {n : Nat} {t : T} {v : V} {d : D}, RT Z p v t → deep n ν t = some d → Dx Z.K Z.TB (less H (addrs p.ms js0)) v d) :
    ∀ {rf : List Bool} {ts : List T} {vs : List V} {i : Nat} {us : List T}, argsIn ν live rf ts i = some us → RTs Z p vs ts →
    (∀ (k j : Nat), (refsOf rf ts)[k]? = some j → (addrs p.ms js0)[i + k]? = p.ms[j]?) → RTs (entC Z p H live js0) (ptC Z p H live js0) vs us
  | [], [], vs, i, us, e, r, _ => by
    cases r
    simp only [argsIn] at e
    cases e
    exact .nil
  | true :: rf, .m j :: ts, vs, i, us, e, r, hj => by
    cases r with
    | cons r1 r2 =>
      simp only [argsIn] at e
      split at e
      · rename_i us' he
        cases e
        obtain ⟨a, h1, h2⟩ := r1
        refine .cons ⟨a, ?_, h2⟩ (args_ok s up rd he r2 fun k j' hk => ?_)
        · have := hj 0 j rfl
          show (addrs p.ms js0)[i]? = some a
          rw [show i = i + 0 from rfl, this]
          exact h1
        · have := hj (k + 1) j' (by simpa only [refsOf, List.getElem?_cons_succ] using hk)
          rw [show i + 1 + k = i + (k + 1) by omega]
          exact this
      · cases e
  | false :: rf, .v f d :: ts, vs, i, us, e, r, hj => by
    cases r with
    | cons r1 r2 =>
      simp only [argsIn] at e
      split at e
      · rename_i us' he
        cases e
        refine .cons (RT.mk ?_) (args_ok s up rd he r2 fun k j hk => hj k j (by simpa only [refsOf] using hk))
        show Dx Z.K Z.TB (if live then less H (addrs p.ms js0) else p.F) _ d
        have r1 : Dx Z.K Z.TB p.F _ d := r1.old s
        cases live
        · exact r1
        · exact Dx.mono up d r1
      · cases e
  | false :: rf, .m j :: ts, vs, i, us, e, r, hj => by
    cases r with
    | cons r1 r2 =>
      simp only [argsIn] at e
      split at e
      · rename_i hl
        subst hl
        split at e
        · rename_i d us' hd he
          cases e
          refine .cons (RT.mk ?_) (args_ok s up rd he r2 fun k j hk => hj k j (by simpa only [refsOf] using hk))
          exact rd rfl r1 hd
        · cases e
      · cases e
  | true :: _, [], _, _, _, e, _, _ => by simp only [argsIn] at e; cases e
  | false :: _, [], _, _, _, e, _, _ => by simp only [argsIn] at e; cases e
  | [], _ :: _, _, _, _, e, _, _ => by simp only [argsIn] at e; cases e
  | true :: _, .v _ _ :: _, _, _, _, e, _, _ => by simp only [argsIn] at e; cases e
/-- the cells by reference are alive: what stands for good is not among them -/
theorem less_up (s : SR Z p H μ) {js : List Nat} {cs : Mu} (hc : cellsAt μ js = some cs) : Same p.F (less H (addrs p.ms js)) := fun x o h => by
  unfold less
  split
  · rename_i hx
    obtain ⟨j, hj, e⟩ := addrs_mem hx
    obtain ⟨k, hk⟩ := List.getElem?_of_mem hj
    obtain ⟨c, h1, _, h3⟩ := cellsAt_get hc hk
    have : c.live = true := by
      cases c with
      | frz f d => cases h3
      | _ => rfl
    rw [s.nof j x c e h1 this] at h
    cases h
  · exact s.sub x o h
theorem hide_at {js : List Nat} {j : Nat} (hj : j ∉ js) : (hide μ js)[j]? = μ[j]? := setAll_other _ _ _ hj
theorem hide_in : ∀ {js : List Nat} {μ : Mu} {j : Nat} {c : Cell}, j ∈ js → (hide μ js)[j]? = some c → c = .hid
  | j0 :: js, μ, j, c, hj, h => by
    have h : (setAll (μ.set j0 .hid) js (js.map fun _ => Cell.hid))[j]? = some c := h
    by_cases e : j ∈ js
    · exact hide_in (μ := μ.set j0 .hid) e h
    · rw [setAll_other _ _ _ e] at h
      rcases List.mem_cons.mp hj with z | z
      · subst z
        rw [List.getElem?_set] at h
        split at h
        · split at h
          · exact (Option.some.inj h).symm
          · cases h
        · rename_i q; exact absurd rfl q
      · exact absurd z e
theorem hide_read (s : SR Z p H μ) {js : List Nat} {cs : Mu} (hc : cellsAt μ js = some cs) {n : Nat} {t : T} {v : V} {d : D} (h : RT Z p v t) (e : deep n (hide μ js) t = some d) :
    Dx Z.K Z.TB (less H (addrs p.ms js)) v d := by
  refine deep_in (less_up s hc) s.nin (fun j a c hj hcj => ?_) h e
  by_cases hm : j ∈ js
  · rw [hide_in hm hcj]
    trivial
  · rw [hide_at hm] at hcj
    have : a ∉ addrs p.ms js := fun z => by
      obtain ⟨i, hi, e'⟩ := addrs_mem z
      exact hm (by rw [nd_ix s.nd hj e']; exact hi)
    exact Cell.mono (Pt.Le.refl p) (by unfold less; rw [if_neg this]) (s.cell j a c hj hcj)
end

end L3

set_option Elab.async false
set_option linter.all false
set_option maxRecDepth 100000
set_option maxHeartbeats 4000000
/-! L3, ninth part: behind a call. -/
namespace L3
open PySem PySem.Spec PyProof.Rows L2

/-- the caller's heap behind the call -/
def ptB (p q : Pt) (live : Bool) (n : Nat) : Pt :=
  ⟨if live then (fun x => match p.F x with | some o => some o | none => q.N x) else q.F, fun x => match p.N x with | some o => some o | none => q.N x, p.ms ++ q.ms.drop n⟩
/-- the cells behind the call -/
def muB (μ μ' : Mu) (js : List Nat) : Mu := setAll μ js ((μ'.take js.length).map (renC js μ.length)) ++ (μ'.drop js.length).map (renC js μ.length)

section
variable {Z : Ent} {p q : Pt} {H H' : Hp} {μ μ' : Mu} {live : Bool} {js : List Nat} {cs : Mu}
theorem orl_l {f g : Hp} {x : Addr} {o : HO} (h : f x = some o) : (match f x with | some o => some o | none => g x) = some o := by rw [h]
theorem orl_r {f g : Hp} {x : Addr} (h : f x = none) : (match f x with | some o => some o | none => g x) = g x := by rw [h]

theorem ptB_le (s : SR Z p H μ) (e : (ptC Z p H live js).Le q) : p.Le (ptB p q live js.length) := by
  refine ⟨fun x o h => ?_, fun x o h => orl_l h, List.prefix_append _ _⟩
  cases live
  · exact e.f x o h
  · exact orl_l h
/-- a value that comes back -/
theorem ren_ok (s : SR Z p H μ) (nd : js.Nodup) (hc : cellsAt μ js = some cs) (e : (ptC Z p H live js).Le q) (c : SR (entC Z p H live js) q H' μ') {v : V} :
    ∀ {t : T}, (live = true → t.news = true) → RT (entC Z p H live js) q v t → RT Z (ptB p q live js.length) v (ren js μ.length t)
  | .v true d, _, r => by
    refine Dx.mono (fun x o h => ?_) d (show Dx Z.K Z.TB q.N v d from r)
    show (match p.N x with | some o => some o | none => q.N x) = some o
    rw [orl_r]
    · exact h
    · have hx : H x = none := c.fr x o h
      exact s.freeN hx
  | .v false d, hn, r => by
    cases live
    · exact r
    · have ha : d.atom = true := by
        have := hn rfl
        simpa [T.news] using this
      exact Dx.atomic (show Dx Z.K Z.TB q.F v d from r) ha
  | .m i, _, ⟨a, h, hv⟩ => by
    have hlt : ∀ j ∈ js, j < p.ms.length := fun j hj => by
      obtain ⟨k, hk⟩ := List.getElem?_of_mem hj
      obtain ⟨c, h1, _, _⟩ := cellsAt_get hc hk
      rw [s.len]
      exact (List.getElem?_eq_some_iff.mp h1).1
    have hn := addrs_len hlt
    obtain ⟨l, hq⟩ : addrs p.ms js <+: q.ms := e.m
    cases hi : js[i]? with
    | some j =>
      rw [show ren js μ.length (.m i) = .m j by simp only [ren, hi]]
      refine ⟨a, ?_, hv⟩
      have hk := addrs_get hlt hi
      have hil : i < (addrs p.ms js).length := by rw [hn]; exact (List.getElem?_eq_some_iff.mp hi).1
      rw [← hq, List.getElem?_append_left hil, hk] at h
      show (p.ms ++ q.ms.drop js.length)[j]? = some a
      rw [List.getElem?_append_left (List.getElem?_eq_some_iff.mp h).1]
      exact h
    | none =>
      rw [show ren js μ.length (.m i) = .m (μ.length + (i - js.length)) by simp only [ren, hi]]
      refine ⟨a, ?_, hv⟩
      have hge : js.length ≤ i := List.getElem?_eq_none_iff.mp hi
      show (p.ms ++ q.ms.drop js.length)[μ.length + (i - js.length)]? = some a
      rw [← s.len, List.getElem?_append_right (Nat.le_add_right _ _), Nat.add_sub_cancel_left, List.getElem?_drop, Nat.add_sub_cancel' hge]
      exact h
theorem rens_ok (s : SR Z p H μ) (nd : js.Nodup) (hc : cellsAt μ js = some cs) (e : (ptC Z p H live js).Le q) (c : SR (entC Z p H live js) q H' μ') :
    ∀ {vs : List V} {ts : List T}, (live = true → ts.all T.news = true) → RTs (entC Z p H live js) q vs ts → RTs Z (ptB p q live js.length) vs (ts.map (ren js μ.length))
  | _, _, _, .nil => .nil
  | _, _, hn, .cons h t => by
    have hn' : live = true → _ := fun z => Bool.and_eq_true_iff.mp (show (_ && _) = true from hn z)
    exact .cons (ren_ok s nd hc e c (fun z => (hn' z).1) h) (rens_ok s nd hc e c (fun z => (hn' z).2) t)
theorem renC_ok (s : SR Z p H μ) (nd : js.Nodup) (hc : cellsAt μ js = some cs) (e : (ptC Z p H live js).Le q) (c : SR (entC Z p H live js) q H' μ') {a : Addr} :
    ∀ {d : Cell}, (live = true → d.news = true) → CellOk (entC Z p H live js) q H' a d → CellOk Z (ptB p q live js.length) H' a (renC js μ.length d)
  | .lst ts, hn, ⟨vs, h1, h2⟩ => ⟨vs, h1, rens_ok s nd hc e c hn h2⟩
  | .tup ts, hn, ⟨vs, h1, h2⟩ => ⟨vs, h1, rens_ok s nd hc e c hn h2⟩
  | .obj k ts, hn, ⟨C, dx, fs, names, h1, h2, h3, h4⟩ => ⟨C, dx, fs, names, h1, h2, by rw [List.length_map]; exact h3, rens_ok s nd hc e c hn h4⟩
  | .dT ks ts, hn, ⟨kvs, h1, h2, h3⟩ => ⟨kvs, h1, h2, rens_ok s nd hc e c hn h3⟩
  | .dK ks ts, hn, ⟨kvs, h1, h2, h3⟩ => ⟨kvs, h1, h2, rens_ok s nd hc e c hn h3⟩
  | .frz f d, hn, h1 => by
    have := ren_ok s nd hc e c (t := .v f d) (fun z => by have := hn z; simp [T.news]; exact .inl this) h1
    exact this
  | .hid, _, _ => trivial
theorem renC_live {b : Nat} : ∀ {d : Cell}, (renC js b d).live = d.live
  | .lst _ => rfl
  | .tup _ => rfl
  | .obj _ _ => rfl
  | .dT _ _ => rfl
  | .dK _ _ => rfl
  | .frz _ _ => rfl
  | .hid => rfl

theorem sr_back (s : SR Z p H μ) (nd : js.Nodup) (hc : cellsAt μ js = some cs) (e : (ptC Z p H live js).Le q) (c : SR (entC Z p H live js) q H' μ')
    (hn : live = true → μ'.all Cell.news = true) : SR Z (ptB p q live js.length) H' (muB μ μ' js) := by
  have hlt : ∀ j ∈ js, j < p.ms.length := fun j hj => by
    obtain ⟨k, hk⟩ := List.getElem?_of_mem hj
    obtain ⟨c, h1, _, _⟩ := cellsAt_get hc hk
    rw [s.len]
    exact (List.getElem?_eq_some_iff.mp h1).1
  have hlen := addrs_len hlt
  have hqm : addrs p.ms js <+: q.ms := e.m
  have hql : js.length ≤ q.ms.length := by rw [← hlen]; exact hqm.length_le
  have hkeep : ∀ x o, H x = some o → x ∉ addrs p.ms js → H' x = some o := fun x o h hx => c.keep x o h hx
  have hnone : ∀ x, x ∈ q.ms.drop js.length → H x = none := fun x hx => by
    obtain ⟨k, hk⟩ := List.getElem?_of_mem hx
    rw [List.getElem?_drop] at hk
    exact c.new _ x hk (by show (addrs p.ms js).length ≤ _; rw [hlen]; exact Nat.le_add_right _ _)
  have hcut : (setAll μ js ((μ'.take js.length).map (renC js μ.length))).length = μ.length := setAll_len _ _ _
  have hF0 : ∀ x o, p.F x = some o → x ∉ addrs p.ms js := fun x o h hx => by
    have h' := less_up s hc x o h
    unfold less at h'
    rw [if_pos hx] at h'
    cases h'
  -- what stands at an index
  have look : ∀ (i : Nat) (a : Addr) (d : Cell), (p.ms ++ q.ms.drop js.length)[i]? = some a → (muB μ μ' js)[i]? = some d →
      (∃ (k j : Nat) (d' : Cell), js[k]? = some j ∧ i = j ∧ p.ms[i]? = some a ∧ q.ms[k]? = some a ∧ μ'[k]? = some d' ∧ d = renC js μ.length d') ∨
      (i ∉ js ∧ p.ms[i]? = some a ∧ μ[i]? = some d ∧ a ∉ addrs p.ms js) ∨
      (p.ms.length ≤ i ∧ ∃ (k : Nat) (d' : Cell), js.length ≤ k ∧ q.ms[k]? = some a ∧ μ'[k]? = some d' ∧ d = renC js μ.length d' ∧ a ∈ q.ms.drop js.length) := by
    intro i a d h1 h2
    unfold muB at h2
    by_cases hi : i < μ.length
    · rw [List.getElem?_append_left (by rw [s.len]; exact hi)] at h1
      rw [List.getElem?_append_left (by rw [hcut]; exact hi)] at h2
      by_cases hj : i ∈ js
      · obtain ⟨k, hk⟩ := List.getElem?_of_mem hj
        have hkl : k < js.length := (List.getElem?_eq_some_iff.mp hk).1
        have hqk : q.ms[k]? = some a := by
          obtain ⟨l, hq⟩ := hqm
          rw [← hq, List.getElem?_append_left (by rw [hlen]; exact hkl), addrs_get hlt hk]
          exact h1
        have hkm : k < μ'.length := by rw [← c.len]; exact (List.getElem?_eq_some_iff.mp hqk).1
        have hd' : μ'[k]? = some μ'[k] := List.getElem?_eq_getElem hkm
        have hm : ((μ'.take js.length).map (renC js μ.length))[k]? = some (renC js μ.length μ'[k]) := by
          rw [List.getElem?_map, List.getElem?_take_of_lt hkl, hd'] <;> rfl
        rw [setAll_at js _ _ nd hk hm hi] at h2
        exact .inl ⟨k, i, μ'[k], hk, rfl, h1, hqk, hd', (Option.some.inj h2).symm⟩
      · rw [setAll_other js _ _ hj] at h2
        refine .inr (.inl ⟨hj, h1, h2, fun hx => ?_⟩)
        obtain ⟨j, hj', e'⟩ := addrs_mem hx
        exact hj (by rw [nd_ix s.nd h1 e']; exact hj')
    · have hi : μ.length ≤ i := Nat.le_of_not_lt hi
      rw [List.getElem?_append_right (by rw [s.len]; exact hi)] at h1
      rw [List.getElem?_append_right (by rw [hcut]; exact hi), hcut, List.getElem?_map, List.getElem?_drop] at h2
      have hm := List.mem_of_getElem? h1
      rw [List.getElem?_drop, s.len] at h1
      cases hd : μ'[js.length + (i - μ.length)]? with
      | none => rw [hd] at h2; cases h2
      | some d' =>
        rw [hd] at h2
        exact .inr (.inr ⟨by rw [s.len]; exact hi, _, d', Nat.le_add_right _ _, h1, hd, (Option.some.inj h2).symm, hm⟩)
  have fF : ∀ x o, (ptB p q live js.length).F x = some o → (live = true ∧ (p.F x = some o ∨ (p.F x = none ∧ q.N x = some o))) ∨ (live = false ∧ q.F x = some o) := by
    intro x o h
    cases live
    · exact .inr ⟨rfl, h⟩
    · refine .inl ⟨rfl, ?_⟩
      have h : (match p.F x with | some o => some o | none => q.N x) = some o := h
      cases hp : p.F x with
      | some o' => rw [hp] at h; exact .inl h
      | none => rw [hp] at h; exact .inr ⟨rfl, h⟩
  have fN : ∀ x o, (ptB p q live js.length).N x = some o → p.N x = some o ∨ (p.N x = none ∧ q.N x = some o) := by
    intro x o h
    have h : (match p.N x with | some o => some o | none => q.N x) = some o := h
    cases hp : p.N x with
    | some o' => rw [hp] at h; exact .inl h
    | none => rw [hp] at h; exact .inr ⟨rfl, h⟩
  refine ⟨fun x o h => ?_, fun x o h => ?_, fun x o h => ?_, fun x o h => ?_, fun x o h hx => ?_, fun x o h => ?_, s.pre.trans (List.prefix_append _ _), ?_, ?_, fun i a d h1 h2 h3 => ?_, fun a ha => ?_, fun i a h1 h2 => ?_, fun i a d h1 h2 => ?_⟩
  · rcases fF x o h with ⟨z, h | ⟨_, h⟩⟩ | ⟨_, h⟩
    · exact hkeep x o (s.sub x o h) (hF0 x o h)
    · exact c.sub x o (c.nin x o h)
    · exact c.sub x o h
  · rcases fN x o h with h' | ⟨_, h'⟩
    · cases live
      · exact e.f x o (s.nin x o h')
      · exact orl_l (s.nin x o h')
    · cases live
      · exact c.nin x o h'
      · have hx : H x = none := c.fr x o h'
        show (match p.F x with | some o => some o | none => q.N x) = some o
        rw [orl_r (s.freeF hx)]
        exact h'
  · rcases fN x o h with h | ⟨_, h⟩
    · exact s.fr x o h
    · exact s.free0 (c.fr x o h)
  · rcases fF x o h with ⟨z, h | ⟨_, h⟩⟩ | ⟨z, h⟩
    · exact s.org x o h
    · exact .inr (s.free0 (c.fr x o h))
    · rcases c.org x o h with h | h
      · subst z
        exact s.org x o h
      · exact .inr (s.free0 h)
  · refine hkeep x o (s.keep x o h hx) fun hm => ?_
    obtain ⟨j, hj, e'⟩ := addrs_mem hm
    by_cases h0 : Z.ms0.length ≤ j
    · rw [s.new j x e' h0] at h; cases h
    · obtain ⟨l, hl⟩ := s.pre
      rw [← hl, List.getElem?_append_left (Nat.lt_of_not_le h0)] at e'
      exact hx (List.mem_of_getElem? e')
  · obtain ⟨o', h'⟩ := s.dom x o h
    exact c.dom x o' h'
  · show (p.ms ++ q.ms.drop js.length).Nodup
    rw [List.nodup_append]
    refine ⟨s.nd, c.nd.sublist (List.drop_sublist _ _), fun x hx y hy z => ?_⟩
    subst z
    obtain ⟨o, ho⟩ := s.trk x hx
    rw [hnone x hy] at ho
    cases ho
  · show (p.ms ++ q.ms.drop js.length).length = (muB μ μ' js).length
    unfold muB
    rw [List.length_append, List.length_append, hcut, List.length_map, List.length_drop, List.length_drop, s.len, c.len]
  · rcases look i a d h1 h2 with ⟨k, j, d', hk, hij, hp, hq, hd, rfl⟩ | ⟨hj, hp, hd, hna⟩ | ⟨_, k, d', hk, hq, hd, rfl, hm⟩
    · rw [renC_live] at h3
      cases live
      · exact c.nof k a d' hq hd h3
      · have hpF : p.F a = none := by
          cases hf : p.F a with
          | none => rfl
          | some o =>
            obtain ⟨c0, _, _, _⟩ := cellsAt_get hc hk
            refine absurd ?_ (hF0 a o hf)
            exact List.mem_of_getElem? (show (addrs p.ms js)[k]? = some a by rw [addrs_get hlt hk, ← hij]; exact hp)
        show (match p.F a with | some o => some o | none => q.N a) = none
        rw [orl_r hpF]
        cases hN : q.N a with
        | none => rfl
        | some o =>
          have h0 : H a = none := c.fr a o hN
          obtain ⟨u, hu⟩ := s.trk a (List.mem_of_getElem? hp)
          rw [h0] at hu; cases hu
    · have hpF := s.nof i a d hp hd h3
      obtain ⟨o, ho⟩ := s.trk a (List.mem_of_getElem? hp)
      cases hf : (ptB p q live js.length).F a with
      | none => rfl
      | some u =>
        rcases fF a u hf with ⟨z, h | ⟨_, h⟩⟩ | ⟨z, h⟩
        · rw [hpF] at h; cases h
        · have : H a = none := c.fr a u h
          rw [ho] at this; cases this
        · rcases c.org a u h with h | h
          · subst z
            have h : p.F a = some u := h
            rw [hpF] at h; cases h
          · have h : H a = none := h
            rw [ho] at h; cases h
    · rw [renC_live] at h3
      have hx := hnone a hm
      cases live
      · exact c.nof k a d' hq hd h3
      · show (match p.F a with | some o => some o | none => q.N a) = none
        rw [orl_r (s.freeF hx)]
        exact c.nin.free (c.nof k a d' hq hd h3)
  · rcases List.mem_append.mp (show a ∈ p.ms ++ q.ms.drop js.length from ha) with ha | ha
    · obtain ⟨o, ho⟩ := s.trk a ha
      by_cases hx : a ∈ addrs p.ms js
      · exact c.trk a (hqm.subset hx)
      · exact ⟨o, hkeep a o ho hx⟩
    · exact c.trk a (List.mem_of_mem_drop ha)
  · have h1 : (p.ms ++ q.ms.drop js.length)[i]? = some a := h1
    by_cases hi : i < p.ms.length
    · rw [List.getElem?_append_left hi] at h1
      exact s.new i a h1 h2
    · rw [List.getElem?_append_right (Nat.le_of_not_lt hi)] at h1
      exact s.free0 (hnone a (List.mem_of_getElem? h1))
  · have nw : ∀ {k : Nat} {d' : Cell}, μ'[k]? = some d' → live = true → d'.news = true := fun {k d'} hd z => List.all_eq_true.mp (hn z) d' (List.mem_of_getElem? hd)
    rcases look i a d h1 h2 with ⟨k, j, d', hk, hij, hp, hq, hd, rfl⟩ | ⟨hj, hp, hd, hna⟩ | ⟨_, k, d', hk, hq, hd, rfl, hm⟩
    · exact renC_ok s nd hc e c (nw hd) (c.cell k a d' hq hd)
    · obtain ⟨o, ho⟩ := s.trk a (List.mem_of_getElem? hp)
      exact Cell.mono (ptB_le s e) (by rw [hkeep a o ho hna, ho]) (s.cell i a d hp hd)
    · exact renC_ok s nd hc e c (nw hd) (c.cell k a d' hq hd)

/-- THE CALL: what the caller owes the callee's promise -/
theorem call_owes {W : Wish} {σ : L2.St} {Q : VK} {g : List T → Mu → Ot T} {rf : List Bool} {ts : List T} {vs : List V} (s : SR Z p H μ) (r : RTs Z p vs ts)
    (h : Post Z W σ Q p (callD g live rf ts μ)) : spD Z.K Z.TB g vs.length vs H Q (WE W σ) := by
  unfold callD at h
  split at h
  · rename_i us ha
    split at h
    · rename_i nd
      split at h
      · rename_i cs hc
        have hlt : ∀ j ∈ refsOf rf ts, j < p.ms.length := fun j hj => by
          obtain ⟨k, hk⟩ := List.getElem?_of_mem hj
          obtain ⟨c, h1, _, _⟩ := cellsAt_get hc hk
          rw [s.len]
          exact (List.getElem?_eq_some_iff.mp h1).1
        refine ⟨rfl, if live then less H (addrs p.ms (refsOf rf ts)) else p.F, addrs p.ms (refsOf rf ts), cs, us, entC_ok s nd hc, ?_, ?_⟩
        · refine args_ok s (js0 := refsOf rf ts) (less_up s hc) (fun hl {n t v d} r e => ?_) ha r fun k j hk => by rw [Nat.zero_add]; exact addrs_get hlt hk
          rw [hl, if_pos rfl] at e
          exact hide_read s hc r e
        · match hg : g us cs, h with
          | some (.ok t μ'), h =>
            simp only [back] at h
            split at h
            · rename_i hcond
              intro v H' q hle hsr hrt
              have hnew : live = true → t.news = true ∧ μ'.all Cell.news = true := fun z => by
                rw [z] at hcond
                simpa using hcond
              exact h v H' _ (ptB_le s hle) (sr_back s nd hc hle hsr fun z => (hnew z).2) (ren_ok s nd hc hle hsr (fun z => (hnew z).1) hrt)
            · exact h.elim
          | some (.exc c t μ'), h =>
            simp only [back] at h
            split at h
            · rename_i hcond
              intro C v dx H' q hC hle hsr h0 hd hrt
              have hnew : live = true → t.news = true ∧ μ'.all Cell.news = true := fun z => by
                rw [z] at hcond
                simpa using hcond
              refine h C v dx H' _ hC (ptB_le s hle) (sr_back s nd hc hle hsr fun z => (hnew z).2) (s.free0 h0) ?_ (ren_ok s nd hc hle hsr (fun z => (hnew z).1) hrt)
              have h0' : H dx = none := h0
              show (match p.N dx with | some o => some o | none => q.N dx) = _
              rw [orl_r (s.freeN h0')]
              exact hd
            · exact h.elim
          | none, h => exact h.elim
      · exact h.elim
    · exact h.elim
  · exact h.elim
end
end L3

set_option Elab.async false
set_option linter.all false
set_option maxRecDepth 100000
set_option maxHeartbeats 4000000
/-! L3, tenth part: expressions, one construct after the other. -/
namespace L3
open PySem PySem.Spec PyProof.Rows L2

abbrev Db := Gam → Mu → Ot Bool
section
variable {X : Cx} {Z : Ent} {W : Wish} {a b c e : Expr} {es : List Expr} {ga gb gc : De} {ta tb : Db} {da : Da} {pos : Pos}

/-! names, constants -/
def dVar (i : Nat) : De := fun Γ μ => match Γ[i]? with
  | some (some t) => some (.ok t μ)
  | _ => none
theorem xe_var {i : Nat} {x : Str} (hN : X.N[i]? = some x) (hv : Vis X.env.scope x) (hd : (x == ("__debug__" : Str)) = false) (hcd : (x == ("__classdict__" : Str)) = false) : PE X (.Name x pos) (tD Z W (dVar i)) :=
  pe_imp (pe_var hN hv hd hcd) fun σ H Q ⟨p, μ, Γ, s, e, h⟩ => by
    unfold dVar at h
    split at h
    · rename_i t ht
      obtain ⟨v, h1, h2⟩ := e.2 i t ht
      exact ⟨v, h1, h v H p (Pt.Le.refl p) s h2⟩
    · exact h.elim
def dAtm (d : D) : De := fun _ μ => some (.ok (.v true d) μ)
theorem xe_atm {v : V} {d : D} (h : PE X e (tC v)) (hv : ∀ F : Hp, Dx Z.K Z.TB F v d) : PE X e (tD Z W (dAtm d)) :=
  pe_imp h fun σ H Q ⟨p, μ, Γ, s, e, h⟩ => h v H p (Pt.Le.refl p) s (hv _)

/-! operators -/
def d1 (g : Mu → T → Vt) (ga : De) : De := fun Γ μ => Ot.bind (ga Γ μ) fun ta μ1 => (g μ1 ta).ot
def d2 (g : Mu → T → T → Vt) (ga gb : De) : De := fun Γ μ => Ot.bind (ga Γ μ) fun ta μ1 => Ot.bind (gb Γ μ1) fun tb μ2 => (g μ2 ta tb).ot
/-- one piece, then what is asked of its value -/
theorem one {g : Mu → T → Vt} {σ : L2.St} {H : Hp} {Q : VK} (h : tD Z W (d1 g ga) σ H Q) : tD Z W ga σ H fun x H1 => rV1 Z g x H1 Q := by
  obtain ⟨p, μ, Γ, s, e, h⟩ := h
  obtain ⟨p', μ', Γ', s', e', h'⟩ := tD_bind s e h
  refine ⟨p', μ', Γ', s', e', ?_⟩
  match hg : ga Γ' μ', h' with
  | some (.ok t μ1), h' =>
    intro v H' q hl hs hr
    obtain ⟨q1, μ2, t2, l1, s1, e1, r1, k1⟩ := h' v H' q hl hs hr
    exact ⟨q1, μ2, t2, s1, r1, VPost.post k1⟩
  | some (.exc c t μ1), h' => exact h'
theorem two {g : Mu → T → T → Vt} {σ : L2.St} {H : Hp} {Q : VK} (h : tD Z W (d2 g ga gb) σ H Q) :
    tD Z W ga σ H fun x H1 => tD Z W gb σ H1 fun y H2 => rV2 Z g x y H2 Q := by
  obtain ⟨p, μ, Γ, s, e, h⟩ := h
  obtain ⟨p', μ', Γ', s', e', h'⟩ := tD_bind s e h
  refine ⟨p', μ', Γ', s', e', ?_⟩
  match hg : ga Γ' μ', h' with
  | some (.ok t μ1), h' =>
    intro v H' q hl hs hr
    obtain ⟨q1, μ2, t2, l1, s1, e1, r1, k1⟩ := h' v H' q hl hs hr
    obtain ⟨p3, μ3, Γ3, s3, e3, h3⟩ := tD_bind s1 e1 k1
    refine ⟨p3, μ3, Γ3, s3, e3, ?_⟩
    match hg3 : gb Γ3 μ3, h3 with
    | some (.ok t4 μ4), h3 =>
      intro v4 H4 q4 hl4 hs4 hr4
      obtain ⟨q5, μ5, t5, l5, s5, e5, r5, k5⟩ := h3 v4 H4 q4 hl4 hs4 hr4
      exact ⟨q5, μ5, t2, t5, s5, r1.mono l5, r5, VPost.post k5⟩
    | some (.exc c4 t4 μ4), h3 => exact h3
  | some (.exc c t μ1), h' => exact h'
theorem xe_bin (hK : X.K = Z.K) (live : Bool) {op : Operator} (ha : PE X a (tD Z W ga)) (hb : PE X b (tD Z W gb)) : PE X (.BinOp a op b pos) (tD Z W (d2 (binV live op) ga gb)) :=
  pe_imp (pe_op (op_binV hK live op) ha hb) fun _ _ _ h => two h
theorem xe_cmp (hK : X.K = Z.K) (hu : X.A.units + 65 < cLine) {op : CmpOp} (ha : PE X a (tD Z W ga)) (hb : PE X b (tD Z W gb)) (hm : behindInMarks op b = false) : PE X (.Compare a [op] [b] pos) (tD Z W (d2 (cmpVt op) ga gb)) :=
  pe_imp (pe_cmpR (op_cmpV hK hu op) ha hb hm) fun _ _ _ h => two h
def negV (μ : Mu) : T → Vt
  | .v _ (.int i) => some (.v true (.int (-i)), μ)
  | _ => none
def invV (μ : Mu) : T → Vt
  | .v _ (.int i) => some (.v true (.int (Builtin.bitNot i)), μ)
  | _ => none
theorem un_V {op : UnaryOp} {g : Mu → T → Vt} {f : Int → Int} (ho : UnR X (unaryOp op) (rU fun i => .int (f i))) (hg : ∀ μ t, g μ t = match t with | .v _ (.int i) => some (.v true (.int (f i)), μ) | _ => none) :
    UnR X (unaryOp op) (rV1 Z g) := by
  intro pins s σ H x v Q I rx h
  obtain ⟨p, μ, tx, sr, hx, h⟩ := h
  rw [hg] at h
  split at h
  · rename_i _ i
    cases hx.int
    exact ho pins s σ H _ v Q I rx ⟨i, rfl, VPost.flat sr (Dx.int _) h⟩
  · exact h.elim
theorem xe_neg (ha : PE X a (tD Z W ga)) : PE X (.UnaryOp .USub a pos) (tD Z W (d1 negV ga)) :=
  pe_imp (pe_un (un_V (Z := Z) (g := negV) un_neg fun μ t => by cases t with | v f d => cases d <;> rfl | m j => rfl) ha) fun _ _ _ h => one h
theorem xe_inv (ha : PE X a (tD Z W ga)) : PE X (.UnaryOp .Invert a pos) (tD Z W (d1 invV ga)) :=
  pe_imp (pe_un (un_V (Z := Z) (g := invV) un_inv fun μ t => by cases t with | v f d => cases d <;> rfl | m j => rfl) ha) fun _ _ _ h => one h
theorem xe_ix (hK : X.K = Z.K) (ha : PE X a (tD Z W ga)) (hb : PE X b (tD Z W gb)) (hs : PlainIx b) : PE X (.Subscript a b pos) (tD Z W (d2 ixV ga gb)) :=
  pe_imp (pe_ix (ix_V hK) ha hb hs) fun _ _ _ h => two h

/-! tests -/
def bOf (g : De) : Db := fun Γ μ => Ot.bind (g Γ μ) fun t μ1 => match t with
  | .v _ (.bl k) => some (.ok k μ1)
  | _ => none
/-- a piece, read as a test -/
theorem bOf_test {σ : L2.St} {H : Hp} {Q : Bool → Hp → Prop} {g : De} (h : tDB Z W (bOf g) σ H Q) : tD Z W g σ H fun x H1 => ∃ k, x = .bl k ∧ Q k H1 := by
  obtain ⟨p, μ, Γ, s, e, h⟩ := h
  obtain ⟨p', μ', Γ', s', e', h'⟩ := tD_bindB s e h
  refine ⟨p', μ', Γ', s', e', ?_⟩
  match hg : g Γ' μ', h' with
  | some (.ok t μ1), h' =>
    intro v H' q hl hs hr
    obtain ⟨q1, μ2, t2, l1, s1, e1, r1, k1⟩ := h' v H' q hl hs hr
    split at k1
    · rename_i k
      cases r1.bl
      exact ⟨k, rfl, k1 H' q1 (Pt.Le.refl q1) s1⟩
    · exact k1.elim
  | some (.exc c t μ1), h' => exact h'
theorem xt_cmp (hK : X.K = Z.K) (hu : X.A.units + 65 < cLine) {op : CmpOp} (ha : PE X a (tD Z W ga)) (hb : PE X b (tD Z W gb)) (hm : behindInMarks op b = false) : PT X (.Compare a [op] [b] pos) (tDB Z W (bOf (d2 (cmpVt op) ga gb))) :=
  pt_imp (pt_cmpR (op_cmpV hK hu op) ha hb hm) fun _ _ _ h => by
    obtain ⟨p, μ, Γ, s, e, h'⟩ := bOf_test h
    exact two ⟨p, μ, Γ, s, e, h'⟩
def bTru (g : De) : Db := fun Γ μ => Ot.bind (g Γ μ) fun t μ1 => match truT μ1 t with
  | some k => some (.ok k μ1)
  | none => none
theorem xt_tru (hK : X.K = Z.K) (ha : PE X a (tD Z W ga)) (he : ∀ whole, isTrue a X.env whole = (do let v ← whole; standAt a.pos; holding [v] (truthy v))) : PT X a (tDB Z W (bTru ga)) :=
  pt_imp (pt_truth ha he) fun σ H Q ⟨p, μ, Γ, s, e, h⟩ => by
    obtain ⟨p', μ', Γ', s', e', h'⟩ := tD_bindB s e h
    refine ⟨p', μ', Γ', s', e', ?_⟩
    match hg : ga Γ' μ', h' with
    | some (.ok t μ1), h' =>
      intro v H' q hl hs hr
      obtain ⟨q1, μ2, t2, l1, s1, e1, r1, k1⟩ := h' v H' q hl hs hr
      split at k1
      · rename_i k hk
        exact ⟨k, truT_ok hK s1 r1 hk, k1 H' q1 (Pt.Le.refl q1) s1⟩
      · exact k1.elim
    | some (.exc c t μ1), h' => exact h'
def bNot (g : Db) : Db := fun Γ μ => Ot.bind (g Γ μ) fun k μ1 => some (.ok (!k) μ1)
def bAnd (g h : Db) : Db := fun Γ μ => Ot.bind (g Γ μ) fun k μ1 => if k then h Γ μ1 else some (.ok false μ1)
def bOr (g h : Db) : Db := fun Γ μ => Ot.bind (g Γ μ) fun k μ1 => if k then some (.ok true μ1) else h Γ μ1
theorem bind2B {g : Db} {k : Bool → Mu → Ot Bool} {σ : L2.St} {H : Hp} {Q R : Bool → Hp → Prop} (h : tDB Z W (fun Γ μ => Ot.bind (g Γ μ) fun b μ1 => k b μ1) σ H Q)
    (hR : ∀ b H1 (q : Pt) (μ1 : Mu) (Γ : Gam), SR Z q H1 μ1 → ER Z q σ Γ → PostB Z W σ Q q (k b μ1) → R b H1) : tDB Z W g σ H R := by
  obtain ⟨p, μ, Γ, s, e, h⟩ := h
  obtain ⟨p', μ', Γ', s', e', h'⟩ := tDB_bindB s e h
  refine ⟨p', μ', Γ', s', e', ?_⟩
  match hg : g Γ' μ', h' with
  | some (.ok t μ1), h' =>
    intro H' q hl hs
    obtain ⟨q1, μ2, l1, s1, e1, k1⟩ := h' H' q hl hs
    exact hR _ _ _ _ _ s1 e1 k1
  | some (.exc c t μ1), h' => exact h'
theorem xt_not (ha : PT X a (tDB Z W ta)) : PT X (.UnaryOp .Not a pos) (tDB Z W (bNot ta)) :=
  pt_imp (pt_not ha) fun σ H Q h => bind2B (k := fun k μ1 => some (.ok (!k) μ1)) h fun b H1 q μ1 Γ s e k => k H1 q (Pt.Le.refl q) s
theorem xt_and {rest : List Expr} (ha : PT X a (tDB Z W ta)) (hb : PW X (.BoolOp .And (b :: rest) pos) (tDB Z W tb)) : PW X (.BoolOp .And (a :: b :: rest) pos) (tDB Z W (bAnd ta tb)) := by
  have h := pw_and ha hb
  refine ⟨fun wh pins s σ H Q I q => h.run wh pins s σ H Q I ?_⟩
  obtain ⟨p, μ, Γ, sr, er, h'⟩ := q
  obtain ⟨p', μ', Γ', s', e', h'⟩ := tDB_bindB sr er h'
  refine ⟨p', μ', Γ', s', e', ?_⟩
  match hg : ta Γ' μ', h' with
  | some (.ok t μ1), h' =>
    intro H' q hl hs
    obtain ⟨q1, μ2, l1, s1, e1, k1⟩ := h' H' q hl hs
    cases t
    · rw [if_neg Bool.false_ne_true] at k1 ⊢
      exact k1 H' q1 (Pt.Le.refl q1) s1
    · rw [if_pos rfl] at k1 ⊢
      exact ⟨q1, μ2, _, s1, e1, k1⟩
  | some (.exc c t μ1), h' => exact h'
theorem xt_or {rest : List Expr} (ha : PT X a (tDB Z W ta)) (hb : PW X (.BoolOp .Or (b :: rest) pos) (tDB Z W tb)) : PW X (.BoolOp .Or (a :: b :: rest) pos) (tDB Z W (bOr ta tb)) := by
  have h := pw_or ha hb
  refine ⟨fun wh pins s σ H Q I q => h.run wh pins s σ H Q I ?_⟩
  obtain ⟨p, μ, Γ, sr, er, h'⟩ := q
  obtain ⟨p', μ', Γ', s', e', h'⟩ := tDB_bindB sr er h'
  refine ⟨p', μ', Γ', s', e', ?_⟩
  match hg : ta Γ' μ', h' with
  | some (.ok t μ1), h' =>
    intro H' q hl hs
    obtain ⟨q1, μ2, l1, s1, e1, k1⟩ := h' H' q hl hs
    cases t
    · rw [if_neg Bool.false_ne_true] at k1 ⊢
      exact ⟨q1, μ2, _, s1, e1, k1⟩
    · rw [if_pos rfl] at k1 ⊢
      exact k1 H' q1 (Pt.Le.refl q1) s1
  | some (.exc c t μ1), h' => exact h'

/-! and, or, not as values -/
def dAnd (ga gb : De) : De := fun Γ μ => Ot.bind (ga Γ μ) fun t μ1 => match t with
  | .v _ (.bl k) => if k then gb Γ μ1 else some (.ok (.v true (.bl false)) μ1)
  | _ => none
def dOr (ga gb : De) : De := fun Γ μ => Ot.bind (ga Γ μ) fun t μ1 => match t with
  | .v _ (.bl k) => if k then some (.ok (.v true (.bl true)) μ1) else gb Γ μ1
  | _ => none
def notV (μ : Mu) : T → Vt
  | .v _ (.bl k) => some (.v true (.bl (!k)), μ)
  | _ => none
def dNot (ga : De) : De := d1 notV ga
theorem xe_and {rest : List Expr} (ha : PE X a (tD Z W ga)) (hb : PE X (.BoolOp .And (b :: rest) pos) (tD Z W gb)) : PE X (.BoolOp .And (a :: b :: rest) pos) (tD Z W (dAnd ga gb)) :=
  pe_imp (pe_and ha hb) fun σ H Q ⟨p, μ, Γ, s, e, h⟩ => by
    obtain ⟨p', μ', Γ', s', e', h'⟩ := tD_bind s e h
    refine ⟨p', μ', Γ', s', e', ?_⟩
    match hg : ga Γ' μ', h' with
    | some (.ok t μ1), h' =>
      intro v H' q hl hs hr
      obtain ⟨q1, μ2, t2, l1, s1, e1, r1, k1⟩ := h' v H' q hl hs hr
      split at k1
      · rename_i k
        cases r1.bl
        refine ⟨k, rfl, ?_⟩
        cases k
        · rw [if_neg Bool.false_ne_true] at k1 ⊢
          exact k1 _ _ q1 (Pt.Le.refl q1) s1 (Dx.bl _)
        · rw [if_pos rfl] at k1 ⊢
          exact ⟨q1, μ2, _, s1, e1, k1⟩
      · exact k1.elim
    | some (.exc c t μ1), h' => exact h'
theorem xe_or {rest : List Expr} (ha : PE X a (tD Z W ga)) (hb : PE X (.BoolOp .Or (b :: rest) pos) (tD Z W gb)) : PE X (.BoolOp .Or (a :: b :: rest) pos) (tD Z W (dOr ga gb)) :=
  pe_imp (pe_or ha hb) fun σ H Q ⟨p, μ, Γ, s, e, h⟩ => by
    obtain ⟨p', μ', Γ', s', e', h'⟩ := tD_bind s e h
    refine ⟨p', μ', Γ', s', e', ?_⟩
    match hg : ga Γ' μ', h' with
    | some (.ok t μ1), h' =>
      intro v H' q hl hs hr
      obtain ⟨q1, μ2, t2, l1, s1, e1, r1, k1⟩ := h' v H' q hl hs hr
      split at k1
      · rename_i k
        cases r1.bl
        refine ⟨k, rfl, ?_⟩
        cases k
        · rw [if_neg Bool.false_ne_true] at k1 ⊢
          exact ⟨q1, μ2, _, s1, e1, k1⟩
        · rw [if_pos rfl] at k1 ⊢
          exact k1 _ _ q1 (Pt.Le.refl q1) s1 (Dx.bl _)
      · exact k1.elim
    | some (.exc c t μ1), h' => exact h'
theorem xe_not (ha : PE X a (tD Z W ga)) : PE X (.UnaryOp .Not a pos) (tD Z W (dNot ga)) :=
  pe_imp (pe_not ha) fun σ H Q h => by
    obtain ⟨p, μ, Γ, s, e, h'⟩ := one h
    refine ⟨p, μ, Γ, s, e, ?_⟩
    match hg : ga Γ μ, h' with
    | some (.ok t μ1), h' =>
      intro v H' q hl hs hr
      obtain ⟨q1, μ2, t2, s1, r1, k1⟩ := h' v H' q hl hs hr
      unfold notV at k1
      split at k1
      · rename_i k
        cases r1.bl
        exact ⟨k, rfl, VPost.flat s1 (Dx.bl _) k1⟩
      · exact k1.elim
    | some (.exc c t μ1), h' => exact h'

/-! a if t else b -/
def dIf (t : Db) (ga gb : De) : De := fun Γ μ => Ot.bind (t Γ μ) fun k μ1 => if k then ga Γ μ1 else gb Γ μ1
theorem xe_if (hc : PT X c (tDB Z W ta)) (ha : PE X a (tD Z W ga)) (hb : PE X b (tD Z W gb)) : PE X (.IfExp c a b pos) (tD Z W (dIf ta ga gb)) :=
  pe_imp (pe_ifExp hc ha hb) fun σ H Q ⟨p, μ, Γ, s, e, h⟩ => by
    obtain ⟨p', μ', Γ', s', e', h'⟩ := tDB_bind s e h
    refine ⟨p', μ', Γ', s', e', ?_⟩
    match hg : ta Γ' μ', h' with
    | some (.ok t μ1), h' =>
      intro H' q hl hs
      obtain ⟨q1, μ2, l1, s1, e1, k1⟩ := h' H' q hl hs
      cases t
      · rw [if_neg Bool.false_ne_true] at k1 ⊢
        exact ⟨q1, μ2, _, s1, e1, k1⟩
      · rw [if_pos rfl] at k1 ⊢
        exact ⟨q1, μ2, _, s1, e1, k1⟩
    | some (.exc c t μ1), h' => exact h'

/-! lists of arguments, displays -/
def aNil : Da := fun _ μ => some (.ok [] μ)
def aCons (g : De) (h : Da) : Da := fun Γ μ => Ot.bind (g Γ μ) fun t μ1 => Ot.bind (h Γ μ1) fun ts μ2 => some (.ok (t :: ts) μ2)
theorem xa_nil : PA X [] (tDA Z W aNil) := pa_imp pa_nil fun σ H Q ⟨p, μ, Γ, s, e, h⟩ => h [] H p (Pt.Le.refl p) s .nil
theorem xa_cons (ha : PE X a (tD Z W ga)) (hr : PA X es (tDA Z W da)) (hs : starEach (a :: es) X.env = (false, eval a X.env) :: starEach es X.env) : PA X (a :: es) (tDA Z W (aCons ga da)) :=
  pa_imp (pa_cons ha hr hs) fun σ H Q ⟨p, μ, Γ, s, e, h⟩ => by
    obtain ⟨p', μ', Γ', s', e', h'⟩ := tD_bindA s e h
    refine ⟨p', μ', Γ', s', e', ?_⟩
    match hg : ga Γ' μ', h' with
    | some (.ok t μ1), h' =>
      intro v H' q hl hs hr
      obtain ⟨q1, μ2, t2, l1, s1, e1, r1, k1⟩ := h' v H' q hl hs hr
      obtain ⟨p3, μ3, Γ3, s3, e3, h3⟩ := tDA_bindA s1 e1 k1
      refine ⟨p3, μ3, Γ3, s3, e3, ?_⟩
      match hg3 : da Γ3 μ3, h3 with
      | some (.ok t4 μ4), h3 =>
        intro v4 H4 q4 hl4 hs4 hr4
        obtain ⟨q5, μ5, t5, l5, s5, e5, r5, k5⟩ := h3 v4 H4 q4 hl4 hs4 hr4
        exact k5 _ _ q5 (Pt.Le.refl q5) s5 (.cons (r1.mono l5) r5)
      | some (.exc c4 t4 μ4), h3 => exact h3
    | some (.exc c t μ1), h' => exact h'
def dLst (live : Bool) (da : Da) : De := fun Γ μ => Ot.bind (da Γ μ) fun ts μ1 => if ts.length ≤ 64 then (newL live μ1 ts).ot else none
def dTup (da : Da) : De := fun Γ μ => Ot.bind (da Γ μ) fun ts μ1 => if ts.length ≤ 64 then (newU μ1 ts).ot else none
theorem small_line {n : Nat} (h : n ≤ 64) : n ≤ sizeLine := Nat.le_trans h (by decide)
theorem xe_lst (live : Bool) (h : PA X es (tDA Z W da)) : PE X (.List es pos) (tD Z W (dLst live da)) :=
  pe_imp (pe_lst h) fun σ H Q ⟨p, μ, Γ, s, e, h⟩ => by
    obtain ⟨p', μ', Γ', s', e', h'⟩ := tDA_bind s e h
    refine ⟨p', μ', Γ', s', e', ?_⟩
    match hg : da Γ' μ', h' with
    | some (.ok t μ1), h' =>
      intro v H' q hl hs hr
      obtain ⟨q1, μ2, t2, l1, s1, e1, r1, k1⟩ := h' v H' q hl hs hr
      split at k1
      · rename_i hz
        exact ⟨by rw [r1.length]; exact small_line hz, fun a n => newL_ok s1 r1 (VPost.post k1) n⟩
      · exact k1.elim
    | some (.exc c t μ1), h' => exact h'
theorem xe_tup {k : Nat} (h : PA X es (tDA Z W da)) : PE X (.Tuple es k pos) (tD Z W (dTup da)) :=
  pe_imp (pe_tup h) fun σ H Q ⟨p, μ, Γ, s, e, h⟩ => by
    obtain ⟨p', μ', Γ', s', e', h'⟩ := tDA_bind s e h
    refine ⟨p', μ', Γ', s', e', ?_⟩
    match hg : da Γ' μ', h' with
    | some (.ok t μ1), h' =>
      intro v H' q hl hs hr
      obtain ⟨q1, μ2, t2, l1, s1, e1, r1, k1⟩ := h' v H' q hl hs hr
      split at k1
      · rename_i hz
        exact ⟨by rw [r1.length]; exact small_line hz, fun a n => newU_ok s1 r1 (VPost.post k1) n⟩
      · exact k1.elim
    | some (.exc c t μ1), h' => exact h'
end
end L3

set_option Elab.async false
set_option linter.all false
set_option maxRecDepth 100000
set_option maxHeartbeats 4000000
/-! L3, eleventh part: slices, built-in functions, methods of lists. -/
namespace L3
open PySem PySem.Spec PyProof.Rows L2

section
variable {X : Cx} {Z : Ent} {W : Wish} {a b c e : Expr} {es : List Expr} {ga gb gc : De} {ta tb : Db} {da : Da} {pos p2 : Pos}

/-! slices -/
/-- a part of a slice: none, or a whole number -/
abbrev Dp3 := Option De
def dPart (g : Dp3) : Gam → Mu → Ot (Option Int) := fun Γ μ => match g with
  | none => some (.ok none μ)
  | some g => Ot.bind (g Γ μ) fun t μ1 => match t with
    | .v _ (.int i) => some (.ok (some i) μ1)
    | _ => none
def dSl (live : Bool) (ga : De) (gl gh : Dp3) : De := fun Γ μ => Ot.bind (ga Γ μ) fun t μ1 => Ot.bind (dPart gl Γ μ1) fun l μ2 => Ot.bind (dPart gh Γ μ2) fun u μ3 => (slV live μ3 t l u).ot
inductive PoD (X : Cx) (Z : Ent) (W : Wish) : Option Expr → Dp3 → Prop
  | none : PoD X Z W none none
  | some {e : Expr} {g : De} : PE X e (tD Z W g) → PoD X Z W (some e) (some g)
/-- a part of a slice is asked -/
theorem po_run {o : Option Expr} {g : Dp3} (h : PoD X Z W o g) : ∃ t : TO, PO X o t ∧ ∀ (σ : L2.St) (H : Hp) (p : Pt) (μ : Mu) (Γ : Gam) (Q : VK) (k : Option Int → Mu → Ot T) (R : Option Int → Hp → Prop), SR Z p H μ → ER Z p σ Γ →
    Post Z W σ Q p (Ot.bind (dPart g Γ μ) k) → (∀ o H1 (q : Pt) (μ1 : Mu), p.Le q → SR Z q H1 μ1 → ER Z q σ Γ → Post Z W σ Q q (k o μ1) → R o H1) → t σ H R := by
  cases h with
  | none => exact ⟨_, po_none, fun σ H p μ Γ Q k R s e h hR => hR none H p μ (Pt.Le.refl p) s e h⟩
  | some he =>
    rename_i e g
    refine ⟨_, po_some he, fun σ H p μ Γ Q k R s er h hR => ?_⟩
    have h' : Post Z W σ Q p (Ot.bind (g Γ μ) fun t μ1 => Ot.bind (match t with | .v _ (.int i) => some (.ok (some i) μ1) | _ => none) k) := by
      have e0 : Ot.bind (dPart (some g) Γ μ) k = Ot.bind (g Γ μ) fun t μ1 => Ot.bind (match t with | .v _ (.int i) => some (.ok (some i) μ1) | _ => none) k := by
        show Ot.bind (Ot.bind (g Γ μ) _) k = _
        cases g Γ μ with
        | none => rfl
        | some r => cases r <;> rfl
      rw [e0] at h
      exact h
    refine ⟨p, μ, Γ, s, er, ?_⟩
    match hg : g Γ μ, h' with
    | some (.ok t μ1), h' =>
      intro v H' q hl hs hr
      have h' : Post Z W σ Q p (Ot.bind (match t with | .v _ (.int i) => some (.ok (some i) μ1) | _ => none) k) := h'
      match t, hr, h' with
      | .v _ (.int i), hr, h' =>
        cases hr.int
        exact ⟨i, rfl, hR (some i) H' q μ1 hl hs (er.mono hl) (Post.le hl h')⟩
      | .v _ .non, _, h' => exact h'.elim
      | .v _ (.bl _), _, h' => exact h'.elim
      | .v _ (.str _), _, h' => exact h'.elim
      | .v _ (.lst _), _, h' => exact h'.elim
      | .v _ (.tup _), _, h' => exact h'.elim
      | .v _ (.obj _ _), _, h' => exact h'.elim
      | .v _ (.dT _ _), _, h' => exact h'.elim
      | .v _ (.scr _), _, h' => exact h'.elim
      | .m _, _, h' => exact h'.elim
    | some (.exc c t μ1), h' => exact h'
theorem xe_sl (hK : X.K = Z.K) (live : Bool) {lo hi : Option Expr} {gl gh : Dp3} (ha : PE X a (tD Z W ga)) (hl : PoD X Z W lo gl) (hh : PoD X Z W hi gh) : PE X (.Subscript a (.Slice lo hi none p2) pos) (tD Z W (dSl live ga gl gh)) := by
  obtain ⟨t1, o1, r1⟩ := po_run hl
  obtain ⟨t2, o2, r2⟩ := po_run hh
  refine pe_imp (pe_slice (sl_V hK live) ha o1 o2) fun σ H Q ⟨p, μ, Γ, s, e, h⟩ => ?_
  obtain ⟨p', μ', Γ', s', e', h'⟩ := tD_bind s e h
  refine ⟨p', μ', Γ', s', e', ?_⟩
  match hg : ga Γ' μ', h' with
  | some (.ok t μ1), h' =>
    intro v H' q hl hs hr
    obtain ⟨q1, μ2, t2, l1, s1, e1, rt, k1⟩ := h' v H' q hl hs hr
    refine r1 σ H' q1 μ2 Γ Q _ _ s1 e1 k1 fun l H1 q2 μ3 l2 s2 e2 k2 => ?_
    refine r2 σ H1 q2 μ3 Γ Q _ _ s2 e2 k2 fun u H2 q3 μ4 l3 s3 e3 k3 => ?_
    exact ⟨q3, μ4, t2, s3, (rt.mono l2).mono l3, VPost.post k3⟩
  | some (.exc c t μ1), h' => exact h'
/-- xs[::-1] -/
def revV (live : Bool) (μ : Mu) (t : T) : Vt := match items μ t with
  | some (true, ts) => newL live μ ts.reverse
  | _ => none
theorem RTs.reverse {p : Pt} {vs : List V} {ts : List T} (h : RTs Z p vs ts) : RTs Z p vs.reverse ts.reverse := by
  induction h with
  | nil => exact .nil
  | cons h t ih => rw [List.reverse_cons, List.reverse_cons]; exact RTs.append ih (.cons h .nil)
theorem xe_rev (hK : X.K = Z.K) (live : Bool) {k : Nat} {q1 q2 q3 : Pos} (ha : PE X a (tD Z W ga)) :
    PE X (.Subscript a (.Slice none none (some (.UnaryOp .USub (.Constant (.int 1) k q1) q2)) q3) pos) (tD Z W (d1 (revV live) ga)) :=
  pe_imp (pe_revL ha) fun σ H Q h => by
    obtain ⟨p, μ, Γ, s, e, h'⟩ := one h
    refine ⟨p, μ, Γ, s, e, ?_⟩
    match hg : ga Γ μ, h' with
    | some (.ok t μ1), h' =>
      intro v H' q hl hs hr
      obtain ⟨q1, μ2, t2, s1, r1, k1⟩ := h' v H' q hl hs hr
      unfold revV at k1
      split at k1
      · rename_i ts hi
        obtain ⟨a, vs, rfl, h1, h2⟩ := items_ok s1 r1 hi
        exact ⟨a, vs, rfl, by rw [hK]; exact h1, fun q n => newL_ok s1 h2.reverse k1 n⟩
      · exact k1.elim
    | some (.exc c t μ1), h' => exact h'

/-! built-in functions, by values -/
def dBi (g : Mu → List T → Vt) (da : Da) : De := fun Γ μ => Ot.bind (da Γ μ) fun ts μ1 => (g μ1 ts).ot
theorem args {g : Mu → List T → Vt} {σ : L2.St} {H : Hp} {Q : VK} (h : tD Z W (dBi g da) σ H Q) : tDA Z W da σ H fun xs H1 => rVs Z g xs H1 Q := by
  obtain ⟨p, μ, Γ, s, e, h⟩ := h
  obtain ⟨p', μ', Γ', s', e', h'⟩ := tDA_bind s e h
  refine ⟨p', μ', Γ', s', e', ?_⟩
  match hg : da Γ' μ', h' with
  | some (.ok t μ1), h' =>
    intro v H' q hl hs hr
    obtain ⟨q1, μ2, t2, l1, s1, e1, r1, k1⟩ := h' v H' q hl hs hr
    exact ⟨q1, μ2, t2, s1, r1, VPost.post k1⟩
  | some (.exc c t μ1), h' => exact h'
theorem xe_bi {id : String} {x : Str} {p : Pos} {g : Mu → List T → Vt} (hc : CallR X (.builtin id) (rVs Z g)) (hg : Gl X x) (hm : X.mg x = none) (hv : bootBuiltins x = some (.builtin id)) (ha : PA X (e :: es) (tDA Z W da))
    (hn : x ≠ "__name__") (hdb : (x == ("__debug__" : Str)) = false) (he : starEach (e :: es) X.env = (false, eval e X.env) :: starEach es X.env) (hpl : (backTo pos (starEach es X.env)).any (·.1) = false) :
    PE X (.Call (.Name x p) (e :: es) [] pos) (tD Z W (dBi g da)) := pe_imp (pe_callB hc hg hm hv ha hn hdb he hpl) fun _ _ _ h => args h
theorem xe_ty {id : String} {x : Str} {p : Pos} {g : Mu → List T → Vt} (hc : CallR X (.type id) (rVs Z g)) (hg : Gl X x) (hm : X.mg x = none) (hv : bootBuiltins x = some (.type id)) (ha : PA X (e :: es) (tDA Z W da))
    (hn : x ≠ "__name__") (hdb : (x == ("__debug__" : Str)) = false) (he : starEach (e :: es) X.env = (false, eval e X.env) :: starEach es X.env) (hpl : (backTo pos (starEach es X.env)).any (·.1) = false) :
    PE X (.Call (.Name x p) (e :: es) [] pos) (tD Z W (dBi g da)) := pe_imp (pe_callTy hc hg hm hv ha hn hdb he hpl) fun _ _ _ h => args h

def lenV (μ : Mu) : List T → Vt
  | [.v _ (.str z)] => if z.length ≤ sizeLine then some (.v true (.int z.length), μ) else none
  | [t] => match items μ t with
    | some (_, ts) => some (.v true (.int ts.length), μ)
    | none => none
  | _ => none
theorem RTs.one {p : Pt} {xs : List V} {t : T} (h : RTs Z p xs [t]) : ∃ v, xs = [v] ∧ RT Z p v t := by
  cases h with
  | cons h g => cases g; exact ⟨_, rfl, h⟩
theorem RTs.two {p : Pt} {xs : List V} {t u : T} (h : RTs Z p xs [t, u]) : ∃ v w, xs = [v, w] ∧ RT Z p v t ∧ RT Z p w u := by
  cases h with
  | cons h g =>
    cases g with
    | cons g k => cases k; exact ⟨_, _, rfl, h, g⟩
theorem seq_of (hK : X.K = Z.K) {H : Hp} {a : Addr} {vs : List V} {b : Bool} (h : if b then SqL Z.K H a vs else SqT Z.K H a vs) : SqL X.K H a vs ∨ SqT X.K H a vs := by
  rw [hK]
  cases b
  · exact .inr h
  · exact .inl h
theorem call_lenV (hK : X.K = Z.K) : CallR X (.builtin "len") (rVs Z lenV) := by
  intro pins s σ H xs us Q I r h
  obtain ⟨p, μ, ts, sr, hx, h⟩ := h
  unfold lenV at h
  split at h
  · rename_i _ z
    obtain ⟨v, rfl, hv⟩ := hx.one
    cases hv.str
    split at h
    · rename_i hz
      exact call_len_str pins s σ H _ us Q I r ⟨z, rfl, hz, VPost.flat sr (Dx.int _) h⟩
    · exact h.elim
  · rename_i t _
    obtain ⟨v, rfl, hv⟩ := hx.one
    split at h
    · rename_i b ts hi
      obtain ⟨a, vs, rfl, h1, h2⟩ := items_ok sr hv hi
      exact call_len_seq pins s σ H _ us Q I r ⟨a, vs, rfl, seq_of hK h1, by rw [h2.length]; exact VPost.flat sr (Dx.int _) h⟩
    · exact h.elim
  · exact h.elim
def listV (live : Bool) (μ : Mu) : List T → Vt
  | [t] => match items μ t with
    | some (_, ts) => newL live μ ts
    | none => none
  | _ => none
theorem call_listV (hK : X.K = Z.K) (live : Bool) : CallR X (.type "list") (rVs Z (listV live)) := by
  intro pins s σ H xs us Q I r h
  obtain ⟨p, μ, ts, sr, hx, h⟩ := h
  unfold listV at h
  split at h
  · rename_i t
    obtain ⟨v, rfl, hv⟩ := hx.one
    split at h
    · rename_i b ts hi
      obtain ⟨a, vs, rfl, h1, h2⟩ := items_ok sr hv hi
      exact call_list_of pins s σ H _ us Q I r ⟨a, vs, rfl, seq_of hK h1, fun l n => newL_ok sr h2 h n⟩
    · exact h.elim
  · exact h.elim
def tupleV (μ : Mu) : List T → Vt
  | [t] => match items μ t with
    | some (true, ts) => newU μ ts
    | some (false, _) => some (t, μ)
    | none => none
  | _ => none
theorem call_tupleV (hK : X.K = Z.K) : CallR X (.type "tuple") (rVs Z tupleV) := by
  intro pins s σ H xs us Q I r h
  obtain ⟨p, μ, ts, sr, hx, h⟩ := h
  unfold tupleV at h
  split at h
  · rename_i t
    obtain ⟨v, rfl, hv⟩ := hx.one
    split at h
    · rename_i ts hi
      obtain ⟨a, vs, rfl, h1, h2⟩ := items_ok sr hv hi
      exact call_tuple_of pins s σ H _ us Q I r ⟨a, vs, rfl, .inl ⟨by rw [hK]; exact h1, fun l n => newU_ok sr h2 h n⟩⟩
    · rename_i ts hi
      obtain ⟨a, vs, rfl, h1, h2⟩ := items_ok sr hv hi
      exact call_tuple_of pins s σ H _ us Q I r ⟨a, vs, rfl, .inr ⟨by rw [hK]; exact h1, h _ H p (Pt.Le.refl p) sr hv⟩⟩
    · exact h.elim
  · exact h.elim
def intsOf : List T → Option (List Int)
  | [] => some []
  | .v _ (.int i) :: r => match intsOf r with
    | some is => some (i :: is)
    | none => none
  | _ => none
theorem intsOf_ok {p : Pt} : ∀ {ts : List T} {vs : List V} {ns : List Int}, intsOf ts = some ns → RTs Z p vs ts → vs = ns.map V.int
  | [], vs, ns, e, h => by cases e; cases h; rfl
  | .v _ (.int i) :: ts, vs, ns, e, h => by
    cases h with
    | cons h1 h2 =>
      unfold intsOf at e
      split at e
      · rename_i is hi
        cases e
        cases h1.int
        rw [intsOf_ok hi h2, List.map_cons]
      · cases e
  | .v _ .non :: _, _, _, e, _ => by cases e
  | .v _ (.bl _) :: _, _, _, e, _ => by cases e
  | .v _ (.str _) :: _, _, _, e, _ => by cases e
  | .v _ (.lst _) :: _, _, _, e, _ => by cases e
  | .v _ (.tup _) :: _, _, _, e, _ => by cases e
  | .v _ (.obj _ _) :: _, _, _, e, _ => by cases e
  | .v _ (.dT _ _) :: _, _, _, e, _ => by cases e
  | .v _ (.scr _) :: _, _, _, e, _ => by cases e
  | .m _ :: _, _, _, e, _ => by cases e
def boolsOf : List T → Option (List Bool)
  | [] => some []
  | .v _ (.bl i) :: r => match boolsOf r with
    | some is => some (i :: is)
    | none => none
  | _ => none
theorem boolsOf_ok {p : Pt} : ∀ {ts : List T} {vs : List V} {ns : List Bool}, boolsOf ts = some ns → RTs Z p vs ts → vs = ns.map V.bl
  | [], vs, ns, e, h => by cases e; cases h; rfl
  | .v _ (.bl i) :: ts, vs, ns, e, h => by
    cases h with
    | cons h1 h2 =>
      unfold boolsOf at e
      split at e
      · rename_i is hi
        cases e
        cases h1.bl
        rw [boolsOf_ok hi h2, List.map_cons]
      · cases e
  | .v _ .non :: _, _, _, e, _ => by cases e
  | .v _ (.int _) :: _, _, _, e, _ => by cases e
  | .v _ (.str _) :: _, _, _, e, _ => by cases e
  | .v _ (.lst _) :: _, _, _, e, _ => by cases e
  | .v _ (.tup _) :: _, _, _, e, _ => by cases e
  | .v _ (.obj _ _) :: _, _, _, e, _ => by cases e
  | .v _ (.dT _ _) :: _, _, _, e, _ => by cases e
  | .v _ (.scr _) :: _, _, _, e, _ => by cases e
  | .m _ :: _, _, _, e, _ => by cases e
/-- a built-in function of one list of ints, of bools -/
def onInts (g : List Int → Option Int) (μ : Mu) : List T → Vt
  | [t] => match items μ t with
    | some (true, ts) => match intsOf ts with
      | some ns => match g ns with
        | some k => some (.v true (.int k), μ)
        | none => none
      | none => none
    | _ => none
  | _ => none
def onBools (g : List Bool → Bool) (μ : Mu) : List T → Vt
  | [t] => match items μ t with
    | some (true, ts) => match boolsOf ts with
      | some ns => some (.v true (.bl (g ns)), μ)
      | none => none
    | _ => none
  | _ => none
theorem onInts_ok (hK : X.K = Z.K) {id : String} {g : List Int → Option Int} (h0 : CallR X (.builtin id) (fun vs H Q => ∃ (a : Addr) (ns : List Int) (k : Int), vs = [.ref a] ∧ SqL X.K H a (ns.map V.int) ∧ g ns = some k ∧ Q (.int k) H)) :
    CallR X (.builtin id) (rVs Z (onInts g)) := by
  intro pins s σ H xs us Q I r h
  obtain ⟨p, μ, ts, sr, hx, h⟩ := h
  unfold onInts at h
  split at h
  · rename_i t
    obtain ⟨v, rfl, hv⟩ := hx.one
    split at h
    · rename_i ts hi
      split at h
      · rename_i ns hn
        split at h
        · rename_i k hk
          obtain ⟨a, vs, rfl, h1, h2⟩ := items_ok sr hv hi
          have e := intsOf_ok hn h2
          subst e
          exact h0 pins s σ H _ us Q I r ⟨a, ns, k, rfl, by rw [hK]; exact h1, hk, VPost.flat sr (Dx.int _) h⟩
        · exact h.elim
      · exact h.elim
    · exact h.elim
  · exact h.elim
theorem onBools_ok (hK : X.K = Z.K) {id : String} {g : List Bool → Bool} (h0 : CallR X (.builtin id) (fun vs H Q => ∃ (a : Addr) (bs : List Bool), vs = [.ref a] ∧ SqL X.K H a (bs.map V.bl) ∧ Q (.bl (g bs)) H)) :
    CallR X (.builtin id) (rVs Z (onBools g)) := by
  intro pins s σ H xs us Q I r h
  obtain ⟨p, μ, ts, sr, hx, h⟩ := h
  unfold onBools at h
  split at h
  · rename_i t
    obtain ⟨v, rfl, hv⟩ := hx.one
    split at h
    · rename_i ts hi
      split at h
      · rename_i ns hn
        obtain ⟨a, vs, rfl, h1, h2⟩ := items_ok sr hv hi
        have e := boolsOf_ok hn h2
        subst e
        exact h0 pins s σ H _ us Q I r ⟨a, ns, rfl, by rw [hK]; exact h1, VPost.flat sr (Dx.bl _) h⟩
      · exact h.elim
    · exact h.elim
  · exact h.elim
def maxI : List Int → Option Int
  | [] => none
  | [x] => some x
  | x :: y :: r => match maxI (y :: r) with
    | some m => some (if x ≤ m then m else x)
    | none => none
def minI : List Int → Option Int
  | [] => none
  | [x] => some x
  | x :: y :: r => match minI (y :: r) with
    | some m => some (if m ≤ x then m else x)
    | none => none
theorem maxI_ok : ∀ {ns : List Int} {k : Int}, maxI ns = some k → k ∈ ns ∧ ∀ y ∈ ns, y ≤ k
  | [], _, h => by cases h
  | [x], k, h => by cases h; simp
  | x :: y :: r, k, h => by
    unfold maxI at h
    split at h
    · rename_i m hm
      obtain ⟨h1, h2⟩ := maxI_ok hm
      have h := Option.some.inj h
      split at h
      · subst h
        exact ⟨List.mem_cons_of_mem _ h1, fun z hz => (List.mem_cons.mp hz).elim (fun e => by rw [e]; assumption) (h2 z)⟩
      · subst h
        refine ⟨List.mem_cons_self, fun z hz => (List.mem_cons.mp hz).elim (fun e => by rw [e]; exact Int.le_refl _) (fun e => ?_)⟩
        have := h2 z e
        omega
    · cases h
theorem minI_ok : ∀ {ns : List Int} {k : Int}, minI ns = some k → k ∈ ns ∧ ∀ y ∈ ns, k ≤ y
  | [], _, h => by cases h
  | [x], k, h => by cases h; simp
  | x :: y :: r, k, h => by
    unfold minI at h
    split at h
    · rename_i m hm
      obtain ⟨h1, h2⟩ := minI_ok hm
      have h := Option.some.inj h
      split at h
      · subst h
        exact ⟨List.mem_cons_of_mem _ h1, fun z hz => (List.mem_cons.mp hz).elim (fun e => by rw [e]; assumption) (h2 z)⟩
      · subst h
        refine ⟨List.mem_cons_self, fun z hz => (List.mem_cons.mp hz).elim (fun e => by rw [e]; exact Int.le_refl _) (fun e => ?_)⟩
        have := h2 z e
        omega
    · cases h
theorem call_sumV (hK : X.K = Z.K) (hc : X.calm = true) : CallR X (.builtin "sum") (rVs Z (onInts fun ns => some ns.sum)) :=
  onInts_ok hK fun pins s σ H xs us Q I r ⟨a, ns, k, e, h1, h2, q⟩ => cr_sum hc pins s σ H xs us Q I r ⟨a, ns, e, h1, by rw [Option.some.inj h2]; exact q⟩
theorem call_maxV (hK : X.K = Z.K) (hc : X.calm = true) : CallR X (.builtin "max") (rVs Z (onInts maxI)) :=
  onInts_ok hK fun pins s σ H xs us Q I r ⟨a, ns, k, e, h1, h2, q⟩ => cr_max hc pins s σ H xs us Q I r ⟨a, ns, e, h1, List.length_pos_of_mem (maxI_ok h2).1, fun m hm hle => by
    obtain ⟨k1, k2⟩ := maxI_ok h2
    have : m = k := by have := k2 m hm; have := hle k k1; omega
    subst this; exact q⟩
theorem call_minV (hK : X.K = Z.K) (hc : X.calm = true) : CallR X (.builtin "min") (rVs Z (onInts minI)) :=
  onInts_ok hK fun pins s σ H xs us Q I r ⟨a, ns, k, e, h1, h2, q⟩ => cr_min hc pins s σ H xs us Q I r ⟨a, ns, e, h1, List.length_pos_of_mem (minI_ok h2).1, fun m hm hle => by
    obtain ⟨k1, k2⟩ := minI_ok h2
    have : m = k := by have := k2 m hm; have := hle k k1; omega
    subst this; exact q⟩
theorem call_anyV (hK : X.K = Z.K) (hc : X.calm = true) : CallR X (.builtin "any") (rVs Z (onBools fun bs => bs.any id)) :=
  onBools_ok hK fun pins s σ H xs us Q I r ⟨a, bs, e, h1, q⟩ => cr_any hc pins s σ H xs us Q I r ⟨a, bs, e, h1, q⟩
theorem call_allV (hK : X.K = Z.K) (hc : X.calm = true) : CallR X (.builtin "all") (rVs Z (onBools fun bs => bs.all id)) :=
  onBools_ok hK fun pins s σ H xs us Q I r ⟨a, bs, e, h1, q⟩ => cr_all hc pins s σ H xs us Q I r ⟨a, bs, e, h1, q⟩
/-- max, min of two; abs; int -/
def max2V (μ : Mu) : List T → Vt
  | [.v _ (.int i), .v _ (.int j)] => some (.v true (.int (if j > i then j else i)), μ)
  | _ => none
def min2V (μ : Mu) : List T → Vt
  | [.v _ (.int i), .v _ (.int j)] => some (.v true (.int (if j < i then j else i)), μ)
  | _ => none
def absV (μ : Mu) : List T → Vt
  | [.v _ (.int i)] => some (.v true (.int (if i < 0 then -i else i)), μ)
  | _ => none
def intV (μ : Mu) : List T → Vt
  | [.v _ (.int i)] => some (.v true (.int i), μ)
  | [.v _ (.bl k)] => some (.v true (.int (if k then 1 else 0)), μ)
  | _ => none
theorem call_max2V (hc : X.calm = true) : CallR X (.builtin "max") (rVs Z max2V) := by
  intro pins s σ H xs us Q I r h
  obtain ⟨p, μ, ts, sr, hx, h⟩ := h
  unfold max2V at h
  split at h
  · obtain ⟨v, w, rfl, h1, h2⟩ := hx.two
    cases h1.int
    cases h2.int
    exact call_max2 hc pins s σ H _ us Q I r ⟨_, _, rfl, VPost.flat sr (Dx.int _) h⟩
  · exact h.elim
theorem call_min2V (hc : X.calm = true) : CallR X (.builtin "min") (rVs Z min2V) := by
  intro pins s σ H xs us Q I r h
  obtain ⟨p, μ, ts, sr, hx, h⟩ := h
  unfold min2V at h
  split at h
  · obtain ⟨v, w, rfl, h1, h2⟩ := hx.two
    cases h1.int
    cases h2.int
    exact call_min2 hc pins s σ H _ us Q I r ⟨_, _, rfl, VPost.flat sr (Dx.int _) h⟩
  · exact h.elim
theorem call_absV : CallR X (.builtin "abs") (rVs Z absV) := by
  intro pins s σ H xs us Q I r h
  obtain ⟨p, μ, ts, sr, hx, h⟩ := h
  unfold absV at h
  split at h
  · obtain ⟨v, rfl, h1⟩ := hx.one
    cases h1.int
    exact call_abs pins s σ H _ us Q I r ⟨_, rfl, VPost.flat sr (Dx.int _) h⟩
  · exact h.elim
theorem call_intV : CallR X (.type "int") (rVs Z intV) := by
  intro pins s σ H xs us Q I r h
  obtain ⟨p, μ, ts, sr, hx, h⟩ := h
  unfold intV at h
  split at h
  · obtain ⟨v, rfl, h1⟩ := hx.one
    cases h1.int
    exact call_int1 pins s σ H _ us Q I r (.inl ⟨_, rfl, VPost.flat sr (Dx.int _) h⟩)
  · obtain ⟨v, rfl, h1⟩ := hx.one
    cases h1.bl
    exact call_int1 pins s σ H _ us Q I r (.inr ⟨_, rfl, VPost.flat sr (Dx.int _) h⟩)
  · exact h.elim
end
end L3

set_option Elab.async false
set_option linter.all false
set_option maxRecDepth 100000
set_option maxHeartbeats 4000000
/-! L3, twelfth part: methods of lists, repr, sorted. -/
namespace L3
open PySem PySem.Spec PyProof.Rows L2

section
variable {X : Cx} {Z : Ent} {W : Wish} {a b c e : Expr} {es : List Expr} {ga gb gc : De} {ta tb : Db} {da : Da} {pos cpos apos : Pos}

/-! methods, by values: the list that the receiver is -/
abbrev Mv := Mu → T → List T → Vt
def dMt (g : Mv) (go : De) (da : Da) : De := fun Γ μ => Ot.bind (go Γ μ) fun t μ1 => if (items μ1 t).any (·.1) then Ot.bind (da Γ μ1) fun ts μ2 => (g μ2 t ts).ot else none
def rMt (Z : Ent) (g : Mv) : V → List V → Hp → VK → Prop := fun x xs H Q => ∃ (p : Pt) (μ : Mu) (t : T) (ts : List T), SR Z p H μ ∧ RT Z p x t ∧ RTs Z p xs ts ∧ VPost Z Q p (g μ t ts)
theorem tyV_list (hK : X.K = Z.K) {p : Pt} {H : Hp} {μ : Mu} {t : T} {v : V} (s : SR Z p H μ) (r : RT Z p v t) (h : (items μ t).any (·.1) = true) : tyV X.K "list" v H := by
  cases e : items μ t with
  | none => rw [e] at h; cases h
  | some bt =>
    obtain ⟨b, ts⟩ := bt
    rw [e] at h
    have hb : b = true := h
    subst hb
    obtain ⟨a, vs, rfl, h1, _⟩ := items_ok s r e
    exact .inl ⟨rfl, vs, by rw [hK]; exact h1⟩
theorem xe_mt {name : Str} {id : String} {g : Mv} (hK : X.K = Z.K) (slot : Slot "list" name id) (hty : typeOf (.builtin id) = pure (.type "method_descriptor")) (hm : MtR X id (rMt Z g)) (ho : PE X a (tD Z W ga)) (ha : PA X (e :: es) (tDA Z W da))
    (hbase : attributeBase a name X.env (eval a X.env) = eval a X.env) (hline : (apos.endLine == cpos.line) = true) (hs : starEach (e :: es) X.env = (false, eval e X.env) :: starEach es X.env)
    (hfew : ((backTo cpos (starEach (e :: es) X.env)).all (fun x => !x.1) && (backToKw cpos (keywordEach [] X.env)).all (fun x => x.1.isSome)
      && decide ((e :: es).length + ([] : List Keyword).length + (if ([] : List Keyword).isEmpty then 0 else 1) < 30)) = true)
    (hplain : (backTo cpos (starEach es X.env)).any (·.1) = false) : PE X (.Call (.Attribute a name apos) (e :: es) [] cpos) (tD Z W (dMt g ga da)) :=
  pe_imp (pe_bm PySem.F.plainAttrs_list slot hty hm ho ha hbase hfew hline hs hplain) fun σ H Q ⟨p, μ, Γ, s, er, h⟩ => by
    obtain ⟨p', μ', Γ', s', e', h'⟩ := tD_bind s er h
    refine ⟨p', μ', Γ', s', e', ?_⟩
    match hg : ga Γ' μ', h' with
    | some (.ok t μ1), h' =>
      intro v H' q hl hs hr
      obtain ⟨q1, μ2, t2, l1, s1, e1, r1, k1⟩ := h' v H' q hl hs hr
      split at k1
      · rename_i hlst
        refine ⟨tyV_list hK s1 r1 hlst, ?_⟩
        obtain ⟨p3, μ3, Γ3, s3, e3, h3⟩ := tDA_bind s1 e1 k1
        refine ⟨p3, μ3, Γ3, s3, e3, ?_⟩
        match hg3 : da Γ3 μ3, h3 with
        | some (.ok t4 μ4), h3 =>
          intro v4 H4 q4 hl4 hs4 hr4
          obtain ⟨q5, μ5, t5, l5, s5, e5, r5, k5⟩ := h3 v4 H4 q4 hl4 hs4 hr4
          exact ⟨q5, μ5, t2, t5, s5, r1.mono l5, r5, VPost.post k5⟩
        | some (.exc c4 t4 μ4), h3 => exact h3
      · exact k1.elim
    | some (.exc c t μ1), h' => exact h'
theorem xe_mt0 {name : Str} {id : String} {g : Mv} (hK : X.K = Z.K) (slot : Slot "list" name id) (hty : typeOf (.builtin id) = pure (.type "method_descriptor")) (hm : MtR X id (rMt Z g)) (ho : PE X a (tD Z W ga))
    (hbase : attributeBase a name X.env (eval a X.env) = eval a X.env) (hline : (apos.endLine == cpos.line) = true) : PE X (.Call (.Attribute a name apos) [] [] cpos) (tD Z W (dMt g ga aNil)) :=
  pe_imp (pe_bm0 PySem.F.plainAttrs_list slot hty hm ho hbase hline) fun σ H Q ⟨p, μ, Γ, s, er, h⟩ => by
    obtain ⟨p', μ', Γ', s', e', h'⟩ := tD_bind s er h
    refine ⟨p', μ', Γ', s', e', ?_⟩
    match hg : ga Γ' μ', h' with
    | some (.ok t μ1), h' =>
      intro v H' q hl hs hr
      obtain ⟨q1, μ2, t2, l1, s1, e1, r1, k1⟩ := h' v H' q hl hs hr
      split at k1
      · rename_i hlst
        have k1 : Post Z W σ Q q1 (g μ2 t2 []).ot := k1
        exact ⟨tyV_list hK s1 r1 hlst, q1, μ2, t2, [], s1, r1, .nil, VPost.post k1⟩
      · exact k1.elim
    | some (.exc c t μ1), h' => exact h'

/-- a living list and what it holds -/
def cellOf (μ : Mu) : T → Option (Nat × List T)
  | .m j => match μ[j]? with
    | some (.lst ts) => some (j, ts)
    | _ => none
  | _ => none
theorem cellOf_ok {p : Pt} {H : Hp} {μ : Mu} {t : T} {v : V} {j : Nat} {ts : List T} (s : SR Z p H μ) (r : RT Z p v t) (h : cellOf μ t = some (j, ts)) :
    ∃ a vs, v = .ref a ∧ p.ms[j]? = some a ∧ μ[j]? = some (.lst ts) ∧ H a = some (.lst vs) ∧ RTs Z p vs ts := by
  match t, r, h with
  | .m i, ⟨a, h1, h2⟩, h =>
    simp only [cellOf] at h
    cases hc : μ[i]? with
    | none => rw [hc] at h; cases h
    | some c =>
      rw [hc] at h
      cases c with
      | lst ts' =>
        cases h
        obtain ⟨vs, h3, h4⟩ := s.cell _ a _ h1 hc
        exact ⟨a, vs, h2, h1, hc, h3, h4⟩
      | obj _ _ => cases h
      | dT _ _ => cases h
      | dK _ _ => cases h
      | frz _ _ => cases h
      | hid => cases h
      | tup _ => cases h
  | .v _ _, _, h => cases h
/-- the list is written -/
theorem put_lst {p : Pt} {H : Hp} {μ : Mu} {j : Nat} {a : Addr} {ts us : List T} {ws : List V} {Q : VK} {v : V} {t : T} (s : SR Z p H μ) (h1 : p.ms[j]? = some a) (h2 : μ[j]? = some (.lst ts)) (r : RTs Z p ws us) (rv : RT Z p v t)
    (h : VPost Z Q p (some (t, μ.set j (.lst us)))) : Q v (upd H a (.lst ws)) :=
  h v _ p (Pt.Le.refl p) (s.write h1 h2 rfl rfl ⟨ws, upd_same, r⟩) rv
def appV : Mv := fun μ t ts => match cellOf μ t, ts with
  | some (j, us), [x] => if us.length < sizeLine then some (.v true .non, μ.set j (.lst (us ++ [x]))) else none
  | _, _ => none
theorem mt_app : MtR X "list.append" (rMt Z appV) := by
  intro pins s σ H x xs v us Q I rx rxs h
  obtain ⟨p, μ, t, ts, sr, hx, hxs, h⟩ := h
  unfold appV at h
  split at h
  · rename_i j us x hc
    obtain ⟨a, vs, rfl, h1, h2, h3, h4⟩ := cellOf_ok sr hx hc
    obtain ⟨w, rfl, hw⟩ := hxs.one
    split at h
    · rename_i hz
      exact mt_append pins s σ H _ _ v _ Q I rx rxs ⟨a, vs, w, rfl, rfl, h3, by rw [h4.length]; exact hz, put_lst sr h1 h2 (h4.append (.cons hw .nil)) (show RT Z p V.non (.v true .non) from Dx.non) h⟩
    · exact h.elim
  · exact h.elim
def extV : Mv := fun μ t ts => match cellOf μ t, ts with
  | some (j, us), [x] => match itemsP μ x with
    | some (true, ws) => if us.length + ws.length ≤ sizeLine then some (.v true .non, μ.set j (.lst (us ++ ws))) else none
    | _ => none
  | _, _ => none
theorem mt_ext : MtR X "list.extend" (rMt Z extV) := by
  intro pins s σ H x xs v us Q I rx rxs h
  obtain ⟨p, μ, t, ts, sr, hx, hxs, h⟩ := h
  unfold extV at h
  split at h
  · rename_i j us x hc
    obtain ⟨a, vs, rfl, h1, h2, h3, h4⟩ := cellOf_ok sr hx hc
    obtain ⟨w, rfl, hw⟩ := hxs.one
    split at h
    · rename_i ws hi
      split at h
      · rename_i hz
        obtain ⟨b, zs, rfl, k1, k2⟩ := itemsP_ok sr hw hi
        exact mt_extend pins s σ H _ _ v _ Q I rx rxs ⟨a, b, vs, zs, rfl, rfl, h3, k1, by rw [h4.length, k2.length]; exact hz, put_lst sr h1 h2 (h4.append k2) (show RT Z p V.non (.v true .non) from Dx.non) h⟩
      · exact h.elim
    · exact h.elim
  · exact h.elim
theorem RTs.eraseIdx {p : Pt} : ∀ {vs : List V} {ts : List T} (i : Nat), RTs Z p vs ts → RTs Z p (vs.eraseIdx i) (ts.eraseIdx i)
  | _, _, _, .nil => .nil
  | _, _, 0, .cons _ g => g
  | _, _, i + 1, .cons h g => .cons h (RTs.eraseIdx i g)
def popV : Mv := fun μ t ts => match cellOf μ t, ts with
  | some (j, us), [.v _ (.int i)] => if 0 ≤ i ∧ i < 2 ^ 63 then match us[i.toNat]? with
    | some x => some (x, μ.set j (.lst (us.eraseIdx i.toNat)))
    | none => none
    else none
  | _, _ => none
theorem mt_popV : MtR X "list.pop" (rMt Z popV) := by
  intro pins s σ H x xs v us Q I rx rxs h
  obtain ⟨p, μ, t, ts, sr, hx, hxs, h⟩ := h
  unfold popV at h
  split at h
  · rename_i j us _ i hc
    obtain ⟨a, vs, rfl, h1, h2, h3, h4⟩ := cellOf_ok sr hx hc
    obtain ⟨w, rfl, hw⟩ := hxs.one
    cases hw.int
    split at h
    · rename_i hi
      split at h
      · rename_i y hy
        obtain ⟨z, k1, k2⟩ := h4.get hy
        refine mt_popAt pins s σ H _ _ v _ Q I rx rxs ⟨a, vs, i, i.toNat, z, rfl, rfl, h3, by omega, hi.2, ?_, k1, put_lst sr h1 h2 (h4.eraseIdx _) k2 h⟩
        have hl := (List.getElem?_eq_some_iff.mp k1).1
        exact seqIndex_of hi.1 (by omega)
      · exact h.elim
    · exact h.elim
  · exact h.elim
def clrV : Mv := fun μ t ts => match cellOf μ t, ts with
  | some (j, us), [] => some (.v true .non, μ.set j (.lst []))
  | _, _ => none
theorem mt_clr : MtR X "list.clear" (rMt Z clrV) := by
  intro pins s σ H x xs v us Q I rx rxs h
  obtain ⟨p, μ, t, ts, sr, hx, hxs, h⟩ := h
  unfold clrV at h
  split at h
  · rename_i j us hc
    obtain ⟨a, vs, rfl, h1, h2, h3, h4⟩ := cellOf_ok sr hx hc
    cases hxs
    exact mt_clear pins s σ H _ _ v _ Q I rx rxs ⟨a, vs, rfl, rfl, h3, put_lst sr h1 h2 .nil (show RT Z p V.non (.v true .non) from Dx.non) h⟩
  · exact h.elim
def rvsV : Mv := fun μ t ts => match cellOf μ t, ts with
  | some (j, us), [] => some (.v true .non, μ.set j (.lst us.reverse))
  | _, _ => none
theorem mt_rvs : MtR X "list.reverse" (rMt Z rvsV) := by
  intro pins s σ H x xs v us Q I rx rxs h
  obtain ⟨p, μ, t, ts, sr, hx, hxs, h⟩ := h
  unfold rvsV at h
  split at h
  · rename_i j us hc
    obtain ⟨a, vs, rfl, h1, h2, h3, h4⟩ := cellOf_ok sr hx hc
    cases hxs
    exact mt_reverse pins s σ H _ _ v _ Q I rx rxs ⟨a, vs, rfl, rfl, h3, put_lst sr h1 h2 h4.reverse (show RT Z p V.non (.v true .non) from Dx.non) h⟩
  · exact h.elim
/-- the first place of an equal one -/
def firstEq (d : PyData) : List PyData → Option Nat
  | [] => none
  | z :: zs => if PyData.eqv z d then some 0 else (firstEq d zs).map (· + 1)
theorem firstEq_ok {d : PyData} : ∀ {zs : List PyData} {j : Nat}, firstEq d zs = some j → ∃ z, zs[j]? = some z ∧ PyData.eqv z d = true ∧ ∀ (m : Nat) (z' : PyData), m < j → zs[m]? = some z' → PyData.eqv z' d = false
  | [], _, h => by cases h
  | z :: zs, j, h => by
    unfold firstEq at h
    split at h
    · rename_i hz
      cases h
      exact ⟨z, rfl, hz, fun m _ hm => absurd hm (Nat.not_lt_zero _)⟩
    · rename_i hz
      cases hj : firstEq d zs with
      | none => rw [hj] at h; cases h
      | some i =>
        rw [hj] at h
        cases h
        obtain ⟨z', h1, h2, h3⟩ := firstEq_ok hj
        refine ⟨z', h1, h2, fun m y hm hy => ?_⟩
        cases m with
        | zero =>
          simp at hy
          subst hy
          exact Bool.not_eq_true _ ▸ hz
        | succ m => exact h3 m y (Nat.lt_of_succ_lt_succ hm) (by simpa using hy)
def idxV : Mv := fun μ t ts => match ts with
  | [x] => match deep DEEP μ t, deep DEEP μ x with
    | some (.lst ys), some d => match D.pys ys, d.py with
      | some es, some e => if SeqAt.shaped (.list es) && SeqAt.shaped e then match firstEq e es with
        | some j => some (.v true (.int (j : Nat)), μ)
        | none => none
        else none
      | _, _ => none
    | _, _ => none
  | _ => none
theorem Dx.ref_of {K : PySem.W.Frag} {TB : Tab} {H : Hp} {v : V} {ds : List D} (h : Dx K TB H v (.lst ds)) : ∃ a, v = .ref a := by cases h; exact ⟨_, rfl⟩
theorem mt_idx (hK : X.K = Z.K) (hu : X.A.units + 65 < cLine) : MtR X "list.index" (rMt Z idxV) := by
  intro pins s σ H x xs v us Q I rx rxs h
  obtain ⟨p, μ, t, ts, sr, hx, hxs, h⟩ := h
  unfold idxV at h
  split at h
  · rename_i y
    obtain ⟨w, rfl, hw⟩ := hxs.one
    split at h
    · rename_i ys d h1 h2
      split at h
      · rename_i es e p1 p2
        split at h
        · rename_i hsh
          rw [Bool.and_eq_true_iff] at hsh
          split at h
          · rename_i j hj
            obtain ⟨z, k1, k2, k3⟩ := firstEq_ok hj
            have q1 := deep_ok sr hx h1
            obtain ⟨a, rfl⟩ := q1.ref_of
            have p1' : D.py (.lst ys) = some (.list es) := by unfold D.py; rw [p1]
            have q1 := Dx.py _ q1 p1'
            have q2 := Dx.py d (deep_ok sr hw h2) p2
            rw [← hK] at q1 q2
            exact mt_indexD hu pins s σ H _ _ v _ Q I rx rxs ⟨a, w, e, es, j, z, rfl, rfl, q1, q2, hsh.1, hsh.2, k1, k2, k3, VPost.flat sr (Dx.int _) h⟩
          · exact h.elim
        · exact h.elim
      · exact h.elim
    · exact h.elim
  · exact h.elim

/-! repr -/
mutual
theorem D.py_nodict : ∀ (d : D) {e : PyData}, d.py = some e → e.hasDict = false
  | .non, _, h => by simp only [D.py] at h; cases h; simp only [PyData.hasDict]
  | .bl _, _, h => by simp only [D.py] at h; cases h; simp only [PyData.hasDict]
  | .int _, _, h => by simp only [D.py] at h; cases h; simp only [PyData.hasDict]
  | .str _, _, h => by simp only [D.py] at h; cases h; simp only [PyData.hasDict]
  | .lst xs, _, h => by
    unfold D.py at h
    split at h
    · rename_i ds hd
      cases h
      simp only [PyData.hasDict]
      exact D.pys_nodict xs hd
    · cases h
  | .tup xs, _, h => by
    unfold D.py at h
    split at h
    · rename_i ds hd
      cases h
      simp only [PyData.hasDict]
      exact D.pys_nodict xs hd
    · cases h
  | .obj _ _, _, h => by unfold D.py at h; cases h
  | .dT _ _, _, h => by unfold D.py at h; cases h
  | .scr ns, _, h => by
    unfold D.py at h; cases h
    simp only [PyData.hasDict]
    exact ints_nodict ns
theorem D.pys_nodict : ∀ (ds : List D) {es : List PyData}, D.pys ds = some es → PyData.hasDictAll es = false
  | [], _, h => by simp only [D.pys] at h; cases h; simp only [PyData.hasDictAll]
  | d :: ds, _, h => by
    unfold D.pys at h
    split at h
    · rename_i e es h1 h2
      cases h
      simp only [PyData.hasDictAll, D.py_nodict d h1, D.pys_nodict ds h2, Bool.or_self]
    · cases h
theorem ints_nodict : ∀ ns : List Int, PyData.hasDictAll (ns.map PyData.int) = false
  | [] => by simp only [List.map_nil, PyData.hasDictAll]
  | _ :: ns => by simp only [List.map_cons, PyData.hasDictAll, PyData.hasDict, ints_nodict ns, Bool.or_self]
end
/-- the text, and what repr asks -/
def reprS : PyData → Option Str
  | .none => some "None"
  | .bool k => some (if k then "True" else "False")
  | .list zs => if PyData.showable (.list zs) = true ∧ PyData.depth (.list zs) ≤ 64 ∧ (PyData.shown (.list zs)).length ≤ sizeLine then some (PyData.shown (.list zs)) else none
  | .tuple zs => if PyData.showable (.tuple zs) = true ∧ PyData.depth (.tuple zs) ≤ 64 ∧ (PyData.shown (.tuple zs)).length ≤ sizeLine then some (PyData.shown (.tuple zs)) else none
  | _ => none
def reprV (μ : Mu) : List T → Vt
  | [t] => match deep DEEP μ t with
    | some d => match d.py with
      | some e => match reprS e with
        | some z => some (.v true (.str z), μ)
        | none => none
      | none => none
    | none => none
  | _ => none
theorem call_reprV (hK : X.K = Z.K) (hg : X.A.guards = some []) (hu : X.A.units + 65 < cLine) : CallR X (.builtin "repr") (rVs Z reprV) := by
  intro pins s σ H xs us Q I r h
  obtain ⟨p, μ, ts, sr, hx, h⟩ := h
  unfold reprV at h
  split at h
  · rename_i t
    obtain ⟨v, rfl, hv⟩ := hx.one
    obtain ⟨u, rfl, ru⟩ := vals1 r
    split at h
    · rename_i d hd
      split at h
      · rename_i e he
        split at h
        · rename_i z hz
          have q : Q (.str z) H := VPost.flat sr (Dx.str _) h
          have q1 := Dx.py d (deep_ok sr hv hd) he
          rw [← hK] at q1
          obtain ⟨as, rd⟩ := Dp.reads I e v u q1 ru
          have nd := D.py_nodict d he
          cases q1 with
          | non =>
            cases ru
            cases hz
            exact PySem.P.repr_of_none ⟨.str "None", H, I.kept (fun _ _ z => z), ⟨_, rfl⟩, q⟩
          | bl b => 
            cases ru
            cases hz
            exact PySem.P.repr_of_bool ⟨.str (if b then "True" else "False"), H, I.kept (fun _ _ z => z), ⟨_, rfl⟩, q⟩
          | int i => cases hz
          | str z => cases hz
          | lst hs ha =>
            cases ru
            simp only [reprS] at hz
            split at hz
            · rename_i ok
              cases hz
              obtain ⟨o1, o2, o3⟩ := ok
              refine repr_of_reads' rd o1 (fun z => by rw [nd] at z; cases z) hg (by omega) (fun _ _ z => z) (fun h' u' tk k => ?_) o3
              exact ⟨.str _, H, I.kept (t' := tk) k, ⟨_, rfl⟩, q⟩
            · cases hz
          | tup hs ha =>
            cases ru
            simp only [reprS] at hz
            split at hz
            · rename_i ok
              cases hz
              obtain ⟨o1, o2, o3⟩ := ok
              refine repr_of_reads' rd o1 (fun z => by rw [nd] at z; cases z) hg (by omega) (fun _ _ z => z) (fun h' u' tk k => ?_) o3
              exact ⟨.str _, H, I.kept (t' := tk) k, ⟨_, rfl⟩, q⟩
            · cases hz
        · exact h.elim
      · exact h.elim
    · exact h.elim
  · exact h.elim
end
end L3

set_option Elab.async false
set_option linter.all false
set_option maxRecDepth 100000
set_option maxHeartbeats 4000000
/-! L3, thirteenth part: what is walked, where it goes, comprehensions. -/
namespace L3
open PySem PySem.Spec PyProof.Rows L2

/-- what is walked; n: how often -/
inductive ItV where
  | seq (b : Bool) (t : T) (n : Nat)
  | rng (lo : Int) (n : Nat)
  | rngR (lo : Int) (n : Nat)
  | rev (b : Bool) (t : T) (n : Nat)
  | enum (t : T) (n : Nat)
  | zip (b : Bool) (t u : T) (n m : Nat)
  | txt (z : Str)
  | zipM (t u : T) (n m : Nat)
/-- what comes: a value, a new pair -/
inductive Yl where
  | one (t : T)
  | two (t u : T)
def itemsN (b : Bool) (n : Nat) (μ : Mu) (t : T) : Option (List T) := match items μ t with
  | some (b', ts) => if b' = b ∧ ts.length = n then some ts else none
  | none => none
theorem itemsN_ok {Z : Ent} {p : Pt} {H : Hp} {μ : Mu} {b : Bool} {n : Nat} {t : T} {ts : List T} {v : V} (s : SR Z p H μ) (r : RT Z p v t) (h : itemsN b n μ t = some ts) :
    ∃ a vs, v = .ref a ∧ (if b then SqL Z.K H a vs else SqT Z.K H a vs) ∧ RTs Z p vs ts ∧ ts.length = n := by
  unfold itemsN at h
  split at h
  · rename_i b' ts' e
    split at h
    · rename_i hc
      obtain ⟨rfl, hl⟩ := hc
      cases h
      obtain ⟨a, vs, h1, h2, h3⟩ := items_ok s r e
      exact ⟨a, vs, h1, h2, h3, hl⟩
    · cases h
  · cases h
def ItV.len : ItV → Nat
  | .seq _ _ n => n
  | .rng _ n => n
  | .rngR _ n => n
  | .rev _ _ n => n
  | .enum _ n => n
  | .zip _ _ _ n m => min n m
  | .txt z => z.cps.size
  | .zipM _ _ n m => min n m
def ItV.ok (μ : Mu) : ItV → Bool
  | .seq b t n => (itemsN b n μ t).isSome
  | .rng _ _ => true
  | .rngR _ _ => true
  | .rev b t n => (itemsN b n μ t).isSome
  | .enum t n => (itemsN true n μ t).isSome
  | .zip b t u n m => (itemsN b n μ t).isSome && (itemsN b m μ u).isSome
  | .txt _ => true
  | .zipM t u n m => (itemsN false n μ t).isSome && (itemsN true m μ u).isSome
def ItV.at (μ : Mu) (i : Nat) : ItV → Option Yl
  | .seq b t n => match itemsN b n μ t with
    | some ts => ts[i]?.map .one
    | none => none
  | .rng lo _ => some (.one (.v true (.int (lo + i))))
  | .rngR lo n => some (.one (.v true (.int (lo + (n : Nat) - 1 + (i : Nat) * (-1)))))
  | .rev b t n => match itemsN b n μ t with
    | some ts => ts[n - 1 - i]?.map .one
    | none => none
  | .enum t n => match itemsN true n μ t with
    | some ts => ts[i]?.map (.two (.v true (.int (i : Nat))))
    | none => none
  | .zip b t u n m => match itemsN b n μ t, itemsN b m μ u with
    | some ts, some us => match ts[i]?, us[i]? with
      | some x, some y => some (.two x y)
      | _, _ => none
    | _, _ => none
  | .txt z => match z.cps[i]? with
    | some c => some (.one (.v true (.str ⟨#[c]⟩)))
    | none => none
  | .zipM t u n m => match itemsN false n μ t, itemsN true m μ u with
    | some ts, some us => match ts[i]?, us[i]? with
      | some x, some y => some (.two x y)
      | _, _ => none
    | _, _ => none
def RY (Z : Ent) (p : Pt) (v : V) : Yl → Prop
  | .one t => RT Z p v t
  | .two t u => ∃ a x y, v = .ref a ∧ p.N a = some (.tup [x, y]) ∧ RT Z p x t ∧ RT Z p y u
structure ItOk (Z : Ent) (p : Pt) (J : It) (v : ItV) : Prop where
  go : ∀ (q : Pt) (H : Hp) (μ : Mu) (i : Nat), p.Le q → SR Z q H μ → v.ok μ = true → i < v.len → J.go i H
  stop : ∀ (q : Pt) (H : Hp) (μ : Mu), p.Le q → SR Z q H μ → v.ok μ = true → J.stop v.len H
  yld : ∀ (q : Pt) (H : Hp) (μ : Mu) (i : Nat) (x : V) (H' : Hp) (y : Yl), p.Le q → SR Z q H μ → v.at μ i = some y → J.yld i H x H' → ∃ r, q.Le r ∧ SR Z r H' μ ∧ RY Z r x y
section
variable {Z : Ent} {p : Pt}
theorem isSome_get {α : Type} {o : Option α} (h : o.isSome = true) : ∃ x, o = some x := by
  cases o with
  | none => cases h
  | some x => exact ⟨x, rfl⟩
theorem ref_eq {a b : Addr} {vs : List V} {v : V} (h : v = V.ref a) (g : v = V.ref b) : a = b := by
  rw [h] at g; cases g; rfl
theorem itOk_seq {K : PySem.W.Frag} (hK : K = Z.K) {b : Bool} {t : T} {n : Nat} {a : Addr} (r : RT Z p (.ref a) t) : ItOk Z p (if b then Itl K a else Itt K a) (.seq b t n) := by
  subst hK
  refine ⟨fun q H μ i l s h hi => ?_, fun q H μ l s h => ?_, fun q H μ i x H' y l s h j => ?_⟩
  · obtain ⟨ts, h⟩ := isSome_get h
    obtain ⟨a', vs, e, h1, h2, h3⟩ := itemsN_ok s (r.mono l) h
    cases e
    have hi : i < vs.length := by rw [h2.length, h3]; exact hi
    cases b
    · exact ⟨vs, vs[i], h1, by simp [hi]⟩
    · exact ⟨vs, vs[i], h1, by simp [hi]⟩
  · obtain ⟨ts, h⟩ := isSome_get h
    obtain ⟨a', vs, e, h1, h2, h3⟩ := itemsN_ok s (r.mono l) h
    cases e
    cases b
    · exact ⟨vs, h1, by rw [h2.length, h3]; exact Nat.le_refl _⟩
    · exact ⟨vs, h1, by rw [h2.length, h3]; exact Nat.le_refl _⟩
  · simp only [ItV.at] at h
    split at h
    · rename_i ts h0
      obtain ⟨a', vs, e, h1, h2, h3⟩ := itemsN_ok s (r.mono l) h0
      cases e
      cases ht : ts[i]? with
      | none => rw [ht] at h; cases h
      | some t1 =>
        rw [ht] at h
        cases h
        obtain ⟨w, k1, k2⟩ := h2.get ht
        cases b
        · obtain ⟨rfl, k⟩ := j
          have e := (k vs h1).symm.trans k1
          cases e
          exact ⟨q, .refl q, s, k2⟩
        · obtain ⟨rfl, k⟩ := j
          have e := (k vs h1).symm.trans k1
          cases e
          exact ⟨q, .refl q, s, k2⟩
    · cases h
theorem itOk_rng {lo : Int} {n : Nat} : ItOk Z p (Itr lo n) (.rng lo n) := by
  refine ⟨fun q H μ i l s h hi => hi, fun q H μ l s h => Nat.le_refl _, fun q H μ i x H' y l s h j => ?_⟩
  obtain ⟨rfl, rfl⟩ := j
  cases h
  exact ⟨q, .refl q, s, (Dx.int _ : Dx Z.K Z.TB q.N _ _)⟩
theorem itOk_rngR {lo : Int} {n : Nat} : ItOk Z p (Itc (lo + (n : Nat) - 1) (-1) n) (.rngR lo n) := by
  refine ⟨fun q H μ i l s h hi => hi, fun q H μ l s h => Nat.le_refl _, fun q H μ i x H' y l s h j => ?_⟩
  obtain ⟨rfl, rfl⟩ := j
  cases h
  exact ⟨q, .refl q, s, (Dx.int _ : Dx Z.K Z.TB q.N _ _)⟩
theorem itOk_txt {z : Str} : ItOk Z p (Its z) (.txt z) := by
  refine ⟨fun q H μ i l s h hi => hi, fun q H μ l s h => Nat.le_refl _, fun q H μ i x H' y l s h j => ?_⟩
  obtain ⟨rfl, c, hc, rfl⟩ := j
  simp only [ItV.at, hc] at h
  cases h
  exact ⟨q, .refl q, s, (Dx.str _ : Dx Z.K Z.TB q.N _ _)⟩
theorem itOk_rev {K : PySem.W.Frag} (hK : K = Z.K) {b : Bool} {t : T} {n : Nat} {a : Addr} (r : RT Z p (.ref a) t) : ItOk Z p (if b then Itv K a n else _root_.RT.ItvT K a n) (.rev b t n) := by
  subst hK
  refine ⟨fun q H μ i l s h hi => ?_, fun q H μ l s h => ?_, fun q H μ i x H' y l s h j => ?_⟩
  · obtain ⟨ts, h⟩ := isSome_get h
    obtain ⟨a', vs, e, h1, h2, h3⟩ := itemsN_ok s (r.mono l) h
    cases e
    have hi : i < n := hi
    have hi' : n - 1 - i < vs.length := by rw [h2.length, h3]; omega
    cases b
    · exact ⟨hi, vs, vs[n - 1 - i], h1, by simp [hi']⟩
    · exact ⟨hi, vs, vs[n - 1 - i], h1, by simp [hi']⟩
  · cases b
    · exact Nat.le_refl n
    · exact Nat.le_refl n
  · simp only [ItV.at] at h
    split at h
    · rename_i ts h0
      obtain ⟨a', vs, e, h1, h2, h3⟩ := itemsN_ok s (r.mono l) h0
      cases e
      cases ht : ts[n - 1 - i]? with
      | none => rw [ht] at h; cases h
      | some t1 =>
        rw [ht] at h
        cases h
        obtain ⟨w, k1, k2⟩ := h2.get ht
        cases b
        · obtain ⟨rfl, k⟩ := j
          have e := (k vs h1).symm.trans k1
          cases e
          exact ⟨q, .refl q, s, k2⟩
        · obtain ⟨rfl, k⟩ := j
          have e := (k vs h1).symm.trans k1
          cases e
          exact ⟨q, .refl q, s, k2⟩
    · cases h
/-- a new pair -/
theorem yl_two {q : Pt} {H : Hp} {μ : Mu} {A : Addr} {x y : V} {t u : T} (s : SR Z q H μ) (n : H A = none) (rx : RT Z q x t) (ry : RT Z q y u) : ∃ r, q.Le r ∧ SR Z r (upd H A (.tup [x, y])) μ ∧ RY Z r (.ref A) (.two t u) := by
  have l := s.add_le (f := true) (o := .tup [x, y]) n
  exact ⟨_, l, s.add (f := true) n, A, x, y, rfl, upd_same, rx.mono l, ry.mono l⟩
theorem itOk_enum {K : PySem.W.Frag} (hK : K = Z.K) {t : T} {n : Nat} {a : Addr} (r : RT Z p (.ref a) t) : ItOk Z p (Ite K a) (.enum t n) := by
  subst hK
  refine ⟨fun q H μ i l s h hi => ?_, fun q H μ l s h => ?_, fun q H μ i x H' y l s h j => ?_⟩
  · obtain ⟨ts, h⟩ := isSome_get h
    obtain ⟨a', vs, e, h1, h2, h3⟩ := itemsN_ok s (r.mono l) h
    cases e
    have hi : i < vs.length := by rw [h2.length, h3]; exact hi
    exact ⟨vs, vs[i], h1, by simp [hi]⟩
  · obtain ⟨ts, h⟩ := isSome_get h
    obtain ⟨a', vs, e, h1, h2, h3⟩ := itemsN_ok s (r.mono l) h
    cases e
    exact ⟨vs, h1, by rw [h2.length, h3]; exact Nat.le_refl _⟩
  · simp only [ItV.at] at h
    split at h
    · rename_i ts h0
      obtain ⟨a', vs, e, h1, h2, h3⟩ := itemsN_ok s (r.mono l) h0
      cases e
      cases ht : ts[i]? with
      | none => rw [ht] at h; cases h
      | some t1 =>
        rw [ht] at h
        cases h
        obtain ⟨w, k1, k2⟩ := h2.get ht
        obtain ⟨A, w', rfl, hn, rfl, k⟩ := j
        have e := (k vs h1).symm.trans k1
        cases e
        exact yl_two s hn (Dx.int _ : Dx Z.K Z.TB q.N _ _) k2
    · cases h
theorem itOk_zip {K : PySem.W.Frag} (hK : K = Z.K) {b : Bool} {t u : T} {n m : Nat} {a a2 : Addr} (r : RT Z p (.ref a) t) (r2 : RT Z p (.ref a2) u) : ItOk Z p (if b then Itz K a a2 else _root_.RZ.ItzT K a a2) (.zip b t u n m) := by
  subst hK
  refine ⟨fun q H μ i l s h hi => ?_, fun q H μ l s h => ?_, fun q H μ i x H' y l s h j => ?_⟩
  · simp only [ItV.ok, Bool.and_eq_true_iff] at h
    obtain ⟨ts, g1⟩ := isSome_get h.1
    obtain ⟨us, g2⟩ := isSome_get h.2
    obtain ⟨a', vs, e, h1, h2, h3⟩ := itemsN_ok s (r.mono l) g1
    obtain ⟨a'', ws, e', k1, k2, k3⟩ := itemsN_ok s (r2.mono l) g2
    cases e; cases e'
    have hi : i < min n m := hi
    have hi1 : i < vs.length := by rw [h2.length, h3]; omega
    have hi2 : i < ws.length := by rw [k2.length, k3]; omega
    cases b
    · exact ⟨vs, ws, vs[i], ws[i], h1, k1, by simp [hi1], by simp [hi2]⟩
    · exact ⟨vs, ws, vs[i], ws[i], h1, k1, by simp [hi1], by simp [hi2]⟩
  · simp only [ItV.ok, Bool.and_eq_true_iff] at h
    obtain ⟨ts, g1⟩ := isSome_get h.1
    obtain ⟨us, g2⟩ := isSome_get h.2
    obtain ⟨a', vs, e, h1, h2, h3⟩ := itemsN_ok s (r.mono l) g1
    obtain ⟨a'', ws, e', k1, k2, k3⟩ := itemsN_ok s (r2.mono l) g2
    cases e; cases e'
    have hl : vs.length ≤ min n m ∨ ws.length ≤ min n m := by rw [h2.length, h3, k2.length, k3]; omega
    cases b
    · exact ⟨vs, ws, h1, k1, hl⟩
    · exact ⟨vs, ws, h1, k1, hl⟩
  · simp only [ItV.at] at h
    split at h
    · rename_i ts us g1 g2
      split at h
      · rename_i t1 u1 ht hu
        cases h
        obtain ⟨a', vs, e, h1, h2, h3⟩ := itemsN_ok s (r.mono l) g1
        obtain ⟨a'', ws, e', k1, k2, k3⟩ := itemsN_ok s (r2.mono l) g2
        cases e; cases e'
        obtain ⟨w, x1, x2⟩ := h2.get ht
        obtain ⟨w2, y1, y2⟩ := k2.get hu
        cases b
        · obtain ⟨A, c, d, rfl, hn, rfl, f1, f2⟩ := j
          cases (f1 vs h1).symm.trans x1
          cases (f2 ws k1).symm.trans y1
          exact yl_two s hn x2 y2
        · obtain ⟨A, c, d, rfl, hn, rfl, f1, f2⟩ := j
          cases (f1 vs h1).symm.trans x1
          cases (f2 ws k1).symm.trans y1
          exact yl_two s hn x2 y2
      · cases h
    · cases h
end

/-- the walk has come -/
def PostI (Z : Ent) (W : Wish) (σ : L2.St) (R : It → Hp → Prop) (p : Pt) (r : Ot ItV) : Prop := match r with
  | some (.ok v μ) => ∀ (J : It) (H' : Hp) (q : Pt), p.Le q → SR Z q H' μ → ItOk Z q J v → R J H'
  | some (.exc c t μ) => PostX Z W σ p c t μ
  | none => False
abbrev Di := Gam → Mu → Ot ItV
def tI (Z : Ent) (W : Wish) (g : Di) : TI := fun σ H R => ∃ (p : Pt) (μ : Mu) (Γ : Gam), SR Z p H μ ∧ ER Z p σ Γ ∧ PostI Z W σ R p (g Γ μ)
theorem pi_imp {X : Cx} {tg e : Expr} {t u : TI} (h : PI X tg e t) (i : ∀ σ H Q, u σ H Q → t σ H Q) : PI X tg e u := ⟨fun pins s σ H Q I q => h.run pins s σ H Q I (i σ H Q q)⟩
section
variable {Z : Ent} {W : Wish} {σ : L2.St} {p q : Pt} {H : Hp} {μ : Mu} {Γ : Gam}
theorem PostI.le {R : It → Hp → Prop} {r : Ot ItV} (e : p.Le q) (h : PostI Z W σ R p r) : PostI Z W σ R q r := by
  match r, h with
  | some (.ok t μ), h => exact fun J H' r hl => h J H' r (e.trans hl)
  | some (.exc c t μ), h => exact PostX.le e h
theorem tD_bindI {g : De} {k : T → Mu → Ot ItV} {Q : It → Hp → Prop} (s : SR Z p H μ) (e : ER Z p σ Γ) (h : PostI Z W σ Q p (Ot.bind (g Γ μ) k)) :
    tD Z W g σ H fun v H1 => ∃ (q : Pt) (μ1 : Mu) (t : T), p.Le q ∧ SR Z q H1 μ1 ∧ ER Z q σ Γ ∧ RT Z q v t ∧ PostI Z W σ Q q (k t μ1) := by
  refine ⟨p, μ, Γ, s, e, ?_⟩
  match hg : g Γ μ, h with
  | some (.ok t μ1), h =>
    have h : PostI Z W σ Q p (k t μ1) := h
    exact fun v H' q hl hs hr => ⟨q, μ1, t, hl, hs, e.mono hl, hr, PostI.le hl h⟩
  | some (.exc c t μ1), h => exact h
theorem tDA_bindI {g : Da} {k : List T → Mu → Ot ItV} {Q : It → Hp → Prop} (s : SR Z p H μ) (e : ER Z p σ Γ) (h : PostI Z W σ Q p (Ot.bind (g Γ μ) k)) :
    tDA Z W g σ H fun vs H1 => ∃ (q : Pt) (μ1 : Mu) (ts : List T), p.Le q ∧ SR Z q H1 μ1 ∧ ER Z q σ Γ ∧ RTs Z q vs ts ∧ PostI Z W σ Q q (k ts μ1) := by
  refine ⟨p, μ, Γ, s, e, ?_⟩
  match hg : g Γ μ, h with
  | some (.ok t μ1), h =>
    have h : PostI Z W σ Q p (k t μ1) := h
    exact fun v H' q hl hs hr => ⟨q, μ1, t, hl, hs, e.mono hl, hr, PostI.le hl h⟩
  | some (.exc c t μ1), h => exact h
end
section
variable {X : Cx} {Z : Ent} {W : Wish} {tg a b : Expr} {es : List Expr} {ga gb : De} {da : Da} {pos nm : Pos}
/-- over a list or a tuple -/
def iSeq (b : Bool) (g : De) : Di := fun Γ μ => Ot.bind (g Γ μ) fun t μ1 => match items μ1 t with
  | some (b', ts) => if b' = b then some (.ok (.seq b t ts.length) μ1) else none
  | none => none
theorem xi_lst (hK : X.K = Z.K) (ha : PE X a (tD Z W ga)) : PI X tg a (tI Z W (iSeq true ga)) :=
  pi_imp (pi_list ha) fun σ H Q ⟨p, μ, Γ, s, er, h⟩ => by
    obtain ⟨p', μ', Γ', s', e', h'⟩ := tD_bindI s er h
    refine ⟨p', μ', Γ', s', e', ?_⟩
    match hg : ga Γ' μ', h' with
    | some (.ok t μ1), h' =>
      intro v H' q hl hs hr
      obtain ⟨q1, μ2, t2, l1, s1, e1, r1, k1⟩ := h' v H' q hl hs hr
      split at k1
      · rename_i b' ts hi
        split at k1
        · rename_i hb
          subst hb
          obtain ⟨a, vs, rfl, h1, h2⟩ := items_ok s1 r1 hi
          exact ⟨a, rfl, ⟨vs, by rw [hK]; exact h1⟩, k1 _ _ _ (.refl _) s1 (itOk_seq (b := true) hK r1)⟩
        · exact k1.elim
      · exact k1.elim
    | some (.exc c t μ1), h' => exact h'
theorem xi_tup (hK : X.K = Z.K) (ha : PE X a (tD Z W ga)) : PI X tg a (tI Z W (iSeq false ga)) :=
  pi_imp (pi_tup ha) fun σ H Q ⟨p, μ, Γ, s, er, h⟩ => by
    obtain ⟨p', μ', Γ', s', e', h'⟩ := tD_bindI s er h
    refine ⟨p', μ', Γ', s', e', ?_⟩
    match hg : ga Γ' μ', h' with
    | some (.ok t μ1), h' =>
      intro v H' q hl hs hr
      obtain ⟨q1, μ2, t2, l1, s1, e1, r1, k1⟩ := h' v H' q hl hs hr
      split at k1
      · rename_i b' ts hi
        split at k1
        · rename_i hb
          subst hb
          obtain ⟨a, vs, rfl, h1, h2⟩ := items_ok s1 r1 hi
          exact ⟨a, rfl, ⟨vs, by rw [hK]; exact h1⟩, k1 _ _ _ (.refl _) s1 (itOk_seq (b := false) hK r1)⟩
        · exact k1.elim
      · exact k1.elim
    | some (.exc c t μ1), h' => exact h'
/-- over a text -/
def iTxt (g : De) : Di := fun Γ μ => Ot.bind (g Γ μ) fun t μ1 => match t with
  | .v _ (.str z) => some (.ok (.txt z) μ1)
  | _ => none
theorem xi_txt (ha : PE X a (tD Z W ga)) : PI X tg a (tI Z W (iTxt ga)) :=
  pi_imp (pi_str ha) fun σ H Q ⟨p, μ, Γ, s, er, h⟩ => by
    obtain ⟨p', μ', Γ', s', e', h'⟩ := tD_bindI s er h
    refine ⟨p', μ', Γ', s', e', ?_⟩
    match hg : ga Γ' μ', h' with
    | some (.ok t μ1), h' =>
      intro v H' q hl hs hr
      obtain ⟨q1, μ2, t2, l1, s1, e1, r1, k1⟩ := h' v H' q hl hs hr
      split at k1
      · rename_i z
        cases r1.str
        exact ⟨z, rfl, k1 _ _ _ (.refl _) s1 itOk_txt⟩
      · exact k1.elim
    | some (.exc c t μ1), h' => exact h'
def iRng1D (da : Da) : Di := fun Γ μ => Ot.bind (da Γ μ) fun ts μ1 => match ts with
  | [.v _ (.int j)] => if -(2 ^ 62) ≤ j ∧ j < 2 ^ 62 then some (.ok (.rng 0 j.toNat) μ1) else none
  | _ => none
theorem xi_rng1 (hg : Gl X "range") (hm : X.mg "range" = none) (ha : PA X [a] (tDA Z W da)) (hs : starEach [a] X.env = [(false, eval a X.env)]) : PI X tg (.Call (.Name "range" nm) [a] [] pos) (tI Z W (iRng1D da)) :=
  pi_imp (pi_range1 hg hm ha hs) fun σ H Q ⟨p, μ, Γ, s, er, h⟩ => by
    obtain ⟨p', μ', Γ', s', e', h'⟩ := tDA_bindI s er h
    refine ⟨p', μ', Γ', s', e', ?_⟩
    match hg : da Γ' μ', h' with
    | some (.ok t μ1), h' =>
      intro v H' q hl hs hr
      obtain ⟨q1, μ2, t2, l1, s1, e1, r1, k1⟩ := h' v H' q hl hs hr
      split at k1
      · rename_i j
        split at k1
        · rename_i hj
          obtain ⟨w, rfl, hw⟩ := r1.one
          cases hw.int
          exact ⟨_, rfl, hj.1, hj.2, k1 _ _ _ (.refl _) s1 itOk_rng⟩
        · exact k1.elim
      · exact k1.elim
    | some (.exc c t μ1), h' => exact h'
def iRng2D (da : Da) : Di := fun Γ μ => Ot.bind (da Γ μ) fun ts μ1 => match ts with
  | [.v _ (.int i), .v _ (.int j)] => if -(2 ^ 62) ≤ i ∧ i < 2 ^ 62 ∧ -(2 ^ 62) ≤ j ∧ j < 2 ^ 62 then some (.ok (.rng i (j - i).toNat) μ1) else none
  | _ => none
theorem xi_rng2 (hg : Gl X "range") (hm : X.mg "range" = none) (ha : PA X [a, b] (tDA Z W da)) (hs : starEach [a, b] X.env = [(false, eval a X.env), (false, eval b X.env)]) (hs2 : starEach [b] X.env = [(false, eval b X.env)]) :
    PI X tg (.Call (.Name "range" nm) [a, b] [] pos) (tI Z W (iRng2D da)) :=
  pi_imp (pi_range2 hg hm ha hs hs2) fun σ H Q ⟨p, μ, Γ, s, er, h⟩ => by
    obtain ⟨p', μ', Γ', s', e', h'⟩ := tDA_bindI s er h
    refine ⟨p', μ', Γ', s', e', ?_⟩
    match hg : da Γ' μ', h' with
    | some (.ok t μ1), h' =>
      intro v H' q hl hs hr
      obtain ⟨q1, μ2, t2, l1, s1, e1, r1, k1⟩ := h' v H' q hl hs hr
      split at k1
      · rename_i i j
        split at k1
        · rename_i hj
          obtain ⟨w, w2, rfl, hw, hw2⟩ := r1.two
          cases hw.int; cases hw2.int
          exact ⟨_, _, rfl, hj, k1 _ _ _ (.refl _) s1 itOk_rng⟩
        · exact k1.elim
      · exact k1.elim
    | some (.exc c t μ1), h' => exact h'
def iEnumD (da : Da) : Di := fun Γ μ => Ot.bind (da Γ μ) fun ts μ1 => match ts with
  | [t] => match items μ1 t with
    | some (true, us) => some (.ok (.enum t us.length) μ1)
    | _ => none
  | _ => none
theorem xi_enum {elts : List Expr} {kk : Nat} {tpos : Pos} (hK : X.K = Z.K) (hg : Gl X "enumerate") (hm : X.mg "enumerate" = none) (ha : PA X [a] (tDA Z W da)) (hs : starEach [a] X.env = [(false, eval a X.env)]) :
    PI X (.Tuple elts kk tpos) (.Call (.Name "enumerate" nm) [a] [] pos) (tI Z W (iEnumD da)) :=
  pi_imp (pi_enum hg hm ha hs) fun σ H Q ⟨p, μ, Γ, s, er, h⟩ => by
    obtain ⟨p', μ', Γ', s', e', h'⟩ := tDA_bindI s er h
    refine ⟨p', μ', Γ', s', e', ?_⟩
    match hg : da Γ' μ', h' with
    | some (.ok t μ1), h' =>
      intro v H' q hl hs hr
      obtain ⟨q1, μ2, t2, l1, s1, e1, r1, k1⟩ := h' v H' q hl hs hr
      split at k1
      · rename_i t3
        split at k1
        · rename_i us hi
          obtain ⟨w, rfl, hw⟩ := r1.one
          obtain ⟨a, vs, rfl, h1, h2⟩ := items_ok s1 hw hi
          exact ⟨a, vs, rfl, by rw [hK]; exact h1, k1 _ _ _ (.refl _) s1 (itOk_enum hK hw)⟩
        · exact k1.elim
      · exact k1.elim
    | some (.exc c t μ1), h' => exact h'
def iZipD (da : Da) : Di := fun Γ μ => Ot.bind (da Γ μ) fun ts μ1 => match ts with
  | [t, u] => match items μ1 t, items μ1 u with
    | some (b, xs), some (b', ys) => if b = b' then some (.ok (.zip b t u xs.length ys.length) μ1) else none
    | _, _ => none
  | _ => none
theorem xi_zip {elts : List Expr} {kk : Nat} {tpos : Pos} (hK : X.K = Z.K) (hg : Gl X "zip") (hm : X.mg "zip" = none) (ha : PA X [a, b] (tDA Z W da)) (hs : starEach [a, b] X.env = (false, eval a X.env) :: starEach [b] X.env)
    (hpl : (backTo pos (starEach [b] X.env)).any (·.1) = false) : PI X (.Tuple elts kk tpos) (.Call (.Name "zip" nm) [a, b] [] pos) (tI Z W (iZipD da)) :=
  pi_imp (_root_.RZ.pi_zipA hg hm ha hs hpl) fun σ H Q ⟨p, μ, Γ, s, er, h⟩ => by
    obtain ⟨p', μ', Γ', s', e', h'⟩ := tDA_bindI s er h
    refine ⟨p', μ', Γ', s', e', ?_⟩
    match hg : da Γ' μ', h' with
    | some (.ok t μ1), h' =>
      intro v H' q hl hs hr
      obtain ⟨q1, μ2, t2, l1, s1, e1, r1, k1⟩ := h' v H' q hl hs hr
      split at k1
      · rename_i t3 u3
        split at k1
        · rename_i b1 xs b2 ys hi hj
          split at k1
          · rename_i hb
            subst hb
            obtain ⟨w, w2, rfl, hw, hw2⟩ := r1.two
            obtain ⟨a, vs, rfl, h1, h2⟩ := items_ok s1 hw hi
            obtain ⟨a2, ws, rfl, g1, g2⟩ := items_ok s1 hw2 hj
            have q := k1 _ _ _ (.refl _) s1 (itOk_zip (n := xs.length) (m := ys.length) hK hw hw2)
            refine ⟨a, a2, vs, ws, rfl, ?_⟩
            cases b1
            · exact .inr ⟨by rw [hK]; exact h1, by rw [hK]; exact g1, q⟩
            · exact .inl ⟨by rw [hK]; exact h1, by rw [hK]; exact g1, q⟩
          · exact k1.elim
        · exact k1.elim
      · exact k1.elim
    | some (.exc c t μ1), h' => exact h'
def iRevD (g : De) : Di := fun Γ μ => Ot.bind (g Γ μ) fun t μ1 => match items μ1 t with
  | some (b, ts) => some (.ok (.rev b t ts.length) μ1)
  | none => none
theorem xi_rev (hK : X.K = Z.K) (hg : Gl X "reversed") (hm : X.mg "reversed" = none) (ha : PE X a (tD Z W ga)) (hs : starEach [a] X.env = (false, eval a X.env) :: starEach [] X.env) :
    PI X tg (.Call (.Name "reversed" nm) [a] [] pos) (tI Z W (iRevD ga)) :=
  pi_imp (_root_.RT.pi_revA hg hm ha hs) fun σ H Q ⟨p, μ, Γ, s, er, h⟩ => by
    obtain ⟨p', μ', Γ', s', e', h'⟩ := tD_bindI s er h
    refine ⟨p', μ', Γ', s', e', ?_⟩
    match hg : ga Γ' μ', h' with
    | some (.ok t μ1), h' =>
      intro v H' q hl hs hr
      obtain ⟨q1, μ2, t2, l1, s1, e1, r1, k1⟩ := h' v H' q hl hs hr
      split at k1
      · rename_i b' ts hi
        obtain ⟨a, vs, rfl, h1, h2⟩ := items_ok s1 r1 hi
        have q := k1 _ _ _ (.refl _) s1 (itOk_rev (n := ts.length) hK r1)
        refine ⟨a, vs, rfl, ?_⟩
        rw [h2.length]
        cases b'
        · exact .inr ⟨by rw [hK]; exact h1, q⟩
        · exact .inl ⟨by rw [hK]; exact h1, q⟩
      · exact k1.elim
    | some (.exc c t μ1), h' => exact h'
end
end L3

set_option Elab.async false
set_option linter.all false
set_option maxRecDepth 100000
set_option maxHeartbeats 4000000
/-! L3, fourteenth part: targets, ends of statements, loops, comprehensions. -/
namespace L3
open PySem PySem.Spec PyProof.Rows L2

/-- where a value goes -/
abbrev Dg := Yl → Gam → Mu → Option Gam
abbrev Dgs := List T → Gam → Mu → Option Gam
/-- js: the slots that it may set -/
def tG (Z : Ent) (js : List Nat) (g : Dg) : TG := fun v σ H Q => ∃ (p : Pt) (μ : Mu) (Γ Γ' : Gam) (y : Yl), SR Z p H μ ∧ ER Z p σ Γ ∧ RY Z p v y ∧ g y Γ μ = some Γ' ∧
  ∀ σ', ER Z p σ' Γ' → (∀ i, i ∉ js → σ'[i]? = σ[i]?) → σ'.length = σ.length → Q σ' H
def tGs (Z : Ent) (js : List Nat) (g : Dgs) : TGs := fun vs σ H Q => ∃ (p : Pt) (μ : Mu) (Γ Γ' : Gam) (ts : List T), SR Z p H μ ∧ ER Z p σ Γ ∧ RTs Z p vs ts ∧ g ts Γ μ = some Γ' ∧
  ∀ σ', ER Z p σ' Γ' → (∀ i, i ∉ js → σ'[i]? = σ[i]?) → σ'.length = σ.length → Q σ' H
theorem pg_imp {X : Cx} {e : Expr} {t u : TG} (h : PG X e t) (i : ∀ v σ H Q, u v σ H Q → t v σ H Q) : PG X e u := ⟨fun pins s σ H v w Q I r q => h.run pins s σ H v w Q I r (i v σ H Q q)⟩
theorem pgs_imp {X : Cx} {e : List Expr} {t u : TGs} (h : PGs X e t) (i : ∀ v σ H Q, u v σ H Q → t v σ H Q) : PGs X e u := ⟨fun pins s σ H v w Q I r q => h.run pins s σ H v w Q I r (i v σ H Q q)⟩
/-- a name -/
def gNm (i : Nat) : Dg := fun y Γ _ => match y with
  | .one t => some (Γ.set i (some t))
  | .two _ _ => none
theorem set_else {σ : L2.St} {i : Nat} {w : Option V} : ∀ j, j ∉ [i] → (σ.set i w)[j]? = σ[j]? := fun j hj => List.getElem?_set_ne (fun z => hj (by rw [z]; exact List.mem_cons_self))
section
variable {X : Cx} {Z : Ent} {W : Wish} {pos : Pos}
theorem xg_nm {i : Nat} {x : Str} (hN : X.N.Nodup) (hi : X.N[i]? = some x) (hx : Loc X.env.scope x) (hf : X.fn x = true ∨ X.env.scope.names.lookup x = some .local) : PG X (.Name x pos) (tG Z [i] (gNm i)) :=
  pg_imp (pg_name hN hi hx hf) fun v σ H Q ⟨p, μ, Γ, Γ', y, s, e, r, h, q⟩ => by
    cases y with
    | two _ _ => cases h
    | one t =>
      cases h
      exact q _ (e.set r _) set_else (List.length_set ..)
def gsNil : Dgs := fun ts Γ _ => match ts with
  | [] => some Γ
  | _ => none
def gsCons (g : Dg) (h : Dgs) : Dgs := fun ts Γ μ => match ts with
  | t :: ts => match g (.one t) Γ μ with
    | some Γ' => h ts Γ' μ
    | none => none
  | [] => none
theorem xgs_nil : PGs X [] (tGs Z [] gsNil) :=
  pgs_imp pgs_nil fun v σ H Q ⟨p, μ, Γ, Γ', ts, s, e, r, h, q⟩ => by
    cases r with
    | nil => cases h; exact ⟨rfl, q _ e (fun _ _ => rfl) rfl⟩
    | cons _ _ => cases h
theorem xgs_cons {a : Expr} {es : List Expr} {js ks : List Nat} {g : Dg} {h : Dgs} (h1 : PG X a (tG Z js g)) (h2 : PGs X es (tGs Z ks h))
    (hs : (assignEach (a :: es) X.env).map (·.2) = assign a X.env :: (assignEach es X.env).map (·.2)) : PGs X (a :: es) (tGs Z (js ++ ks) (gsCons g h)) :=
  pgs_imp (pgs_cons h1 h2 hs) fun v σ H Q ⟨p, μ, Γ, Γ', ts, s, e, r, h, q⟩ => by
    cases r with
    | nil => cases h
    | cons r1 r2 =>
      simp only [gsCons] at h
      split at h
      · rename_i Γ1 hg
        exact ⟨_, _, rfl, p, μ, Γ, Γ1, .one _, s, e, r1, hg, fun σ1 e1 k1 n1 => ⟨p, μ, Γ1, Γ', _, s, e1, r2, h, fun σ2 e2 k2 n2 => q σ2 e2 (fun i hi => by
          rw [k2 i (fun z => hi (List.mem_append_right _ z)), k1 i (fun z => hi (List.mem_append_left _ z))]) (n2.trans n1)⟩⟩
      · cases h
/-- a row of targets: a new pair, a tuple -/
def gTp (n : Nat) (h : Dgs) : Dg := fun y Γ μ => match y with
  | .two t u => if n = 2 then h [t, u] Γ μ else none
  | .one t => match items μ t with
    | some (false, ts) => if ts.length = n then h ts Γ μ else none
    | _ => none
theorem xg_tup {es : List Expr} {k n : Nat} {js : List Nat} {h : Dgs} (hK : X.K = Z.K) (hc : X.calm = true) (hh : PGs X es (tGs Z js h)) (hn : (assignEach es X.env).length = n) (hst : (assignEach es X.env).findIdx? (·.1) = none) :
    PG X (.Tuple es k pos) (tG Z js (gTp n h)) :=
  pg_imp (pg_tup hc hh hn hst) fun v σ H Q ⟨p, μ, Γ, Γ', y, s, e, r, hd, q⟩ => by
    cases y with
    | two t u =>
      obtain ⟨a, x, z, rfl, h1, h2, h3⟩ := r
      simp only [gTp] at hd
      split at hd
      · rename_i hn2
        subst hn2
        exact ⟨a, [x, z], rfl, SqT.of (s.sub _ _ (s.nin _ _ h1)), rfl, p, μ, Γ, Γ', [t, u], s, e, .cons h2 (.cons h3 .nil), hd, q⟩
      · cases hd
    | one t =>
      simp only [gTp] at hd
      split at hd
      · rename_i ts hi
        split at hd
        · rename_i hl
          obtain ⟨a, vs, rfl, h1, h2⟩ := items_ok s r hi
          exact ⟨a, vs, rfl, by rw [hK]; exact h1, by rw [h2.length]; exact hl, p, μ, Γ, Γ', ts, s, e, h2, hd, q⟩
        · cases hd
      · cases hd
end

/-- how a statement ends -/
inductive Eo where
  | nx (Γ : Gam) (μ : Mu)
  | rt (t : T) (μ : Mu)
  | bk (Γ : Gam) (μ : Mu)
  | ct (Γ : Gam) (μ : Mu)
  | ex (Γ : Gam) (c : Nat) (t : T) (μ : Mu)
abbrev Ds := Gam → Mu → Option Eo
def PostS (Z : Ent) (W : Wish) (D : Ends) (p : Pt) (r : Option Eo) : Prop := match r with
  | some (.nx Γ μ) => ∀ (σ : L2.St) (H : Hp) (q : Pt), p.Le q → SR Z q H μ → ER Z q σ Γ → D.nx σ H
  | some (.rt t μ) => ∀ (v : V) (H : Hp) (q : Pt), p.Le q → SR Z q H μ → RT Z q v t → D.rt v H
  | some (.bk Γ μ) => ∀ (σ : L2.St) (H : Hp) (q : Pt), p.Le q → SR Z q H μ → ER Z q σ Γ → D.bk σ H
  | some (.ct Γ μ) => ∀ (σ : L2.St) (H : Hp) (q : Pt), p.Le q → SR Z q H μ → ER Z q σ Γ → D.ct σ H
  | some (.ex Γ c t μ) => ∀ (σ : L2.St) (q : Pt), p.Le q → ER Z q σ Γ → PostX Z W σ q c t μ
  | none => False
def tDS (Z : Ent) (W : Wish) (g : Ds) : TS := fun D σ H => ∃ (p : Pt) (μ : Mu) (Γ : Gam), SR Z p H μ ∧ ER Z p σ Γ ∧ PostS Z W D p (g Γ μ)
def Ot.bindS {α : Type} (x : Ot α) (Γ : Gam) (k : α → Mu → Option Eo) : Option Eo := match x with
  | some (.ok a μ) => k a μ
  | some (.exc c t μ) => some (.ex Γ c t μ)
  | none => none
section
variable {Z : Ent} {W : Wish} {σ : L2.St} {p q : Pt} {H : Hp} {μ : Mu} {Γ : Gam} {D : Ends}
theorem PostS.le {r : Option Eo} (e : p.Le q) (h : PostS Z W D p r) : PostS Z W D q r := by
  match r, h with
  | some (.nx _ _), h => exact fun σ H r l => h σ H r (e.trans l)
  | some (.rt _ _), h => exact fun σ H r l => h σ H r (e.trans l)
  | some (.bk _ _), h => exact fun σ H r l => h σ H r (e.trans l)
  | some (.ct _ _), h => exact fun σ H r l => h σ H r (e.trans l)
  | some (.ex _ _ _ _), h => exact fun σ r l => h σ r (e.trans l)
theorem tD_bindS {g : De} {k : T → Mu → Option Eo} (s : SR Z p H μ) (e : ER Z p σ Γ) (h : PostS Z W D p (Ot.bindS (g Γ μ) Γ k)) :
    tD Z W g σ H fun v H1 => ∃ (q : Pt) (μ1 : Mu) (t : T), p.Le q ∧ SR Z q H1 μ1 ∧ ER Z q σ Γ ∧ RT Z q v t ∧ PostS Z W D q (k t μ1) := by
  refine ⟨p, μ, Γ, s, e, ?_⟩
  match hg : g Γ μ, h with
  | some (.ok t μ1), h =>
    have h : PostS Z W D p (k t μ1) := h
    exact fun v H' q hl hs hr => ⟨q, μ1, t, hl, hs, e.mono hl, hr, PostS.le hl h⟩
  | some (.exc c t μ1), h => exact h σ p (.refl p) e
theorem tDA_bindS {g : Da} {k : List T → Mu → Option Eo} (s : SR Z p H μ) (e : ER Z p σ Γ) (h : PostS Z W D p (Ot.bindS (g Γ μ) Γ k)) :
    tDA Z W g σ H fun v H1 => ∃ (q : Pt) (μ1 : Mu) (t : List T), p.Le q ∧ SR Z q H1 μ1 ∧ ER Z q σ Γ ∧ RTs Z q v t ∧ PostS Z W D q (k t μ1) := by
  refine ⟨p, μ, Γ, s, e, ?_⟩
  match hg : g Γ μ, h with
  | some (.ok t μ1), h =>
    have h : PostS Z W D p (k t μ1) := h
    exact fun v H' q hl hs hr => ⟨q, μ1, t, hl, hs, e.mono hl, hr, PostS.le hl h⟩
  | some (.exc c t μ1), h => exact h σ p (.refl p) e
theorem tDB_bindS {g : Gam → Mu → Ot Bool} {k : Bool → Mu → Option Eo} (s : SR Z p H μ) (e : ER Z p σ Γ) (h : PostS Z W D p (Ot.bindS (g Γ μ) Γ k)) :
    tDB Z W g σ H fun b H1 => ∃ (q : Pt) (μ1 : Mu), p.Le q ∧ SR Z q H1 μ1 ∧ ER Z q σ Γ ∧ PostS Z W D q (k b μ1) := by
  refine ⟨p, μ, Γ, s, e, ?_⟩
  match hg : g Γ μ, h with
  | some (.ok t μ1), h =>
    have h : PostS Z W D p (k t μ1) := h
    exact fun H' q hl hs => ⟨q, μ1, hl, hs, e.mono hl, PostS.le hl h⟩
  | some (.exc c t μ1), h => exact h σ p (.refl p) e
theorem tI_bindS {g : Di} {k : ItV → Mu → Option Eo} (s : SR Z p H μ) (e : ER Z p σ Γ) (h : PostS Z W D p (Ot.bindS (g Γ μ) Γ k)) :
    tI Z W g σ H fun J H1 => ∃ (q : Pt) (μ1 : Mu) (v : ItV), p.Le q ∧ SR Z q H1 μ1 ∧ ER Z q σ Γ ∧ ItOk Z q J v ∧ PostS Z W D q (k v μ1) := by
  refine ⟨p, μ, Γ, s, e, ?_⟩
  match hg : g Γ μ, h with
  | some (.ok t μ1), h =>
    have h : PostS Z W D p (k t μ1) := h
    exact fun v H' q hl hs hr => ⟨q, μ1, t, hl, hs, e.mono hl, hr, PostS.le hl h⟩
  | some (.exc c t μ1), h => exact h σ p (.refl p) e
theorem tI_bind {g : Di} {k : ItV → Mu → Ot T} {Q : VK} (s : SR Z p H μ) (e : ER Z p σ Γ) (h : Post Z W σ Q p (Ot.bind (g Γ μ) k)) :
    tI Z W g σ H fun J H1 => ∃ (q : Pt) (μ1 : Mu) (v : ItV), p.Le q ∧ SR Z q H1 μ1 ∧ ER Z q σ Γ ∧ ItOk Z q J v ∧ Post Z W σ Q q (k v μ1) := by
  refine ⟨p, μ, Γ, s, e, ?_⟩
  match hg : g Γ μ, h with
  | some (.ok t μ1), h =>
    have h : Post Z W σ Q p (k t μ1) := h
    exact fun v H' q hl hs hr => ⟨q, μ1, t, hl, hs, e.mono hl, hr, Post.le hl h⟩
  | some (.exc c t μ1), h => exact h
end

/-! a for -/
def forD (v : ItV) (g : Dg) (b : Ds) : Nat → Nat → Ds
  | 0, _, Γ, μ => if v.ok μ then some (.nx Γ μ) else none
  | k + 1, i, Γ, μ => if v.ok μ then match v.at μ i with
    | some y => match g y Γ μ with
      | some Γ1 => match b Γ1 μ with
        | some (.nx Γ2 μ2) => forD v g b k (i + 1) Γ2 μ2
        | some (.ct Γ2 μ2) => forD v g b k (i + 1) Γ2 μ2
        | some (.bk Γ2 μ2) => some (.nx Γ2 μ2)
        | r => r
      | none => none
    | none => none
    else none
def sFor (it : Di) (g : Dg) (b : Ds) : Ds := fun Γ μ => Ot.bindS (it Γ μ) Γ fun v μ1 => forD v g b v.len 0 Γ μ1
section
variable {X : Cx} {Z : Ent} {W : Wish} {pos : Pos} {tg iter elt : Expr} {body : List Stmt} {it : Di} {g : Dg} {b : Ds} {js : List Nat}
theorem xs_for (hp : PassesOwn (model X.prog X.w) X.A X.env X.xe) (hc : X.calm = true) (hi : PI X tg iter (tI Z W it)) (hg : PG X tg (tG Z js g)) (hb : PSs X body (tDS Z W b)) (hs : ∀ x, foldedSetIterable iter X.env x = pure x) :
    PS X (.For tg iter body [] pos) (tDS Z W (sFor it g b)) :=
  ps_imp (ps_for hp hc hi hg hb hs) fun D σ H ⟨p, μ, Γ, s, e, h⟩ => by
    obtain ⟨p', μ', Γ', s', e', h'⟩ := tI_bindS s e h
    refine ⟨p', μ', Γ', s', e', ?_⟩
    match hg : it Γ' μ', h' with
    | some (.exc c t μ1), h' => exact h'
    | some (.ok v μ1), h' =>
      intro J H1 q hl hs hJ
      obtain ⟨q1, μ2, v2, l1, s1, e1, r1, k1⟩ := h' J H1 q hl hs hJ
      refine ⟨fun i m σ H => m = v2.len - i ∧ i ≤ v2.len ∧ ∃ (p3 : Pt) (μ3 : Mu) (Γ3 : Gam), q1.Le p3 ∧ SR Z p3 H μ3 ∧ ER Z p3 σ Γ3 ∧ PostS Z W D p3 (forD v2 g b (v2.len - i) i Γ3 μ3), ⟨v2.len, by simp, Nat.zero_le _, q1, μ2, Γ, .refl _, s1, e1, k1⟩, ?_⟩
      rintro i m σ H ⟨rfl, hi, p3, μ3, Γ3, l3, s3, e3, k3⟩
      by_cases hlt : i < v2.len
      · obtain ⟨k, hk⟩ : ∃ k, v2.len - i = k + 1 := ⟨v2.len - i - 1, by omega⟩
        rw [hk] at k3
        simp only [forD] at k3
        split at k3
        · rename_i hok
          refine .inr ⟨r1.go _ _ _ i l3 s3 hok hlt, fun σ' H' => v2.len - (i + 1) = v2.len - (i + 1) ∧ i + 1 ≤ v2.len ∧ ∃ (p3 : Pt) (μ3 : Mu) (Γ3 : Gam), q1.Le p3 ∧ SR Z p3 H' μ3 ∧ ER Z p3 σ' Γ3 ∧ PostS Z W D p3 (forD v2 g b (v2.len - (i + 1)) (i + 1) Γ3 μ3), fun σ' H' nx => ⟨v2.len - (i + 1), by omega, nx⟩, fun x H' y => ?_⟩
          split at k3
          · rename_i yv hat
            obtain ⟨p4, l4, s4, ry⟩ := r1.yld _ _ _ i x H' yv l3 s3 hat y
            split at k3
            · rename_i Γ5 hgg
              refine ⟨p4, μ3, Γ3, Γ5, yv, s4, e3.mono l4, ry, hgg, fun σ5 e5 _ _ => ⟨p4, μ3, Γ5, s4, e5, ?_⟩⟩
              have hk' : v2.len - (i + 1) = k := by omega
              have again : ∀ (Γ6 : Gam) (μ6 : Mu), PostS Z W D p3 (forD v2 g b k (i + 1) Γ6 μ6) → ∀ (σ : L2.St) (H : Hp) (q : Pt), p4.Le q → SR Z q H μ6 → ER Z q σ Γ6 →
                  v2.len - (i + 1) = v2.len - (i + 1) ∧ i + 1 ≤ v2.len ∧ ∃ (p3 : Pt) (μ3 : Mu) (Γ3 : Gam), q1.Le p3 ∧ SR Z p3 H μ3 ∧ ER Z p3 σ Γ3 ∧ PostS Z W D p3 (forD v2 g b (v2.len - (i + 1)) (i + 1) Γ3 μ3) :=
                fun Γ6 μ6 h6 σ H q l s e => ⟨rfl, hlt, q, μ6, Γ6, (l3.trans l4).trans l, s, e, by rw [hk']; exact PostS.le (l4.trans l) h6⟩
              match hb : b Γ5 μ3, k3 with
              | some (.nx Γ6 μ6), k3 => exact again Γ6 μ6 k3
              | some (.ct Γ6 μ6), k3 => exact again Γ6 μ6 k3
              | some (.bk Γ6 μ6), k3 => exact fun σ H q l => k3 σ H q (l4.trans l)
              | some (.rt t6 μ6), k3 => exact fun σ H q l => k3 σ H q (l4.trans l)
              | some (.ex Γ6 c6 t6 μ6), k3 => exact fun σ q l => k3 σ q (l4.trans l)
            · exact k3.elim
          · exact k3.elim
        · exact k3.elim
      · have hi' : i = v2.len := by omega
        subst hi'
        rw [Nat.sub_self] at k3
        simp only [forD] at k3
        split at k3
        · rename_i hok
          exact .inl ⟨r1.stop _ _ _ l3 s3 hok, k3 σ H p3 (.refl _) s3 e3⟩
        · exact k3.elim
end
end L3

set_option Elab.async false
set_option linter.all false
set_option maxRecDepth 100000
set_option maxHeartbeats 4000000
/-! L3, fifteenth part: comprehensions. -/
namespace L3
open PySem PySem.Spec PyProof.Rows L2

abbrev W0 : Wish := fun _ _ _ _ => False
def wipeG (Γ : Gam) : List Nat → Gam
  | [] => Γ
  | v :: vs => (wipeG Γ vs).set v none
theorem ER.wipeL {Z : Ent} {p : Pt} {σ : L2.St} {Γ : Gam} (e : ER Z p σ Γ) : ∀ vs : List Nat, ER Z p (L2.wipe σ vs) (wipeG Γ vs)
  | [] => e
  | v :: vs => by
    obtain ⟨h1, h2⟩ := ER.wipeL e vs
    refine ⟨by unfold L2.wipe wipeG; rw [List.length_set, List.length_set]; exact h1, fun i t h => ?_⟩
    unfold wipeG at h
    unfold L2.wipe
    by_cases hv : v = i
    · subst hv
      rw [List.getElem?_set] at h
      rw [if_pos rfl] at h
      split at h <;> cases h
    · rw [List.getElem?_set_ne hv] at h
      rw [List.getElem?_set_ne hv]
      exact h2 i t h
theorem ER.len {Z : Ent} {p : Pt} {σ : L2.St} {Γ : Gam} (e : ER Z p σ Γ) : σ.length = Γ.length := e.1
theorem wipe_get {σ : L2.St} : ∀ {vs : List Nat} {i : Nat}, (L2.wipe σ vs)[i]? = if i ∈ vs ∧ i < σ.length then some none else σ[i]?
  | [], i => by simp [L2.wipe]
  | v :: vs, i => by
    unfold L2.wipe
    rw [List.getElem?_set, wipe_length, wipe_get (vs := vs)]
    by_cases hv : v = i
    · subst hv
      by_cases hl : v < σ.length
      · simp [hl]
      · simp [hl]
    · have hv' : ¬ i = v := fun z => hv z.symm
      simp [hv, hv']
theorem wipe_agree {σ σ2 : L2.St} {js vs : List Nat} (h : ∀ i, i ∉ js → σ2[i]? = (L2.wipe σ vs)[i]?) (hl : σ2.length = σ.length) (hj : ∀ i ∈ js, i ∈ vs) : L2.wipe σ2 vs = L2.wipe σ vs := by
  refine List.ext_getElem? fun i => ?_
  rw [wipe_get, wipe_get, hl]
  by_cases hi : i ∈ vs ∧ i < σ.length
  · rw [if_pos hi, if_pos hi]
  · rw [if_neg hi, if_neg hi]
    by_cases hm : i ∈ vs
    · have hlt : ¬ i < σ.length := fun z => hi ⟨hm, z⟩
      rw [List.getElem?_eq_none (by omega), List.getElem?_eq_none (by omega)]
    · rw [h i fun z => hm (hj i z), wipe_get, if_neg hi]

/-- the tests of a clause -/
def tDT (Z : Ent) (g : Db) : TT := tDB Z W0 g
def bYes : Db := fun _ μ => some (.ok true μ)
section
variable {X : Cx} {Z : Ent} {e : Expr} {g : Db}
theorem xts_nil : PTs X [] (tDB Z W0 bYes) := ⟨fun pins s σ H Q I ⟨p, μ, Γ, sr, er, h⟩ => pts_nil.run pins s σ H Q I (h H p (.refl p) sr)⟩
theorem xts_one (h : PT X e (tDB Z W0 g)) : PTs X [e] (tDB Z W0 g) := pts_one h
end

/-- the turns of a comprehension; n0: where its list grows -/
def lcD (v : ItV) (g : Dg) (c : Db) (e : De) (own : List Nat) (n0 : Nat) (Γ : Gam) : Nat → Nat → Mu → Option Mu
  | 0, _, μ => if v.ok μ then some μ else none
  | k + 1, i, μ => if v.ok μ then match v.at μ i with
    | some y => match g y (wipeG Γ own) μ with
      | some Γ1 => match c Γ1 μ with
        | some (.ok true μ1) => match e Γ1 μ1 with
          | some (.ok t μ2) => match μ2[n0]? with
            | some (.lst acc) => if acc.length < sizeLine then lcD v g c e own n0 Γ k (i + 1) (μ2.set n0 (.lst (acc ++ [t]))) else none
            | _ => none
          | _ => none
        | some (.ok false μ1) => lcD v g c e own n0 Γ k (i + 1) μ1
        | _ => none
      | none => none
    | none => none
    else none
/-- the list that has come: it lives on, or stands for good from now on -/
def lcEnd (live : Bool) (n0 m0 : Nat) (μ : Mu) : Vt :=
  if live then some (.m n0, μ) else match μ[n0]? with
    | some (.lst ts) => match pack ts with
      | some (f, ds) => if m0 ≤ n0 ∧ (μ.take n0).all (Cell.low n0) then some (.v f (.lst ds), μ.take n0) else none
      | none => none
    | _ => none
def dLc (live : Bool) (m0 : Nat) (it : Di) (g : Dg) (c : Db) (e : De) (own : List Nat) : De := fun Γ μ => Ot.bind (it Γ μ) fun v μ1 => match lcD v g c e own μ1.length Γ v.len 0 (μ1 ++ [.lst []]) with
  | some μ2 => (lcEnd live μ1.length m0 μ2).ot
  | none => none
section
variable {Z : Ent} {p q : Pt} {H : Hp} {μ : Mu}
theorem take_set {α : Type} (l : List α) (n : Nat) (x : α) : (l.set n x).take n = l.take n := by
  rw [List.take_set]
  exact List.set_eq_of_length_le (by rw [List.length_take]; exact Nat.min_le_left _ _)
theorem lcEnd_ok (s : SR Z q H μ) {live : Bool} {n0 : Nat} {D : Addr} {Q : VK} (hn : p.ms.length = n0) (l : p.Le q) (hD : q.ms[n0]? = some D) (h : VPost Z Q p (lcEnd live n0 Z.ms0.length μ)) : Q (.ref D) H := by
  unfold lcEnd at h
  split at h
  · exact h _ _ q l s ⟨D, hD, rfl⟩
  · split at h
    · rename_i ts hts
      split at h
      · rename_i f ds hp
        split at h
        · rename_i hc
          obtain ⟨h0, hlow⟩ := hc
          obtain ⟨o, ho, s2, l2, r2⟩ := s.freeze hD hts h0 hp
          have s3 := s2.cut h0 (by rw [take_set]; exact hlow)
          rw [take_set] at s3
          have l3 : p.Le ((q.add f D o).cut n0) := s2.cut_le (l.trans l2) (by rw [hn]; exact Nat.le_refl _)
          exact h _ _ _ l3 s3 (RT.low rfl r2)
        · exact h.elim
      · exact h.elim
    · exact h.elim
end
section
variable {X : Cx} {Z : Ent} {W : Wish} {tg iter elt : Expr} {ifs : List Expr} {scope : Scope} {own : List (Str × Nat)} {pos spos : Pos} {it : Di} {g : Dg} {js : List Nat} {c : Db} {e : De}
theorem lc_owes {live : Bool} (hj : ∀ i ∈ js, i ∈ own.map (·.2)) {σ : L2.St} {H : Hp} {Q : VK} (h : tD Z W (dLc live Z.ms0.length it g c e (own.map (·.2))) σ H Q) :
    tLc (tI Z W it) (tG Z js g) (tDB Z W0 c) (tD Z W0 e) (own.map (·.2)) σ H Q := by
  obtain ⟨p, μ, Γ, s, er, h⟩ := h
  obtain ⟨p', μ', Γ', s', e', h'⟩ := tI_bind s er h
  refine ⟨p', μ', Γ', s', e', ?_⟩
  match hg : it Γ' μ', h' with
  | some (.exc c t μ1), h' => exact h'
  | some (.ok v μ1), h' =>
    intro J H1 q hl hs hJ D hD
    obtain ⟨q1, μ2, v2, l1, s1, e1, r1, k1⟩ := h' J H1 q hl hs hJ
    have s2 : SR Z (q1.push D) (upd H1 D (.lst [])) (μ2 ++ [.lst []]) := s1.push hD rfl ⟨[], upd_same, .nil⟩
    have hn : q1.ms.length = μ2.length := s1.len
    have hat : (q1.push D).ms[μ2.length]? = some D := by
      show (q1.ms ++ [D])[μ2.length]? = some D
      rw [← hn]; simp
    have atD : ∀ {r : Pt}, (q1.push D).Le r → r.ms[μ2.length]? = some D := fun {r} l => by
      obtain ⟨x, hx⟩ := l.m
      rw [← hx, List.getElem?_append_left (List.getElem?_eq_some_iff.mp hat).1]
      exact hat
    let G : Nat → Mu → Prop := fun i μ3 => ∃ μ4, lcD v2 g c e (own.map (·.2)) μ2.length Γ (v2.len - i) i μ3 = some μ4 ∧ Post Z W σ Q q1 (lcEnd live μ2.length Z.ms0.length μ4).ot
    have g0 : G 0 (μ2 ++ [.lst []]) := by
      split at k1
      · rename_i μ4 h4
        exact ⟨μ4, h4, k1⟩
      · exact k1.elim
    let Pv : Nat → Hp → Prop := fun i H => ∃ (p3 : Pt) (μ3 : Mu), (q1.push D).Le p3 ∧ SR Z p3 H μ3 ∧ G i μ3
    refine ⟨fun i m H => m = v2.len - i ∧ i ≤ v2.len ∧ Pv i H, ⟨v2.len, by simp, Nat.zero_le _, q1.push D, _, .refl _, s2, g0⟩, ?_⟩
    rintro i m H ⟨rfl, hi, p3, μ3, l3, s3, μ4, h4, k4⟩
    by_cases hlt : i < v2.len
    · obtain ⟨k, hk⟩ : ∃ k, v2.len - i = k + 1 := ⟨v2.len - i - 1, by omega⟩
      have hk' : v2.len - (i + 1) = k := by omega
      rw [hk] at h4
      simp only [lcD] at h4
      split at h4
      · rename_i hok
        refine .inr ⟨r1.go _ _ _ i ((Pt.push_le).trans l3) s3 hok hlt, fun H' => i + 1 ≤ v2.len ∧ Pv (i + 1) H', fun H' nx => ⟨v2.len - (i + 1), by omega, rfl, nx.1, nx.2⟩, fun x H' y => ?_⟩
        split at h4
        · rename_i yv hyv
          obtain ⟨p4, l4, s4, ry⟩ := r1.yld _ _ _ i x H' yv ((Pt.push_le).trans l3) s3 hyv y
          have e4 : ER Z p4 (wipe σ (own.map (·.2))) (wipeG Γ (own.map (·.2))) := ((e1.mono (Pt.push_le.trans l3)).mono l4).wipeL _
          split at h4
          · rename_i Γ5 hgg
            refine ⟨p4, μ3, _, Γ5, yv, s4, e4, ry, hgg, fun σ5 e5 k5 n5 => ⟨wipe_agree k5 (n5.trans (wipe_length ..)) hj, p4, μ3, Γ5, s4, e5, ?_⟩⟩
            cases hc : c Γ5 μ3 with
            | none => rw [hc] at h4; cases h4
            | some rc =>
              rw [hc] at h4
              cases rc with
              | exc _ _ _ => cases h4
              | ok bb μ6 =>
                cases bb with
                | false =>
                  intro H6 p6 l6 s6
                  rw [if_neg Bool.false_ne_true]
                  exact ⟨hlt, p6, μ6, (l3.trans l4).trans l6, s6, μ4, by rw [hk']; exact h4, k4⟩
                | true =>
                  intro H6 p6 l6 s6
                  rw [if_pos rfl]
                  refine ⟨p6, μ6, Γ5, s6, e5.mono l6, ?_⟩
                  cases he : e Γ5 μ6 with
                  | none => simp only [he] at h4; cases h4
                  | some re =>
                    simp only [he] at h4
                    cases re with
                    | exc _ _ _ => cases h4
                    | ok t μ7 =>
                      intro v7 H7 p7 l7 s7 r7
                      cases hm : μ7[μ2.length]? with
                      | none => simp only [hm] at h4; cases h4
                      | some cc =>
                        simp only [hm] at h4
                        cases cc with
                        | lst acc =>
                          dsimp only at h4
                          split at h4
                          · rename_i hz
                            have L : (q1.push D).Le p7 := ((l3.trans l4).trans l6).trans l7
                            have hD7 := atD L
                            obtain ⟨vs, hv, rv⟩ := s7.cell _ _ _ hD7 hm
                            refine ⟨vs, hv, by rw [rv.length]; exact hz, hlt, p7, _, L, s7.write hD7 hm rfl rfl (c' := .lst (acc ++ [t])) ⟨vs ++ [v7], upd_same, rv.append (.cons r7 .nil)⟩, μ4, by rw [hk']; exact h4, k4⟩
                          · cases h4
                        | obj _ _ => cases h4
                        | dT _ _ => cases h4
                        | dK _ _ => cases h4
                        | frz _ _ => cases h4
                        | hid => cases h4
                        | tup _ => cases h4
          · cases h4
        · cases h4
      · cases h4
    · have hi' : i = v2.len := by omega
      subst hi'
      rw [Nat.sub_self] at h4
      simp only [lcD] at h4
      split at h4
      · rename_i hok
        cases h4
        exact .inl ⟨r1.stop _ _ _ (Pt.push_le.trans l3) s3 hok, lcEnd_ok (p := q1) s3 hn (Pt.push_le.trans l3) (atD l3) (VPost.post k4)⟩
      · cases h4
end
end L3

set_option Elab.async false
set_option linter.all false
set_option maxRecDepth 100000
set_option maxHeartbeats 4000000
/-! L3, sixteenth part: statements. -/
namespace L3
open PySem PySem.Spec PyProof.Rows L2

section
variable {X : Cx} {Z : Ent} {W : Wish} {tg iter elt : Expr} {ifs : List Expr} {scope : Scope} {own : List (Str × Nat)} {pos spos py : Pos} {it : Di} {g : Dg} {js : List Nat} {c : Db} {e : De}
theorem xe_lc (live : Bool) {m0 : Nat} (hm : Z.ms0.length = m0) (hc : X.calm = true) (hN : X.N.Nodup) (hi : PI X tg iter (tI Z W it)) (ok : BlkOk X.N X.env.scope scope own) (hj : ∀ i ∈ js, i ∈ own.map (·.2))
    (hg : ∀ (s : Shared) (H : Hp) (C : Addr) (cl : List (Str × Addr)) (fp : List Addr), PG (X.blk s H scope (compEnvC scope cl C X.env) fp) tg (tG Z js g)) (ht : ∀ (s : Shared) (H : Hp) (C : Addr) (cl : List (Str × Addr)) (fp : List Addr), PTs (X.blk s H scope (compEnvC scope cl C X.env) fp) ifs (tDB Z W0 c))
    (he : ∀ (s : Shared) (H : Hp) (C : Addr) (cl : List (Str × Addr)) (fp : List Addr), PE (X.blk s H scope (compEnvC scope cl C X.env) fp) elt (tD Z W0 e)) (hs : ∀ x, foldedSetIterable iter X.env x = pure x) :
    PE X (.ListComp elt [⟨tg, iter, ifs, 0⟩] scope pos) (tD Z W (dLc live m0 it g c e (own.map (·.2)))) := by
  subst hm
  exact pe_imp (pe_lc hc hN hi ok hg ht he hs) fun σ H Q h => lc_owes hj h

/-! names, returns, sequences -/
def sSet (i : Nat) (g : De) : Ds := fun Γ μ => Ot.bindS (g Γ μ) Γ fun t μ1 => some (.nx (Γ.set i (some t)) μ1)
def sRet (g : De) : Ds := fun Γ μ => Ot.bindS (g Γ μ) Γ fun t μ1 => some (.rt t μ1)
def sRetN : Ds := fun _ μ => some (.rt (.v true .non) μ)
def sExp (g : De) : Ds := fun Γ μ => Ot.bindS (g Γ μ) Γ fun _ μ1 => some (.nx Γ μ1)
def sNil : Ds := fun Γ μ => some (.nx Γ μ)
def sBrk : Ds := fun Γ μ => some (.bk Γ μ)
def sCnt : Ds := fun Γ μ => some (.ct Γ μ)
def sSeq (a b : Ds) : Ds := fun Γ μ => match a Γ μ with
  | some (.nx Γ1 μ1) => b Γ1 μ1
  | r => r
def sIf (c : Db) (a b : Ds) : Ds := fun Γ μ => Ot.bindS (c Γ μ) Γ fun k μ1 => if k then a Γ μ1 else b Γ μ1
/-- a value to any target -/
def sAsg (g : De) (h : Dg) : Ds := fun Γ μ => Ot.bindS (g Γ μ) Γ fun t μ1 => match h (.one t) Γ μ1 with
  | some Γ1 => some (.nx Γ1 μ1)
  | none => none
variable {ex : Expr} {st : Stmt} {rest body orelse : List Stmt} {ge : De} {a b : Ds} {i j k : Nat} {x y z : Str} {gc : Db}
theorem set_owes {Q : L2.St → Hp → Prop} {rt : VK} {bk ct : L2.St → Hp → Prop} {σ : L2.St} {H : Hp} (h : tDS Z W (sSet i ge) { nx := Q, rt := rt, bk := bk, ct := ct } σ H) : tD Z W ge σ H fun v H1 => Q (σ.set i (some v)) H1 := by
  obtain ⟨p, μ, Γ, s, e, h⟩ := h
  obtain ⟨p', μ', Γ', s', e', h'⟩ := tD_bindS s e h
  refine ⟨p', μ', Γ', s', e', ?_⟩
  match hg : ge Γ' μ', h' with
  | some (.ok t μ1), h' =>
    intro v H' q hl hs hr
    obtain ⟨q1, μ2, t2, l1, s1, e1, r1, k1⟩ := h' v H' q hl hs hr
    exact k1 _ _ q1 (.refl _) s1 (e1.set r1 _)
  | some (.exc c t μ1), h' => exact h'
theorem xs_set {pos' : Pos} (hN : X.N.Nodup) (hi : X.N[i]? = some x) (hx : Loc X.env.scope x) (he : PE X ex (tD Z W ge)) (hs : swapsWith ex (some (.Name x pos')) pos.line X.env = pure false) (hf : X.fn x = true ∨ X.env.scope.names.lookup x = some .local) :
    PS X (.Assign [.Name x pos'] ex pos) (tDS Z W (sSet i ge)) :=
  ps_imp (ps_set hN hi hx he hs hf) fun D σ H h => set_owes h
theorem xs_setLc (live : Bool) {m0 : Nat} (hm : Z.ms0.length = m0) (hc : X.calm = true) (hN : X.N.Nodup) (hy : X.N[i]? = some y) (hyl : X.env.scope.names.lookup y = some .local)
    (hsw : swapsWith (.ListComp elt [⟨tg, iter, ifs, 0⟩] scope pos) (some (.Name y py)) spos.line X.env = pure true) (hi : PI X tg iter (tI Z W it)) (ok : BlkOk X.N X.env.scope scope own) (hj : ∀ i ∈ js, i ∈ own.map (·.2))
    (hg : ∀ (s : Shared) (H : Hp) (C : Addr) (cl : List (Str × Addr)) (fp : List Addr), PG (X.blk s H scope (compEnvC scope cl C X.env) fp) tg (tG Z js g)) (ht : ∀ (s : Shared) (H : Hp) (C : Addr) (cl : List (Str × Addr)) (fp : List Addr), PTs (X.blk s H scope (compEnvC scope cl C X.env) fp) ifs (tDB Z W0 c))
    (he : ∀ (s : Shared) (H : Hp) (C : Addr) (cl : List (Str × Addr)) (fp : List Addr), PE (X.blk s H scope (compEnvC scope cl C X.env) fp) elt (tD Z W0 e)) (hs : ∀ x, foldedSetIterable iter X.env x = pure x) :
    PS X (.Assign [.Name y py] (.ListComp elt [⟨tg, iter, ifs, 0⟩] scope pos) spos) (tDS Z W (sSet i (dLc live m0 it g c e (own.map (·.2))))) := by
  subst hm
  exact ps_imp (ps_setLc hc hN hy hyl hsw hi ok hg ht he hs) fun D σ H h => lc_owes hj (set_owes h)
theorem xs_ret (he : PE X ex (tD Z W ge)) : PS X (.Return (some ex) pos) (tDS Z W (sRet ge)) :=
  ps_imp (ps_ret he) fun D σ H ⟨p, μ, Γ, s, e, h⟩ => by
    obtain ⟨p', μ', Γ', s', e', h'⟩ := tD_bindS s e h
    refine ⟨p', μ', Γ', s', e', ?_⟩
    match hg : ge Γ' μ', h' with
    | some (.ok t μ1), h' =>
      intro v H' q hl hs hr
      obtain ⟨q1, μ2, t2, l1, s1, e1, r1, k1⟩ := h' v H' q hl hs hr
      exact k1 _ _ q1 (.refl _) s1 r1
    | some (.exc c t μ1), h' => exact h'
theorem xs_retN : PS X (.Return none pos) (tDS Z W sRetN) :=
  ps_imp ps_retN fun D σ H ⟨p, μ, Γ, s, e, h⟩ => h .non H p (.refl _) s (Dx.non : Dx Z.K Z.TB p.N _ _)
theorem xs_exp (he : PE X ex (tD Z W ge)) (hs : swapsWith ex none pos.line X.env = pure false) : PS X (.Expr ex pos) (tDS Z W (sExp ge)) :=
  ps_imp (ps_expr he hs) fun D σ H ⟨p, μ, Γ, s, e, h⟩ => by
    obtain ⟨p', μ', Γ', s', e', h'⟩ := tD_bindS s e h
    refine ⟨p', μ', Γ', s', e', ?_⟩
    match hg : ge Γ' μ', h' with
    | some (.ok t μ1), h' =>
      intro v H' q hl hs hr
      obtain ⟨q1, μ2, t2, l1, s1, e1, r1, k1⟩ := h' v H' q hl hs hr
      exact k1 _ _ q1 (.refl _) s1 e1
    | some (.exc c t μ1), h' => exact h'
theorem xs_pass : PS X (.Pass pos) (tDS Z W sNil) := ps_imp ps_pass fun D σ H ⟨p, μ, Γ, s, e, h⟩ => h σ H p (.refl _) s e
theorem xs_brk : PS X (.Break pos) (tDS Z W sBrk) := ps_imp ps_break fun D σ H ⟨p, μ, Γ, s, e, h⟩ => h σ H p (.refl _) s e
theorem xs_cnt : PS X (.Continue pos) (tDS Z W sCnt) := ps_imp ps_continue fun D σ H ⟨p, μ, Γ, s, e, h⟩ => h σ H p (.refl _) s e
theorem xss_nil : PSs X [] (tDS Z W sNil) := pss_imp pss_nil fun D σ H ⟨p, μ, Γ, s, e, h⟩ => h σ H p (.refl _) s e
theorem xss_cons (h1 : PS X st (tDS Z W a)) (h2 : PSs X rest (tDS Z W b)) : PSs X (st :: rest) (tDS Z W (sSeq a b)) :=
  pss_imp (pss_cons h1 h2) fun D σ H ⟨p, μ, Γ, s, e, h⟩ => by
    refine ⟨p, μ, Γ, s, e, ?_⟩
    unfold sSeq at h
    match hg : a Γ μ, h with
    | some (.nx Γ1 μ1), h => exact fun σ1 H1 q l s1 e1 => ⟨q, μ1, Γ1, s1, e1, PostS.le l h⟩
    | some (.rt _ _), h => exact h
    | some (.bk _ _), h => exact h
    | some (.ct _ _), h => exact h
    | some (.ex _ _ _ _), h => exact h
theorem xss_one (h1 : PS X st (tDS Z W a)) : PSs X [st] (tDS Z W a) := pss_one h1
theorem xs_if (hc : PT X ex (tDB Z W gc)) (ha : PSs X body (tDS Z W a)) (hb : PSs X orelse (tDS Z W b)) : PS X (.If ex body orelse pos) (tDS Z W (sIf gc a b)) :=
  ps_imp (ps_if hc ha hb) fun D σ H ⟨p, μ, Γ, s, e, h⟩ => by
    obtain ⟨p', μ', Γ', s', e', h'⟩ := tDB_bindS s e h
    refine ⟨p', μ', Γ', s', e', ?_⟩
    match hg : gc Γ' μ', h' with
    | some (.ok t μ1), h' =>
      intro H' q hl hs
      obtain ⟨q1, μ2, l1, s1, e1, k1⟩ := h' H' q hl hs
      cases t
      · exact ⟨q1, μ2, Γ, s1, e1, k1⟩
      · exact ⟨q1, μ2, Γ, s1, e1, k1⟩
    | some (.exc c t μ1), h' => exact h'
theorem xs_asg (he : PE X ex (tD Z W ge)) (hg : PG X tg (tG Z js g)) (hs : swapsWithSole [tg] ex pos.line X.env = pure false) (hw : swappedStores [tg] ex X.env = pure none) (h1 : (assignEach [tg] X.env).map (·.2) = [assign tg X.env]) :
    PS X (.Assign [tg] ex pos) (tDS Z W (sAsg ge g)) :=
  ps_imp (ps_asg he hg hs hw h1) fun D σ H ⟨p, μ, Γ, s, e, h⟩ => by
    obtain ⟨p', μ', Γ', s', e', h'⟩ := tD_bindS s e h
    refine ⟨p', μ', Γ', s', e', ?_⟩
    match hg : ge Γ' μ', h' with
    | some (.ok t μ1), h' =>
      intro v H' q hl hs hr
      obtain ⟨q1, μ2, t2, l1, s1, e1, r1, k1⟩ := h' v H' q hl hs hr
      split at k1
      · rename_i Γ1 hg1
        exact ⟨q1, μ2, Γ, Γ1, .one t2, s1, e1, r1, hg1, fun σ' e' _ _ => k1 _ _ q1 (.refl _) s1 e'⟩
      · exact k1.elim
    | some (.exc c t μ1), h' => exact h'
/-- a, b = x, y -/
def sPar (i j : Nat) (da : Da) : Ds := fun Γ μ => Ot.bindS (da Γ μ) Γ fun ts μ1 => match ts with
  | [t, u] => some (.nx ((Γ.set i (some t)).set j (some u)) μ1)
  | _ => none
variable {e1 e2 e3 : Expr} {da : Da} {px p2 p3 pt : Pos} {kt k2 : Nat} {pt2 : Pos}
theorem xs_par {kt k2 pt2} (hc : X.calm = true) (hN : X.N.Nodup) (hi : X.N[i]? = some x) (hj : X.N[j]? = some y) (hij : i ≠ j)
    (hx : X.env.scope.names.lookup x = some .local) (hy : X.env.scope.names.lookup y = some .local) (ha : PA X [e1, e2] (tDA Z W da))
    (hw : swappedStores [.Tuple [.Name x px, .Name y py] kt pt] (.Tuple [e1, e2] k2 pt2) X.env = pure (some [x, y]))
    (hs : swapsWithSole [.Tuple [.Name x px, .Name y py] kt pt] (.Tuple [e1, e2] k2 pt2) pos.line X.env = pure false) :
    PS X (.Assign [.Tuple [.Name x px, .Name y py] kt pt] (.Tuple [e1, e2] k2 pt2) pos) (tDS Z W (sPar i j da)) :=
  ps_imp (ps_par hc hN hi hj hij hx hy ha hw hs) fun D σ H ⟨p, μ, Γ, s, e, h⟩ => by
    obtain ⟨p', μ', Γ', s', e', h'⟩ := tDA_bindS s e h
    refine ⟨p', μ', Γ', s', e', ?_⟩
    match hg : da Γ' μ', h' with
    | some (.ok t μ1), h' =>
      intro v H' q hl hs hr
      obtain ⟨q1, μ2, t2, l1, s1, e1, r1, k1⟩ := h' v H' q hl hs hr
      split at k1
      · rename_i t u
        obtain ⟨w, w2, rfl, hw, hw2⟩ := r1.two
        exact ⟨w, w2, rfl, k1 _ _ q1 (.refl _) s1 ((e1.set hw _).set hw2 _)⟩
      · exact k1.elim
    | some (.exc c t μ1), h' => exact h'

/-! while -/
def whK (c : Db) (b : Ds) : Nat → Ds
  | 0, _, _ => none
  | n + 1, Γ, μ => Ot.bindS (c Γ μ) Γ fun k μ1 => if k then match b Γ μ1 with
    | some (.nx Γ2 μ2) => whK c b n Γ2 μ2
    | some (.ct Γ2 μ2) => whK c b n Γ2 μ2
    | some (.bk Γ2 μ2) => some (.nx Γ2 μ2)
    | r => r
    else some (.nx Γ μ1)
theorem whK_succ (c : Db) (b : Ds) : ∀ (n : Nat) (Γ : Gam) (μ : Mu) (r : Eo), whK c b n Γ μ = some r → whK c b (n + 1) Γ μ = some r
  | 0, _, _, _, h => by cases h
  | n + 1, Γ, μ, r, h => by
    simp only [whK] at h
    rw [whK]
    cases hc : c Γ μ with
    | none => rw [hc] at h; cases h
    | some rc =>
      rw [hc] at h
      cases rc with
      | exc _ _ _ => exact h
      | ok k μ1 =>
        dsimp only [Ot.bindS] at h ⊢
        cases k with
        | false => exact h
        | true =>
          simp only [if_true] at h ⊢
          cases hb : b Γ μ1 with
          | none => rw [hb] at h; cases h
          | some rb =>
            rw [hb] at h
            cases rb with
            | nx Γ2 μ2 => exact whK_succ c b n Γ2 μ2 r h
            | ct Γ2 μ2 => exact whK_succ c b n Γ2 μ2 r h
            | bk _ _ => exact h
            | rt _ _ => exact h
            | ex _ _ _ _ => exact h
theorem whK_le (c : Db) (b : Ds) {n m : Nat} (h : n ≤ m) {Γ : Gam} {μ : Mu} {r : Eo} (e : whK c b n Γ μ = some r) : whK c b m Γ μ = some r := by
  induction h with
  | refl => exact e
  | step _ ih => exact whK_succ c b _ _ _ _ ih
open Classical in
noncomputable def sWh (c : Db) (b : Ds) : Ds := fun Γ μ => if h : ∃ n r, whK c b n Γ μ = some r then some (Classical.choose (Classical.choose_spec h)) else none
theorem sWh_of {c : Db} {b : Ds} {n : Nat} {Γ : Gam} {μ : Mu} {r : Eo} (h : whK c b n Γ μ = some r) : sWh c b Γ μ = some r := by
  have h0 : ∃ n r, whK c b n Γ μ = some r := ⟨n, r, h⟩
  unfold sWh
  rw [dif_pos h0]
  have q := Classical.choose_spec (Classical.choose_spec h0)
  have q1 := whK_le c b (Nat.le_max_left (Classical.choose h0) n) q
  have q2 := whK_le c b (Nat.le_max_right (Classical.choose h0) n) h
  exact q1.symm.trans q2
theorem sWh_ex {c : Db} {b : Ds} {Γ : Gam} {μ : Mu} {r : Eo} (h : sWh c b Γ μ = some r) : ∃ n, whK c b n Γ μ = some r := by
  unfold sWh at h
  split at h
  · rename_i h0
    cases h
    exact ⟨_, Classical.choose_spec (Classical.choose_spec h0)⟩
  · cases h
theorem xs_wh (hp : PassesOwn (model X.prog X.w) X.A X.env X.xe) (hc : PT X ex (tDB Z W gc)) (hb : PSs X body (tDS Z W b)) : PS X (.While ex body [] pos) (tDS Z W (sWh gc b)) :=
  ps_imp (ps_while hp hc hb) fun D σ H ⟨p, μ, Γ, s, e, h⟩ => by
    obtain ⟨n, r, hn, hr⟩ : ∃ n r, whK gc b n Γ μ = some r ∧ PostS Z W D p (some r) := by
      cases hh : sWh gc b Γ μ with
      | none => rw [hh] at h; exact h.elim
      | some r =>
        obtain ⟨n, hn⟩ := sWh_ex hh
        exact ⟨n, r, hn, by rw [hh] at h; exact h⟩
    refine ⟨fun m σ H => ∃ (p : Pt) (μ : Mu) (Γ : Gam), SR Z p H μ ∧ ER Z p σ Γ ∧ PostS Z W D p (whK gc b m Γ μ), ⟨n, p, μ, Γ, s, e, by rw [hn]; exact hr⟩, ?_⟩
    rintro m σ H ⟨p, μ, Γ, s, e, h⟩
    cases m with
    | zero => exact h.elim
    | succ m =>
      simp only [whK] at h
      obtain ⟨p', μ', Γ', s', e', h'⟩ := tDB_bindS s e h
      refine ⟨p', μ', Γ', s', e', ?_⟩
      match hg : gc Γ' μ', h' with
      | some (.exc c t μ1), h' => exact h'
      | some (.ok t μ1), h' =>
        intro H' q hl hs
        obtain ⟨q1, μ2, l1, s1, e1, k1⟩ := h' H' q hl hs
        cases t with
        | false => exact k1 _ _ q1 (.refl _) s1 e1
        | true =>
          simp only [if_true] at k1 ⊢
          refine ⟨fun σ H => ∃ (p : Pt) (μ : Mu) (Γ : Gam), SR Z p H μ ∧ ER Z p σ Γ ∧ PostS Z W D p (whK gc b m Γ μ), fun σ' H' h => ⟨m, Nat.lt_succ_self _, h⟩, q1, μ2, Γ, s1, e1, ?_⟩
          match hb : b Γ μ2, k1 with
          | some (.nx Γ6 μ6), k1 => exact fun σ H q l s e => ⟨q, μ6, Γ6, s, e, PostS.le l k1⟩
          | some (.ct Γ6 μ6), k1 => exact fun σ H q l s e => ⟨q, μ6, Γ6, s, e, PostS.le l k1⟩
          | some (.bk Γ6 μ6), k1 => exact k1
          | some (.rt t6 μ6), k1 => exact k1
          | some (.ex Γ6 c6 t6 μ6), k1 => exact k1
end
end L3

set_option Elab.async false
set_option linter.all false
set_option maxRecDepth 100000
set_option maxHeartbeats 4000000
/-! L3, seventeenth part: defs and calls. -/
namespace L3
open PySem PySem.Spec PyProof.Rows L2

/-- what every rule of an expression may ask; k: how deep calls may go -/
structure Be (X : Cx) (Z : Ent) (W : Wish) (k : Nat) : Prop where
  hK : X.K = Z.K
  room : Room k X.A
  gd : X.A.guards = some []
  calm : X.calm = true
  nd : X.N.Nodup
  tk : Takes X W
structure Bs (X : Cx) (Z : Ent) (W : Wish) (k : Nat) : Prop extends Be X Z W k where
  own : PassesOwn (model X.prog X.w) X.A X.env X.xe
section
variable {X : Cx} {Z : Ent} {W : Wish} {k : Nat}
theorem Be.hu (b : Be X Z W k) : X.A.units + 65 < cLine := by
  have := b.room.un
  omega
theorem Be.blk (b : Be X Z W k) (s : Shared) (H : Hp) (scope : Scope) (C : Addr) (cl : List (Str × Addr)) (fp : List Addr) : Be (X.blk s H scope (compEnvC scope cl C X.env) fp) Z W0 k :=
  ⟨b.hK, b.room, b.gd, b.calm, b.nd, fun u s' ⟨_, _, _, _, _, _, _, _, _, _, _, _, _, _, _, _, w⟩ => w.elim⟩
end

/-! a def -/
/-- what of the cells goes back: nothing but the ones handed in, or one more -/
def retV (m0 : Nat) (t : T) (μ : Mu) : T × Mu := if (μ.take m0).all (Cell.low m0) then
    if t.low m0 then (t, μ.take m0) else match t with
      | .m j => match μ[j]? with
        | some c => if m0 ≤ j ∧ c.low m0 = true then (.m m0, μ.take m0 ++ [c]) else (t, μ)
        | none => (t, μ)
      | .v _ _ => (t, μ)
  else (t, μ)
def retD (m0 : Nat) : Option Eo → Ot T
  | some (.nx _ μ) => some (.ok (retV m0 (.v true .non) μ).1 (retV m0 (.v true .non) μ).2)
  | some (.rt t μ) => some (.ok (retV m0 t μ).1 (retV m0 t μ).2)
  | some (.ex _ c t μ) => some (.exc c (retV m0 t μ).1 (retV m0 t μ).2)
  | _ => none
def startG (n nN : Nat) (ts : List T) : Gam := ts.map some ++ List.replicate (nN - n) none
def defD (n nN : Nat) (g : Nat → Ds) (ts : List T) (μ : Mu) : Ot T := retD μ.length (g μ.length (startG n nN ts) μ)
section
variable {Z : Ent} {p q : Pt} {H : Hp} {μ : Mu}
theorem SR.keep1 (s : SR Z q H μ) {k j : Nat} {a : Addr} {c : Cell} (h0 : Z.ms0.length ≤ k) (hk : k ≤ j) (hl : (μ.take k).all (Cell.low k) = true) (hj : q.ms[j]? = some a) (hc : μ[j]? = some c) (hlow : c.low k = true) :
    SR Z ((q.cut k).push a) H (μ.take k ++ [c]) := by
  have sc := s.cut h0 hl
  have hjl : j < q.ms.length := (List.getElem?_eq_some_iff.mp hj).1
  have hkl : (q.cut k).ms.length = k := by
    show (q.ms.take k).length = k
    rw [List.length_take]; omega
  refine ⟨s.sub, s.nin, s.fr, s.org, s.keep, s.dom, sc.pre.trans (List.prefix_append _ _), ?_, ?_, fun i b d hi hd hv => ?_, fun b hb => ?_, fun i b hi h1 => ?_, fun i b d hi hd => ?_⟩
  · show (q.ms.take k ++ [a]).Nodup
    rw [List.nodup_append]
    refine ⟨sc.nd, by simp, fun b hb c' hc' => ?_⟩
    have : c' = a := by simpa using hc'
    subst this
    intro z
    subst z
    obtain ⟨i, hi⟩ := List.getElem?_of_mem hb
    have hik : i < k := by
      have := (List.getElem?_eq_some_iff.mp hi).1
      rw [List.length_take] at this
      omega
    rw [List.getElem?_take_of_lt hik] at hi
    have := nd_ix s.nd hi hj
    omega
  · show (q.ms.take k ++ [a]).length = (μ.take k ++ [c]).length
    have := sc.len
    rw [List.length_append, List.length_append]
    have h2 : (q.ms.take k).length = (μ.take k).length := this
    rw [h2]
    rfl
  · rcases get_snoc hi with ⟨h1, h2⟩ | ⟨h1, h2⟩
    · rw [List.getElem?_append_left (by rw [← sc.len]; exact h1)] at hd
      exact sc.nof i b d h2 hd hv
    · subst h2
      rw [h1, sc.len, List.getElem?_append_right (Nat.le_refl _), Nat.sub_self] at hd
      have : d = c := by simpa using hd.symm
      subst this
      exact s.nof j b d hj hc hv
  · rcases List.mem_append.mp (show b ∈ q.ms.take k ++ [a] from hb) with hb | hb
    · exact sc.trk b hb
    · have : b = a := by simpa using hb
      subst this
      exact s.trk b (List.mem_of_getElem? hj)
  · rcases get_snoc hi with ⟨h2, h3⟩ | ⟨h2, h3⟩
    · exact sc.new i b h3 h1
    · subst h3
      exact s.new j b hj (Nat.le_trans h0 hk)
  · rcases get_snoc hi with ⟨h1, h2⟩ | ⟨h1, h2⟩
    · rw [List.getElem?_append_left (by rw [← sc.len]; exact h1)] at hd
      exact Cell.mono Pt.push_le rfl (sc.cell i b d h2 hd)
    · subst h2
      rw [h1, sc.len, List.getElem?_append_right (Nat.le_refl _), Nat.sub_self] at hd
      have : d = c := by simpa using hd.symm
      subst this
      exact Cell.mono Pt.push_le rfl ((s.cell j b d hj hc).low hlow)
theorem retV_ok (s : SR Z q H μ) {t : T} {v : V} (l : p.Le q) (hp : p.ms.length = Z.ms0.length) (r : RT Z q v t) : ∃ r', p.Le r' ∧ SR Z r' H (retV Z.ms0.length t μ).2 ∧ RT Z r' v (retV Z.ms0.length t μ).1 ∧ r'.N = q.N := by
  unfold retV
  have lc : p.Le (q.cut Z.ms0.length) := s.cut_le l (Nat.le_of_eq hp)
  split
  · rename_i hl
    split
    · rename_i h
      exact ⟨_, lc, s.cut (Nat.le_refl _) hl, r.low h, rfl⟩
    · split
      · rename_i j hnl
        obtain ⟨a, hj, hv⟩ := r
        split
        · rename_i c hc
          split
          · rename_i h
            refine ⟨_, lc.trans Pt.push_le, s.keep1 (Nat.le_refl _) h.1 hl hj hc h.2, ⟨a, ?_, hv⟩, rfl⟩
            show (q.ms.take Z.ms0.length ++ [a])[Z.ms0.length]? = some a
            have hjl : j < q.ms.length := (List.getElem?_eq_some_iff.mp hj).1
            have : (q.ms.take Z.ms0.length).length = Z.ms0.length := by rw [List.length_take]; omega
            rw [List.getElem?_append_right (by omega), this, Nat.sub_self]
            rfl
          · exact ⟨q, l, s, ⟨a, hj, hv⟩, rfl⟩
        · exact ⟨q, l, s, ⟨a, hj, hv⟩, rfl⟩
      · exact ⟨q, l, s, r, rfl⟩
  · exact ⟨q, l, s, r, rfl⟩
theorem start_er : ∀ {vs : List V} {ts : List T}, RTs Z p vs ts → ∀ N : List Str, ER Z p (L2.start N vs) (startG ts.length N.length ts) := fun {vs ts} r N => by
  have hl := r.length
  refine ⟨by unfold L2.start startG; simp [hl], fun i t h => ?_⟩
  unfold startG at h
  unfold L2.start
  by_cases hi : i < ts.length
  · rw [List.getElem?_append_left (by rw [List.length_map]; exact hi), List.getElem?_map] at h
    cases ht : ts[i]? with
    | none => rw [ht] at h; cases h
    | some t' =>
      rw [ht] at h
      cases h
      obtain ⟨v, h1, h2⟩ := r.get ht
      exact ⟨v, by rw [List.getElem?_append_left (by rw [List.length_map, hl]; exact hi), List.getElem?_map, h1]; rfl, h2⟩
  · rw [List.getElem?_append_right (by rw [List.length_map]; omega)] at h
    have := List.mem_of_getElem? h
    rw [List.mem_replicate] at this
    cases this.2
end
/-- the wish of a def's body -/
abbrev WD (E : XK) : Wish := fun c d _ H' => E c d H'
theorem fnD {P : Program} {w : World} {K : PySem.W.Frag} {TB : Tab} {mg : Str → Option Value} {base : Heap} {k : Nat} {x qual : Str} {st : Stmt} {f : Addr} {fd : FuncData} {N ps : List Str} {g : Nat → Ds}
    (F : Fun K x qual st f fd) (S : FnScope N ps (defScope st))
    (hbody : ∀ (cdv : Value) (A : Around) (outer : List Env) (s : Shared) (H : Hp) (E : XK) (Z : Ent), Z.K = K → Z.TB = TB → Bs (cxOf (L2.CX P w) P w K mg base N qual (defScope st) f cdv A outer s H E) Z (WD E) k →
      PSs (cxOf (L2.CX P w) P w K mg base N qual (defScope st) f cdv A outer s H E) (defBody st) (tDS Z (WD E) (g Z.ms0.length))) :
    FnG P w K mg base (k + 1) f fd ps (spD K TB (defD ps.length N.length g) ps.length) := by
  refine fnG_of F S (fun vs H Q E h => h.1) fun cdv A outer s H vs Q E hr hgd h => ?_
  obtain ⟨hl, F0, ms, μ, ts, sr, rt, post⟩ := h
  have hms : ms.length = μ.length := sr.len
  have htl : ts.length = ps.length := by rw [← rt.length]; exact hl
  let X := cxOf (L2.CX P w) P w K mg base N qual (defScope st) f cdv A outer s H E
  have hbs : Bs X ⟨K, TB, H, F0, ms⟩ (WD E) k := {
    hK := rfl
    room := hr
    gd := by
      show (A.deeper _).guards = some []
      exact hgd
    calm := rfl
    nd := S.nd
    tk := takes_of (X := X) rfl rfl rfl rfl
    own := passes_of (X := X) (K := fun e s'' => L2.CX P w outer H s E e s'') (E₁ := fun e' s'' => L2.CX P w outer H s E e' s'') rfl }
  refine ⟨_, hbody cdv A outer s H E ⟨K, TB, H, F0, ms⟩ rfl rfl hbs, ⟨F0, noHp, ms⟩, μ, _, sr, start_er rt N, ?_⟩
  unfold defD at post
  rw [htl]
  show PostS _ _ _ _ (g ms.length _ μ)
  rw [hms]
  match hg : g μ.length (startG ps.length N.length ts) μ, post with
  | some (.nx Γ μ1), post =>
    intro σ' H' q l s' e'
    obtain ⟨r', l', s2, r2, rN⟩ := retV_ok (t := .v true .non) (v := .non) s' l rfl (Dx.non : Dx K TB q.N _ _)
    have post : Post _ _ _ _ _ (some (.ok (retV μ.length (.v true .non) μ1).1 (retV μ.length (.v true .non) μ1).2)) := post
    rw [← hms] at post
    exact post _ _ r' l' s2 r2
  | some (.rt t μ1), post =>
    intro v H' q l s' rv
    obtain ⟨r', l', s2, r2, rN⟩ := retV_ok s' l rfl rv
    have post : Post _ _ _ _ _ (some (.ok (retV μ.length t μ1).1 (retV μ.length t μ1).2)) := post
    rw [← hms] at post
    exact post _ _ r' l' s2 r2
  | some (.ex Γ c t μ1), post =>
    intro σ' q l e' C v dx H' q2 hC l2 s' h0 hd rv
    obtain ⟨r', l', s2, r2, rN⟩ := retV_ok s' (l.trans l2) rfl rv
    have post : Post _ _ _ _ _ (some (.exc c (retV μ.length t μ1).1 (retV μ.length t μ1).2)) := post
    rw [← hms] at post
    exact post C v dx H' r' hC l' s2 h0 (by rw [rN]; exact hd) r2
  | some (.bk _ _), post => exact post.elim
  | some (.ct _ _), post => exact post.elim
  | none, post => exact post.elim
end L3

set_option Elab.async false
set_option linter.all false
set_option maxRecDepth 100000
set_option maxHeartbeats 4000000
/-! L3, eighteenth part: calls. -/
namespace L3
open PySem PySem.Spec PyProof.Rows L2

def dCall (g : List T → Mu → Ot T) (n : Nat) (live : Bool) (rf : List Bool) (da : Da) : De := fun Γ μ => Ot.bind (da Γ μ) fun ts μ1 => if ts.length = n then callD g live rf ts μ1 else none
section
variable {X : Cx} {Z : Ent} {W : Wish} {k n : Nat} {f C : Addr} {fd : FuncData} {ps ks : List Str} {g : List T → Mu → Ot T} {x m : Str} {p pos apos nm : Pos} {e o : Expr} {es : List Expr} {kws : List Keyword} {da dk : Da} {go : De}
/-- the callee runs, by the reading -/
theorem run_call {live : Bool} {rf : List Bool} {pins : List (Addr × Obj)} {σ : L2.St} {H : Hp} {s : Shared} {Q : VK} {us us' : List Value} {kw : List (Str × Value)} {vs : List V} {q : Pt} {μ : Mu} {ts : List T} (B : Be X Z W k)
    (F : FnG X.prog X.w X.K X.mg X.base k f fd ps (spD X.K Z.TB g n)) (hb : BindsTo s fd ⟨us', kw⟩ (ps.zip us)) (I : Inv X pins σ H s) (r : Vals vs us)
    (sr : SR Z q H μ) (rt : RTs Z q vs ts) (h : Post Z W σ Q q (if ts.length = n then callD g live rf ts μ else none)) :
    wpAny (model X.prog X.w) X.A (PySem.call (.ref f) us' kw) (EP X pins σ Q) X.xe s := by
  split at h
  · rename_i hn
    have ow := call_owes sr rt h
    rw [rt.length, hn] at ow
    rw [← B.hK] at ow
    exact runG F B.room B.gd hb (passAt B.tk σ) I r ow
  · exact h.elim
theorem xe_call (live : Bool) (rf : List Bool) (B : Be X Z W k) (F : FnG X.prog X.w X.K X.mg X.base k f fd ps (spD X.K Z.TB g n)) (hg : Gl X x) (hm : X.mg x = some (.ref f)) (hk : PySem.W.keepIn X.K (.ref f) = true) (hb : Binds X.K fd ps [])
    (ha : PA X (e :: es) (tDA Z W da)) (hdb : (x == ("__debug__" : Str)) = false) (he : starEach (e :: es) X.env = (false, eval e X.env) :: starEach es X.env) (hpl : (backTo pos (starEach es X.env)).any (·.1) = false) (hps : ps.length = n) :
    PE X (.Call (.Name x p) (e :: es) [] pos) (tD Z W (dCall g n live rf da)) := by
  refine ⟨fun pins s σ H Q I h => ?_⟩
  obtain ⟨p0, μ, Γ, s0, e0, h⟩ := h
  refine wpAny_Call_Name_kw (ld_glob I hg hm ?_ hdb)
  refine PySem.W.callWith_K (h₀ := X.base) I.ok.mod.kin hk (thn (ha.run pos pins s σ H _ I (tDA_bind s0 e0 h)) fun us s1 ⟨vs, H1, I1, r, q, μ1, ts, l1, s2, e2, rt, po⟩ => ⟨I1.kIn, ?_⟩) he hpl
  by_cases hn : ts.length = n
  · have hl : (us ++ []).length = ps.length := by rw [List.append_nil, ← r.length, rt.length, hn, hps]
    have hbb := hb s1 us I1.kIn hl
    rw [List.append_nil] at hbb
    exact run_call B F hbb I1 r s2 rt po
  · rw [if_neg hn] at po
    exact po.elim
theorem xe_call0 (live : Bool) (rf : List Bool) (B : Be X Z W k) (F : FnG X.prog X.w X.K X.mg X.base k f fd ps (spD X.K Z.TB g n)) (hg : Gl X x) (hm : X.mg x = some (.ref f)) (hk : PySem.W.keepIn X.K (.ref f) = true) (hb : Binds X.K fd ps [])
    (hdb : (x == ("__debug__" : Str)) = false) (hps : ps.length = 0) : PE X (.Call (.Name x p) [] [] pos) (tD Z W (dCall g n live rf aNil)) := by
  refine ⟨fun pins s σ H Q I h => ?_⟩
  obtain ⟨p0, μ, Γ, s0, e0, h⟩ := h
  refine wpAny_Call_Name_kw (ld_glob I hg hm ?_ hdb)
  have hbb := hb s [] I.kIn (by rw [hps]; rfl)
  exact PySem.W.callWith_K0 I.kIn hk (run_call (ts := []) B F hbb I .nil s0 .nil h)

/-! keywords -/
def pick {α : Type} (pm : List Nat) (l : List α) : List α := pm.filterMap fun i => l[i]?
def KB (K : PySem.W.Frag) (fd : FuncData) (ps ks : List Str) (n : Nat) (pm : List Nat) : Prop :=
  ∀ (s : Shared) (us ws : List Value), K.In s.heap → us.length = n → ws.length = ks.length → BindsTo s fd ⟨us, ks.zip ws⟩ (ps.zip (us ++ pick pm ws))
theorem RTs.pick {q : Pt} {vs : List V} {ts : List T} (r : RTs Z q vs ts) : ∀ pm : List Nat, RTs Z q (L3.pick pm vs) (L3.pick pm ts)
  | [] => .nil
  | i :: pm => by
    unfold L3.pick
    rw [List.filterMap_cons, List.filterMap_cons]
    cases ht : ts[i]? with
    | none =>
      have : vs[i]? = none := by
        rw [List.getElem?_eq_none_iff] at ht ⊢
        rw [r.length]; exact ht
      rw [this]
      exact RTs.pick r pm
    | some t =>
      obtain ⟨v, h1, h2⟩ := r.get ht
      rw [h1]
      exact .cons h2 (RTs.pick r pm)
theorem Vals.pick {vs : List V} {us : List Value} (r : Vals vs us) : ∀ pm : List Nat, Vals (L3.pick pm vs) (L3.pick pm us)
  | [] => .nil
  | i :: pm => by
    unfold L3.pick
    rw [List.filterMap_cons, List.filterMap_cons]
    cases hv : vs[i]? with
    | none =>
      have : us[i]? = none := by
        rw [List.getElem?_eq_none_iff] at hv ⊢
        rw [← r.length]; exact hv
      rw [this]
      exact Vals.pick r pm
    | some v =>
      obtain ⟨u, h1, h2⟩ := r.get hv
      rw [h1]
      exact .cons h2 (Vals.pick r pm)
/-- keywords alone -/
def dCallK (g : List T → Mu → Ot T) (n : Nat) (live : Bool) (rf : List Bool) (pm : List Nat) (nk : Nat) (dk : Da) : De := fun Γ μ => Ot.bind (dk Γ μ) fun ts μ1 => if ts.length = nk then if (pick pm ts).length = n then callD g live rf (pick pm ts) μ1 else none else none
theorem xk_nil : PK X [] (tDA Z W aNil) := ⟨fun pos pins s σ H Q I ⟨p, μ, Γ, sr, er, h⟩ => (pk_nil (X := X)).run pos pins s σ H Q I (h [] H p (.refl p) sr .nil)⟩
theorem xk_cons {kn : Option Str} {kpos : Pos} {ga : De} (ha : PE X e (tD Z W ga)) (hr : PK X kws (tDA Z W dk)) : PK X (⟨kn, e, kpos⟩ :: kws) (tDA Z W (aCons ga dk)) :=
  ⟨fun pos pins s σ H Q I ⟨p, μ, Γ, sr, er, h⟩ => (pk_cons (nm := kn) (kpos := kpos) ha hr).run pos pins s σ H Q I (by
    obtain ⟨p', μ', Γ', s', e', h'⟩ := tD_bindA sr er h
    refine ⟨p', μ', Γ', s', e', ?_⟩
    match hg : ga Γ' μ', h' with
    | some (.ok t μ1), h' =>
      intro v H' q hl hs hr
      obtain ⟨q1, μ2, t2, l1, s1, e1, r1, k1⟩ := h' v H' q hl hs hr
      obtain ⟨p3, μ3, Γ3, s3, e3, h3⟩ := tDA_bindA s1 e1 k1
      refine ⟨p3, μ3, Γ3, s3, e3, ?_⟩
      match hg3 : dk Γ3 μ3, h3 with
      | some (.ok t4 μ4), h3 =>
        intro v4 H4 q4 hl4 hs4 hr4
        obtain ⟨q5, μ5, t5, l5, s5, e5, r5, k5⟩ := h3 v4 H4 q4 hl4 hs4 hr4
        exact k5 _ _ q5 (.refl _) s5 (.cons (r1.mono l5) r5)
      | some (.exc c4 t4 μ4), h3 => exact h3
    | some (.exc c t μ1), h' => exact h')⟩
theorem xe_callK (live : Bool) (rf : List Bool) {pm : List Nat} (B : Be X Z W k) (F : FnG X.prog X.w X.K X.mg X.base k f fd ps (spD X.K Z.TB g n)) (hg : Gl X x) (hm : X.mg x = some (.ref f)) (hk : PySem.W.keepIn X.K (.ref f) = true) (hb : KB X.K fd ps ks 0 pm)
    (hkw : PK X kws (tDA Z W dk)) (hall : (backToKw pos (keywordEach kws X.env)).all (·.1.isSome) = true) (hks : (backToKw pos (keywordEach kws X.env)).filterMap (·.1) = ks) (hdb : (x == ("__debug__" : Str)) = false)
    (hpl : ((backTo pos (starEach [] X.env)).any (·.1) || (backToKw pos (keywordEach kws X.env)).any (·.1.isNone)) = false) :
    PE X (.Call (.Name x p) [] kws pos) (tD Z W (dCallK g n live rf pm ks.length dk)) := by
  refine ⟨fun pins s σ H Q I h => ?_⟩
  obtain ⟨p0, μ, Γ, s0, e0, h⟩ := h
  refine wpAny_Call_Name_kw (ld_glob I hg hm ?_ hdb)
  refine PySem.W.callWith_KW0 (h₀ := X.base) I.ok.mod.kin hk hall ?_ hpl
  refine thn (hkw.run pos pins s σ H _ I (tDA_bind s0 e0 h)) fun us s1 ⟨vs, H1, I1, r, q, μ1, ts, l1, s2, e2, rt, po⟩ => ⟨I1.kIn, ?_⟩
  rw [hks]
  split at po
  · rename_i hl
    have hbb := hb s1 [] us I1.kIn rfl (by rw [← r.length, rt.length, hl])
    exact run_call B F hbb I1 (Vals.pick r pm) s2 (rt.pick pm) po
  · exact po.elim

/-! methods and properties -/
/-- the class of an object, and what it holds -/
def objOf (μ : Mu) : T → Option (Nat × List T)
  | .v f (.obj c ds) => some (c, ds.map (mkT f))
  | .v _ _ => none
  | .m j => match μ[j]? with
    | some (.obj c ts) => some (c, ts)
    | some (.frz f (.obj c ds)) => some (c, ds.map (mkT f))
    | _ => none
theorem objv_ok {q : Pt} {μ : Mu} {H : Hp} {v : V} {fl : Bool} {c : Nat} {ds : List D} (s : SR Z q H μ) (r : RT Z q v (.v fl (.obj c ds))) :
    ∃ a C dx fs names, v = .ref a ∧ H a = some (.ins C dx fs) ∧ Z.TB.cls c = some (C, names) ∧ fs.map Prod.fst = names.take (ds.map (mkT fl)).length ∧ RTs Z q (fs.map Prod.snd) (ds.map (mkT fl)) := by
  have r' : Dx Z.K Z.TB (if fl then q.N else q.F) v (.obj c ds) := by cases fl <;> exact r
  cases r' with
  | obj ha hc hd =>
    rename_i a C dx fs
    have hH : H a = some (.ins C dx fs) := by
      cases fl
      · exact s.sub _ _ ha
      · exact s.sub _ _ (s.nin _ _ ha)
    refine ⟨a, C, dx, fs, _, rfl, hH, hc, ?_, RTs.of_all hd⟩
    have hl := hd.length
    rw [List.length_map] at hl
    rw [List.length_map, ← hl]
    exact (List.take_of_length_le (by simp)).symm
theorem obj_ok {q : Pt} {μ : Mu} {H : Hp} {v : V} {t : T} {c : Nat} {ts : List T} (s : SR Z q H μ) (r : RT Z q v t) (h : objOf μ t = some (c, ts)) :
    ∃ a C dx fs names, v = .ref a ∧ H a = some (.ins C dx fs) ∧ Z.TB.cls c = some (C, names) ∧ fs.map Prod.fst = names.take ts.length ∧ RTs Z q (fs.map Prod.snd) ts := by
  match t, r, h with
  | .v fl d, r, h =>
    cases d with
    | obj c' ds => cases h; exact objv_ok s r
    | _ => cases h
  | .m j, ⟨a, h1, h2⟩, h =>
    subst h2
    simp only [objOf] at h
    cases hc : μ[j]? with
    | none => rw [hc] at h; cases h
    | some cc =>
      rw [hc] at h
      have q1 := s.cell j a cc h1 hc
      cases cc with
      | obj c' ts' =>
        cases h
        obtain ⟨C, dx, fs, names, k1, k2, k3, k4⟩ := q1
        exact ⟨a, C, dx, fs, names, rfl, k1, k2, k3, k4⟩
      | frz fl d =>
        cases d with
        | obj c' ds => cases h; exact objv_ok s q1
        | _ => cases h
      | lst _ => cases h
      | dT _ _ => cases h
      | dK _ _ => cases h
      | hid => cases h
      | tup _ => cases h
theorem lookup_none {f : Str} : ∀ {fs : List (Str × V)}, f ∉ fs.map Prod.fst → fs.lookup f = none
  | [], _ => rfl
  | (g, v) :: fs, h => by
    rw [List.lookup_cons]
    have h1 : ¬ f = g := fun z => h (by rw [z]; exact List.mem_cons_self)
    rw [show (f == g) = false from beq_eq_false_iff_ne.mpr h1]
    exact lookup_none fun z => h (List.mem_cons_of_mem _ z)
theorem lookup_at {f : Str} : ∀ {fs : List (Str × V)} {i : Nat} {v : V}, (fs.map Prod.fst).Nodup → (fs.map Prod.fst)[i]? = some f → (fs.map Prod.snd)[i]? = some v → fs.lookup f = some v
  | [], _, _, _, h, _ => by simp at h
  | (g, w) :: fs, 0, v, _, h1, h2 => by
    simp at h1 h2
    subst h1 h2
    rw [List.lookup_cons, show (g == g) = true from beq_self_eq_true g]
  | (g, w) :: fs, i + 1, v, nd, h1, h2 => by
    have h1' : (fs.map Prod.fst)[i]? = some f := by simpa using h1
    have h2' : (fs.map Prod.snd)[i]? = some v := by simpa using h2
    have nd' := List.nodup_cons.mp (show (g :: fs.map Prod.fst).Nodup from nd)
    rw [List.lookup_cons]
    have : ¬ f = g := fun z => nd'.1 (by rw [← z]; exact List.mem_of_getElem? h1')
    rw [show (f == g) = false from beq_eq_false_iff_ne.mpr this]
    exact lookup_at nd'.2 h1' h2'
/-- e.f, the i-th attribute of the class c -/
def fldV (c i : Nat) (μ : Mu) (t : T) : Vt := match objOf μ t with
  | some (c', ts) => if c' = c then ts[i]?.map fun u => (u, μ) else none
  | none => none
theorem xe_fld {i c : Nat} {names : List Str} (hK : X.K = Z.K) (hC : Z.TB.cls c = some (C, names)) (hn : names[i]? = some x) (nd : names.Nodup) (cl : Cls X.K C) (na : NoAttr X.K C x) (he : PE X e (tD Z W go)) (hb : attributeBase e x X.env (eval e X.env) = eval e X.env) :
    PE X (.Attribute e x pos) (tD Z W (d1 (fldV c i) go)) :=
  pe_imp (pe_fld he hb) fun σ H Q h => by
    obtain ⟨p', μ', Γ', s', e', h'⟩ := one h
    refine ⟨p', μ', Γ', s', e', ?_⟩
    match hg : go Γ' μ', h' with
    | some (.exc c t μ1), h' => exact h'
    | some (.ok t μ1), h' =>
      intro v H' q hl hs hr
      obtain ⟨q1, μ2, t2, s1, r1, k1⟩ := h' v H' q hl hs hr
      unfold fldV at k1
      split at k1
      · rename_i c' ts ho
        split at k1
        · rename_i hc
          subst hc
          obtain ⟨a, C', dx, fs, names', rfl, h1, h2, h3, h4⟩ := obj_ok s1 r1 ho
          rw [hC] at h2
          cases h2
          cases ht : ts[i]? with
          | none => rw [ht] at k1; exact k1.elim
          | some u =>
            rw [ht] at k1
            obtain ⟨w, w1, w2⟩ := h4.get ht
            have hi : i < ts.length := (List.getElem?_eq_some_iff.mp ht).1
            refine ⟨a, C, dx, fs, w, rfl, h1, cl, na, lookup_at (i := i) ?_ ?_ w1, k1 _ _ q1 (.refl _) s1 w2⟩
            · rw [h3]; exact nd.sublist (List.take_sublist _ _)
            · rw [h3, List.getElem?_take_of_lt hi]; exact hn
        · exact k1.elim
      · exact k1.elim
/-- o.m(e, ..) -/
def dMeth (g : List T → Mu → Ot T) (n c : Nat) (live : Bool) (rf : List Bool) (go : De) (da : Da) : De := fun Γ μ => Ot.bind (go Γ μ) fun t μ1 => match objOf μ1 t with
  | some (c', _) => if c' = c then Ot.bind (da Γ μ1) fun ts μ2 => if (t :: ts).length = n then callD g live rf (t :: ts) μ2 else none else none
  | none => none
theorem meth_at {c : Nat} {names : List Str} {σ : L2.St} {H : Hp} {q : Pt} {μ : Mu} {v : V} {t : T} {Q : VK} {r : Ot T} (hC : Z.TB.cls c = some (C, names)) (hn : x ∉ names) (s : SR Z q H μ) (rt : RT Z q v t)
    (h : Post Z W σ Q q (match objOf μ t with | some (c', _) => if c' = c then r else none | none => none)) : (∃ a dx fs, v = .ref a ∧ H a = some (.ins C dx fs) ∧ fs.lookup x = none) ∧ Post Z W σ Q q r := by
  split at h
  · rename_i c' ts ho
    split at h
    · rename_i hc
      subst hc
      obtain ⟨a, C', dx, fs, names', rfl, h1, h2, h3, h4⟩ := obj_ok s rt ho
      rw [hC] at h2
      cases h2
      exact ⟨⟨a, dx, fs, rfl, h1, lookup_none fun z => hn (by rw [h3] at z; exact List.mem_of_mem_take z)⟩, h⟩
    · exact h.elim
  · exact h.elim
theorem xe_meth (live : Bool) (rf : List Bool) {c : Nat} {names : List Str} {pl : Sem Bool} (B : Be X Z W k) (he : PE X o (tD Z W go)) (hC : Z.TB.cls c = some (C, names)) (hn : x ∉ names) (cl : Cls X.K C) (hm : Meth X.K C x f)
    (F : FnG X.prog X.w X.K X.mg X.base k f fd ps (spD X.K Z.TB g n)) (hb : Binds X.K fd ps []) (ha : PA X (e :: es) (tDA Z W da)) (hst : starEach (e :: es) X.env = (false, eval e X.env) :: starEach es X.env) (hpl : (backTo pos (starEach es X.env)).any (·.1) = false) (hps : ps.length = n)
    (ht : eval (.Call (.Attribute o x apos) (e :: es) [] pos) X.env = (do
      let ov ← eval o X.env
      standAt apos.atName
      let (f, first) ← holding [ov] (getMethod ov x pl)
      callWith pos f first (backTo pos (starEach (e :: es) X.env)) (backToKw pos (keywordEach [] X.env)))) :
    PE X (.Call (.Attribute o x apos) (e :: es) [] pos) (tD Z W (dMeth g n c live rf go da)) := by
  refine ⟨fun pins s σ H Q I h => ?_⟩
  obtain ⟨p0, μ, Γ, s0, e0, h⟩ := h
  refine PySem.W.methodCall_KW (pl := pl) (thn (he.run pins s σ H _ I (tD_bind s0 e0 h)) fun u s1 ⟨xv, H1, I1, rx, q, μ1, t, l1, s2, e2, rt, po⟩ => ?_) ht
  obtain ⟨⟨a, dx, fs, rfl, ea, l⟩, po⟩ := meth_at hC hn s2 rt po
  obtain rfl : u = Value.ref a := rx
  refine getmeth_ok I1 ea cl hm l ?_
  refine PySem.W.callWith_K (first := [.ref a]) (h₀ := X.base) I.ok.mod.kin hm.kp (thn (ha.run pos pins s1 σ H1 _ I1 (tDA_bind s2 e2 po)) fun us s3 ⟨vs, H3, I3, r3, q3, μ3, ts, l3, s4, e4, rt3, po3⟩ => ⟨I3.kIn, ?_⟩) hst hpl
  by_cases hlen : (t :: ts).length = n
  · have r4 : Vals (V.ref a :: vs) (Value.ref a :: us) := .cons rfl r3
    have hl : (Value.ref a :: us ++ []).length = ps.length := by
      rw [List.append_nil, ← r4.length, hps, ← hlen]
      exact congrArg Nat.succ rt3.length
    have hbb := hb s3 (Value.ref a :: us) I3.kIn hl
    rw [List.append_nil] at hbb
    exact run_call (vs := .ref a :: vs) (ts := t :: ts) B F hbb I3 r4 s4 (.cons (rt.mono l3) rt3) po3
  · rw [if_neg hlen] at po3
    exact po3.elim
theorem xe_meth0 (live : Bool) (rf : List Bool) {c : Nat} {names : List Str} {pl : Sem Bool} (B : Be X Z W k) (he : PE X o (tD Z W go)) (hC : Z.TB.cls c = some (C, names)) (hn : x ∉ names) (cl : Cls X.K C) (hm : Meth X.K C x f)
    (F : FnG X.prog X.w X.K X.mg X.base k f fd ps (spD X.K Z.TB g n)) (hb : Binds X.K fd ps []) (hps : ps.length = 1)
    (ht : eval (.Call (.Attribute o x apos) [] [] pos) X.env = (do
      let ov ← eval o X.env
      standAt apos.atName
      let (f, first) ← holding [ov] (getMethod ov x pl)
      callWith pos f first (backTo pos (starEach [] X.env)) (backToKw pos (keywordEach [] X.env)))) :
    PE X (.Call (.Attribute o x apos) [] [] pos) (tD Z W (dMeth g n c live rf go aNil)) := by
  refine ⟨fun pins s σ H Q I h => ?_⟩
  obtain ⟨p0, μ, Γ, s0, e0, h⟩ := h
  refine PySem.W.methodCall_KW (pl := pl) (thn (he.run pins s σ H _ I (tD_bind s0 e0 h)) fun u s1 ⟨xv, H1, I1, rx, q, μ1, t, l1, s2, e2, rt, po⟩ => ?_) ht
  obtain ⟨⟨a, dx, fs, rfl, ea, l⟩, po⟩ := meth_at hC hn s2 rt po
  obtain rfl : u = Value.ref a := rx
  refine getmeth_ok I1 ea cl hm l ?_
  refine PySem.W.callWith_K0 (first := [.ref a]) I1.kIn hm.kp ?_
  have hbb := hb s1 [Value.ref a] I1.kIn (by rw [hps]; rfl)
  exact run_call (vs := [.ref a]) (us := [.ref a]) (ts := [t]) B F hbb I1 (.cons rfl .nil) s2 (.cons rt .nil) po
/-- o.m(k = v, ..) -/
def dMethK (g : List T → Mu → Ot T) (n c : Nat) (live : Bool) (rf : List Bool) (pm : List Nat) (nk : Nat) (go : De) (dk : Da) : De := fun Γ μ => Ot.bind (go Γ μ) fun t μ1 => match objOf μ1 t with
  | some (c', _) => if c' = c then Ot.bind (dk Γ μ1) fun ts μ2 => if ts.length = nk then if (t :: pick pm ts).length = n then callD g live rf (t :: pick pm ts) μ2 else none else none else none
  | none => none
theorem xe_methK (live : Bool) (rf : List Bool) {c : Nat} {names : List Str} {pl : Sem Bool} {pm : List Nat} (B : Be X Z W k) (he : PE X o (tD Z W go)) (hC : Z.TB.cls c = some (C, names)) (hn : x ∉ names) (cl : Cls X.K C) (hm : Meth X.K C x f)
    (F : FnG X.prog X.w X.K X.mg X.base k f fd ps (spD X.K Z.TB g n)) (hb : KB X.K fd ps ks 1 pm) (hkw : PK X kws (tDA Z W dk)) (hall : (backToKw pos (keywordEach kws X.env)).all (·.1.isSome) = true) (hks : (backToKw pos (keywordEach kws X.env)).filterMap (·.1) = ks)
    (hpl : ((backTo pos (starEach [] X.env)).any (·.1) || (backToKw pos (keywordEach kws X.env)).any (·.1.isNone)) = false)
    (ht : eval (.Call (.Attribute o x apos) [] kws pos) X.env = (do
      let ov ← eval o X.env
      standAt apos.atName
      let (f, first) ← holding [ov] (getMethod ov x pl)
      callWith pos f first (backTo pos (starEach [] X.env)) (backToKw pos (keywordEach kws X.env)))) :
    PE X (.Call (.Attribute o x apos) [] kws pos) (tD Z W (dMethK g n c live rf pm ks.length go dk)) := by
  refine ⟨fun pins s σ H Q I h => ?_⟩
  obtain ⟨p0, μ, Γ, s0, e0, h⟩ := h
  refine PySem.W.methodCall_KW (pl := pl) (thn (he.run pins s σ H _ I (tD_bind s0 e0 h)) fun u s1 ⟨xv, H1, I1, rx, q, μ1, t, l1, s2, e2, rt, po⟩ => ?_) ht
  obtain ⟨⟨a, dx, fs, rfl, ea, l⟩, po⟩ := meth_at hC hn s2 rt po
  obtain rfl : u = Value.ref a := rx
  refine getmeth_ok I1 ea cl hm l ?_
  refine PySem.W.callWith_KW0 (first := [.ref a]) (h₀ := X.base) I.ok.mod.kin hm.kp hall ?_ hpl
  refine thn (hkw.run pos pins s1 σ H1 _ I1 (tDA_bind s2 e2 po)) fun us s3 ⟨vs, H3, I3, r3, q3, μ3, ts, l3, s4, e4, rt3, po3⟩ => ⟨I3.kIn, ?_⟩
  rw [hks]
  split at po3
  · rename_i hl
    have hbb := hb s3 [.ref a] us I3.kIn rfl (by rw [← r3.length, rt3.length, hl])
    exact run_call (vs := .ref a :: pick pm vs) (us := .ref a :: pick pm us) (ts := t :: pick pm ts) B F hbb I3 (.cons rfl (Vals.pick r3 pm)) s4 (.cons (rt.mono l3) (rt3.pick pm)) po3
  · exact po3.elim
end
end L3

set_option Elab.async false
set_option linter.all false
set_option maxRecDepth 100000
set_option maxHeartbeats 4000000
/-! L3, nineteenth part: properties, new objects, what is stored. -/
namespace L3
open PySem PySem.Spec PyProof.Rows L2

section
variable {X : Cx} {Z : Ent} {W : Wish} {k n : Nat} {f C : Addr} {fd : FuncData} {ps ks : List Str} {g : List T → Mu → Ot T} {x m : Str} {p pos apos nm : Pos} {e o : Expr} {es : List Expr} {kws : List Keyword} {da dk : Da} {go ge : De}
theorem in1_gd {A : Around} (h : A.guards = some []) : A.in1.guards = some [] := by
  first
    | exact h
    | simp [Around.in1, h]
/-- e.f, a property: no error may come -/
def dProp (g : List T → Mu → Ot T) (c : Nat) (live rf0 : Bool) (go : De) : De := fun Γ μ => Ot.bind (go Γ μ) fun t μ1 => match objOf μ1 t with
  | some (c', _) => if c' = c then match callD g live [rf0] [t] μ1 with
    | some (.ok u μ2) => some (.ok u μ2)
    | _ => none
    else none
  | none => none
theorem xe_prop (live rf0 : Bool) {c : Nat} {names : List Str} {pa : Addr} (B : Be X Z W (k + 1)) (he : PE X e (tD Z W go)) (hC : Z.TB.cls c = some (C, names)) (cl : Cls X.K C) (hp : PropOf X.K C x pa f)
    (F : FnG X.prog X.w X.K X.mg X.base k f fd ps (spD X.K Z.TB g 1)) (hb : Binds X.K fd ps []) (hps : ps.length = 1) (hab : attributeBase e x X.env (eval e X.env) = eval e X.env) :
    PE X (.Attribute e x pos) (tD Z W (dProp g c live rf0 go)) := by
  refine ⟨fun pins s σ H Q I h => ?_⟩
  obtain ⟨p0, μ, Γ, s0, e0, h⟩ := h
  refine attr_of hab (thn (he.run pins s σ H _ I (tD_bind s0 e0 h)) fun u s1 ⟨xv, H1, I1, rx, q, μ1, t, l1, s2, e2, rt, po⟩ => ?_)
  have po' : Post Z W σ Q q (match objOf μ1 t with | some (c', _) => if c' = c then (match callD g live [rf0] [t] μ1 with | some (.ok u μ2) => some (.ok u μ2) | _ => none) else none | none => none) := po
  split at po'
  · rename_i c' ts ho
    split at po'
    · rename_i hc
      subst hc
      obtain ⟨a, C', dx, fs, names', rfl, ea, h2, h3, h4⟩ := obj_ok s2 rt ho
      rw [hC] at h2
      cases h2
      obtain rfl : u = Value.ref a := rx
      have ow : spD Z.K Z.TB g 1 [V.ref a] H1 Q (fun _ _ _ => False) := by
        have : Post Z W0 σ Q q (callD g live [rf0] [t] μ1) := by
          match hg : callD g live [rf0] [t] μ1, po' with
          | some (.ok u μ2), po' => exact po'
        exact call_owes (W := W0) s2 (.cons rt .nil) this
      rw [← B.hK] at ow
      -- the getter runs
      obtain ⟨mA, O, _, _, _, _⟩ := ins_get I1.hok ea
      obtain ⟨od, J, _⟩ := O.look
      obtain ⟨rest, hrec⟩ := hp.rec_
      have I2 := I1.tok (s1.toks + 1)
      have hl : ([Value.ref a] ++ []).length = ps.length := by rw [hps]; rfl
      have hcs : (PySem.W.clsIn X.K C).isSome = true := by
        obtain ⟨cd, hc, _⟩ := PySem.W.any_some cl.hd
        rw [hc]
        rfl
      have hbb := hb { s1 with toks := s1.toks + 1 } [.ref a] I2.kIn hl
      refine PySem.W.get_bind I1.kIn J (PySem.W.plainGet_of (cl.get x)).1 (PySem.W.findObj_data hcs hp.at_ hp.get hp.tak) (PySem.W.plainGet_of (cl.get x)).2 (wpAny_call (PySem.W.prop_get (s := { s1 with toks := s1.toks + 1 }) I1.kIn hrec ?_))
      refine codeAny_mono (F.run X.A.in1 X.stack { s1 with toks := s1.toks + 1 } H1 ⟨[.ref a], []⟩ [.ref a] [.ref a] Q (fun _ _ _ => False) B.room.in1 (in1_gd B.gd) I2.env0.in1 hbb (.cons rfl .nil) ow) fun r s' hq => ?_
      cases r with
      | error er =>
        obtain ⟨_, _, _, _, _, _, _, _, _, _, _, _, _, _, _, _, w⟩ := XE.of_call (W := W0) I2 (fun _ _ _ h => h) hq
        exact w.elim
      | ok fl =>
        cases fl with
        | ret u =>
          obtain ⟨v, H', I3, rv, q3⟩ := I2.after hq
          show wpAny _ _ (handedOut u) _ _ _
          rw [PySem.W.handedOut_of (handed_of rv)]
          exact wpAny_pure ⟨v, H', I3, rv, q3⟩
        | next => exact False.elim hq
        | brk => exact False.elim hq
        | cont => exact False.elim hq
    · exact po'.elim
  · exact po'.elim
end

/-! an object stands for good -/
section
variable {Z : Ent} {p q : Pt} {H : Hp} {μ : Mu}
theorem SR.freezeO (s : SR Z q H μ) {j : Nat} {a : Addr} {c : Nat} {ts : List T} {f : Bool} {ds : List D} {C : Addr} {names : List Str} (hj : q.ms[j]? = some a) (hc : μ[j]? = some (.obj c ts)) (h0 : Z.ms0.length ≤ j) (hp : pack ts = some (f, ds))
    (hC : Z.TB.cls c = some (C, names)) (hn : names.length = ts.length) :
    ∃ o, H a = some o ∧ SR Z (q.add f a o) H (μ.set j (.frz f (.obj c ds))) ∧ q.Le (q.add f a o) ∧ RT Z (q.add f a o) (.ref a) (.v f (.obj c ds)) := by
  obtain ⟨C', dx, fs, names', ha, hC', hfs, hr⟩ := s.cell j a _ hj hc
  rw [hC] at hC'
  cases hC'
  rw [← hn, List.take_length] at hfs
  have hF := s.nof j a _ hj hc rfl
  have hN := s.nin.free hF
  have le : q.Le (q.add f a (.ins C dx fs)) := Pt.add_le hF hN
  obtain ⟨r1, r2⟩ := pack_ok s hp hr
  have rt : RT Z (q.add f a (.ins C dx fs)) (.ref a) (.v f (.obj c ds)) := by
    cases f
    · refine Dx.obj (dx := dx) (?_) (by rw [hfs]; exact hC) (DxAll.mono le.f ds r2)
      show upd q.F a _ a = _
      exact upd_same
    · refine Dx.obj (dx := dx) (?_) (by rw [hfs]; exact hC) (DxAll.mono le.n ds (r1 rfl))
      show upd q.N a _ a = _
      exact upd_same
  refine ⟨.ins C dx fs, ha, ⟨fun b u e => ?_, ?_, fun b u e => ?_, fun b u e => ?_, s.keep, s.dom, s.pre, s.nd, by rw [List.length_set]; exact s.len, fun i b d hi hd hl => ?_, s.trk, s.new, fun i b d hi hd => ?_⟩, le, rt⟩
  · by_cases hb : b = a
    · subst hb
      have e' : upd q.F b (.ins C dx fs) b = some u := e
      rw [upd_same] at e'
      rw [ha]; exact e'
    · have e' : upd q.F a (.ins C dx fs) b = some u := e
      rw [upd_ne hb] at e'
      exact s.sub b u e'
  · cases f
    · exact same_upd s.nin hN
    · exact same_upd2 s.nin
  · cases f
    · exact s.fr b u e
    · by_cases hb : b = a
      · subst hb; exact s.new j b hj h0
      · have e' : upd q.N a (.ins C dx fs) b = some u := e
        rw [upd_ne hb] at e'
        exact s.fr b u e'
  · by_cases hb : b = a
    · subst hb; exact .inr (s.new j b hj h0)
    · have e' : upd q.F a (.ins C dx fs) b = some u := e
      rw [upd_ne hb] at e'
      exact s.org b u e'
  · by_cases e : j = i
    · subst e
      rw [List.getElem?_set_self (by rw [← s.len]; exact (List.getElem?_eq_some_iff.mp hj).1)] at hd
      cases hd
      cases hl
    · rw [List.getElem?_set_ne e] at hd
      have : b ≠ a := fun z => by subst z; exact e (nd_ix s.nd hj hi)
      show upd q.F a _ b = none
      rw [upd_ne this]
      exact s.nof i b d hi hd hl
  · by_cases e : j = i
    · subst e
      rw [List.getElem?_set_self (by rw [← s.len]; exact (List.getElem?_eq_some_iff.mp hj).1)] at hd
      cases hd
      have hi' : q.ms[j]? = some b := hi
      rw [hj] at hi'; cases hi'
      exact rt
    · rw [List.getElem?_set_ne e] at hd
      exact Cell.mono le rfl (s.cell i b d hi hd)
/-- what has been made: it lives on, or stands for good from now on -/
def mkEnd (keep : Bool) (ar n0 m0 : Nat) (μ : Mu) : Vt :=
  if keep then some (.m n0, μ) else match μ[n0]? with
    | some (.obj c ts) => if ts.length = ar then match pack ts with
      | some (f, ds) => if m0 ≤ n0 ∧ (μ.take n0).all (Cell.low n0) then some (.v f (.obj c ds), μ.take n0) else none
      | none => none
      else none
    | _ => none
theorem mkEnd_ok (s : SR Z q H μ) {keep : Bool} {n0 ar : Nat} {D : Addr} {Q : VK} (hn : p.ms.length = n0) (l : p.Le q) (hD : q.ms[n0]? = some D) (har : ∀ c ts, μ[n0]? = some (.obj c ts) → ∃ C names, Z.TB.cls c = some (C, names) ∧ names.length = ar)
    (h : VPost Z Q p (mkEnd keep ar n0 Z.ms0.length μ)) : Q (.ref D) H := by
  unfold mkEnd at h
  split at h
  · exact h _ _ q l s ⟨D, hD, rfl⟩
  · split at h
    · rename_i c ts hts
      split at h
      · rename_i hl
        split at h
        · rename_i f ds hp
          split at h
          · rename_i hc
            obtain ⟨h0, hlow⟩ := hc
            obtain ⟨C, names, h1, h2⟩ := har c ts hts
            obtain ⟨o, ho, s2, l2, r2⟩ := s.freezeO hD hts h0 hp h1 (h2.trans hl.symm)
            have s3 := s2.cut h0 (by rw [take_set]; exact hlow)
            rw [take_set] at s3
            have l3 : p.Le ((q.add f D o).cut n0) := s2.cut_le (l.trans l2) (by rw [hn]; exact Nat.le_refl _)
            exact h _ _ _ l3 s3 (RT.low rfl r2)
          · exact h.elim
        · exact h.elim
      · exact h.elim
    · exact h.elim
end
/-- C(e, ..): ar, how many attributes its objects have -/
def mkD (g : List T → Mu → Ot T) (c ar : Nat) (live keep : Bool) (rf : List Bool) (m0 : Nat) (ts : List T) (μ : Mu) : Ot T := match callD g live (true :: rf) (.m μ.length :: ts) (μ ++ [.obj c []]) with
  | some (.ok (.v _ .non) μ2) => match μ2[μ.length]? with
    | some (.obj c' _) => if c' = c then (mkEnd keep ar μ.length m0 μ2).ot else none
    | _ => none
  | some (.ok _ _) => none
  | some (.exc c t μ2) => some (.exc c t μ2)
  | none => none
def dMake (g : List T → Mu → Ot T) (n c ar : Nat) (live keep : Bool) (rf : List Bool) (m0 : Nat) (da : Da) : De := fun Γ μ => Ot.bind (da Γ μ) fun ts μ1 => if ts.length + 1 = n then mkD g c ar live keep rf m0 ts μ1 else none
section
variable {X : Cx} {Z : Ent} {W : Wish} {k n : Nat} {f C : Addr} {fd : FuncData} {ps ks : List Str} {g : List T → Mu → Ot T} {x m : Str} {p pos apos nm : Pos} {e o : Expr} {es : List Expr} {kws : List Keyword} {da dk : Da} {go ge : De}
theorem make_owes {live keep : Bool} {rf : List Bool} {c ar : Nat} {names : List Str} {σ : L2.St} {H : Hp} {Q : VK} {q : Pt} {μ : Mu} {ts : List T} {vs : List V} (hC : Z.TB.cls c = some (C, names)) (har : names.length = ar) (sr : SR Z q H μ) (rt : RTs Z q vs ts)
    (h : Post Z W σ Q q (mkD g c ar live keep rf Z.ms0.length ts μ)) : ∀ x dx, H x = none → H dx = none → dx ≠ x → spD Z.K Z.TB g (vs.length + 1) (.ref x :: vs) (upd (upd H dx (.own x)) x (.ins C dx [])) (fun v H2 => v = .non ∧ Q (.ref x) H2) (WE W σ) := by
  intro x dx hx hdx ne
  have l1 := sr.add_le (f := true) (o := .own x) hdx
  have s1 := sr.add (f := true) (o := .own x) hdx
  have hx1 : upd H dx (.own x) x = none := by rw [upd_ne (Ne.symm ne)]; exact hx
  have s2 : SR Z ((q.add true dx (.own x)).push x) (upd (upd H dx (.own x)) x (.ins C dx [])) (μ ++ [.obj c []]) :=
    s1.push hx1 rfl ⟨C, dx, [], names, upd_same, hC, rfl, .nil⟩
  have l2 : q.Le ((q.add true dx (.own x)).push x) := l1.trans Pt.push_le
  have hn : q.ms.length = μ.length := sr.len
  have hat : ((q.add true dx (.own x)).push x).ms[μ.length]? = some x := by
    show (q.ms ++ [x])[μ.length]? = some x
    rw [← hn]; simp
  refine call_owes (live := live) (rf := true :: rf) (ts := .m μ.length :: ts) s2 (.cons ⟨x, hat, rfl⟩ (rt.mono l2)) ?_
  unfold mkD at h
  cases hg : callD g live (true :: rf) (.m μ.length :: ts) (μ ++ [.obj c []]) with
  | none => rw [hg] at h; exact h.elim
  | some rr =>
    rw [hg] at h
    cases rr with
    | exc c2 t μ2 => exact PostX.le l2 h
    | ok t μ2 =>
      intro v H' r l s r0
      cases t with
      | m _ => exact h.elim
      | v fl d =>
        cases d with
        | non =>
          cases r0.non
          refine ⟨rfl, ?_⟩
          dsimp only at h
          have hr : r.ms[μ.length]? = some x := by
            obtain ⟨y, hy⟩ := l.m
            rw [← hy, List.getElem?_append_left (List.getElem?_eq_some_iff.mp hat).1]
            exact hat
          split at h
          · rename_i c' ts' hm
            split at h
            · rename_i hc
              subst hc
              exact mkEnd_ok s hn (l2.trans l) hr (fun c2 ts2 e2 => by rw [hm] at e2; cases e2; exact ⟨C, names, hC, har⟩) (VPost.post h)
            · exact h.elim
          · exact h.elim
        | _ => exact h.elim
theorem run_mk {live keep : Bool} {rf : List Bool} {c ar : Nat} {names : List Str} {pins : List (Addr × Obj)} {σ : L2.St} {H : Hp} {s : Shared} {Q : VK} {us : List Value} {vs : List V} {q : Pt} {μ : Mu} {ts : List T} (B : Be X Z W (k + 1)) (M : Mk X.K C f)
    (F : FnG X.prog X.w X.K X.mg X.base k f fd ps (spD X.K Z.TB g n)) (hb : Binds X.K fd ps []) (hC : Z.TB.cls c = some (C, names)) (har : names.length = ar) (I : Inv X pins σ H s) (r : Vals vs us)
    (sr : SR Z q H μ) (rt : RTs Z q vs ts) (h : Post Z W σ Q q (if ts.length + 1 = n then mkD g c ar live keep rf Z.ms0.length ts μ else none)) :
    wpAny (model X.prog X.w) X.A (PySem.call (.ref C) us) (EP X pins σ Q) X.xe s := by
  split at h
  · rename_i hn
    have ow := make_owes hC har sr rt h
    rw [rt.length, hn] at ow
    rw [← B.hK] at ow
    exact runMk M F B.room B.gd hb (passAt B.tk σ) I r ow
  · exact h.elim
theorem xe_make (live keep : Bool) (rf : List Bool) {c ar m0 : Nat} {names : List Str} (B : Be X Z W (k + 1)) (hm0 : Z.ms0.length = m0) (M : Mk X.K C f) (hC : Z.TB.cls c = some (C, names)) (har : names.length = ar)
    (F : FnG X.prog X.w X.K X.mg X.base k f fd ps (spD X.K Z.TB g n)) (hg : Gl X x) (hm : X.mg x = some (.ref C)) (hb : Binds X.K fd ps [])
    (ha : PA X (e :: es) (tDA Z W da)) (hdb : (x == ("__debug__" : Str)) = false) (he : starEach (e :: es) X.env = (false, eval e X.env) :: starEach es X.env) (hpl : (backTo pos (starEach es X.env)).any (·.1) = false) :
    PE X (.Call (.Name x p) (e :: es) [] pos) (tD Z W (dMake g n c ar live keep rf m0 da)) := by
  subst hm0
  refine ⟨fun pins s σ H Q I h => ?_⟩
  obtain ⟨p0, μ, Γ, s0, e0, h⟩ := h
  refine wpAny_Call_Name_kw (ld_glob I hg hm ?_ hdb)
  refine PySem.W.callWith_K (h₀ := X.base) I.ok.mod.kin M.kp (thn (ha.run pos pins s σ H _ I (tDA_bind s0 e0 h)) fun us s1 ⟨vs, H1, I1, r, q, μ1, ts, l1, s2, e2, rt, po⟩ => ⟨I1.kIn, ?_⟩) he hpl
  exact run_mk B M F hb hC har I1 r s2 rt po
end
end L3

set_option Elab.async false
set_option linter.all false
set_option maxRecDepth 100000
set_option maxHeartbeats 4000000
/-! L3, twentieth part: what is stored, what is raised. -/
namespace L3
open PySem PySem.Spec PyProof.Rows L2

theorem putF_new {f : Str} {y : V} : ∀ {fs : List (Str × V)}, f ∉ fs.map Prod.fst → putF f y fs = fs ++ [(f, y)]
  | [], _ => rfl
  | (g, x) :: r, h => by
    have hg : ¬ g = f := fun z => h (by rw [← z]; exact List.mem_cons_self)
    show (if g = f then (g, y) :: r else (g, x) :: putF f y r) = _
    rw [if_neg hg, putF_new fun z => h (List.mem_cons_of_mem _ z)]
    rfl
theorem putF_old {f : Str} {y : V} : ∀ {fs : List (Str × V)} {i : Nat}, (fs.map Prod.fst).Nodup → (fs.map Prod.fst)[i]? = some f → (putF f y fs).map Prod.fst = fs.map Prod.fst ∧ (putF f y fs).map Prod.snd = (fs.map Prod.snd).set i y
  | [], _, _, h => by simp at h
  | (g, x) :: r, 0, nd, h => by
    simp at h
    subst h
    have e : putF g y ((g, x) :: r) = (g, y) :: r := by
      show (if g = g then (g, y) :: r else (g, x) :: putF g y r) = _
      rw [if_pos rfl]
    rw [e]
    exact ⟨rfl, rfl⟩
  | (g, x) :: r, i + 1, nd, h => by
    have nd' := List.nodup_cons.mp (show (g :: r.map Prod.fst).Nodup from nd)
    have h' : (r.map Prod.fst)[i]? = some f := by simpa using h
    have hg : ¬ g = f := fun z => nd'.1 (by rw [z]; exact List.mem_of_getElem? h')
    have e : putF f y ((g, x) :: r) = (g, x) :: putF f y r := by
      show (if g = f then (g, y) :: r else (g, x) :: putF f y r) = _
      rw [if_neg hg]
    obtain ⟨e1, e2⟩ := putF_old (y := y) nd'.2 h'
    rw [e]
    refine ⟨?_, ?_⟩
    · show g :: (putF f y r).map Prod.fst = g :: r.map Prod.fst
      rw [e1]
    · show x :: (putF f y r).map Prod.snd = (x :: r.map Prod.snd).set (i + 1) y
      rw [e2]
      rfl
/-- o.f = t, the i-th attribute of the class c -/
def putFldV (c i : Nat) (μ : Mu) (o t : T) : Option Mu := match o with
  | .m j => match μ[j]? with
    | some (.obj c' ts) => if c' = c then if i = ts.length then some (μ.set j (.obj c (ts ++ [t]))) else if i < ts.length then some (μ.set j (.obj c (ts.set i t))) else none else none
    | _ => none
  | .v _ _ => none
def sFldD (c i : Nat) (go ge : De) : Ds := fun Γ μ => Ot.bindS (ge Γ μ) Γ fun t μ1 => Ot.bindS (go Γ μ1) Γ fun o μ2 => match putFldV c i μ2 o t with
  | some μ3 => some (.nx Γ μ3)
  | none => none
/-- o[i] = t, o a living list -/
def putIxV (μ : Mu) (o i t : T) : Option Mu := match o, i with
  | .m j, .v _ (.int n) => match μ[j]? with
    | some (.lst ts) => match ixN ts.length n with
      | some k => some (μ.set j (.lst (ts.set k t)))
      | none => none
    | _ => none
  | _, _ => none
def sPutD (go gi ge : De) : Ds := fun Γ μ => Ot.bindS (ge Γ μ) Γ fun t μ1 => Ot.bindS (go Γ μ1) Γ fun o μ2 => Ot.bindS (gi Γ μ2) Γ fun i μ3 => match putIxV μ3 o i t with
  | some μ4 => some (.nx Γ μ4)
  | none => none
section
variable {X : Cx} {Z : Ent} {W : Wish} {k n : Nat} {f C : Addr} {fd : FuncData} {ps ks : List Str} {g : List T → Mu → Ot T} {x m : Str} {p pos pos' apos nm : Pos} {e o ie value : Expr} {es : List Expr} {kws : List Keyword} {da dk : Da} {go ge gi : De}
theorem xs_fld {i c : Nat} {names : List Str} (hK : X.K = Z.K) (hC : Z.TB.cls c = some (C, names)) (hn : names[i]? = some x) (nd : names.Nodup) (hz : names.length < 1000) (cl : Cls X.K C) (na : NoAttr X.K C x) (ho : PE X o (tD Z W go)) (hv : PE X value (tD Z W ge))
    (hs : swapsWith value (some (.Attribute o x pos')) pos.line X.env = pure false) : PS X (.Assign [.Attribute o x pos'] value pos) (tDS Z W (sFldD c i go ge)) :=
  ps_imp (ps_fld ho hv hs) fun D σ H ⟨p, μ, Γ, s, er, h⟩ => by
    obtain ⟨p', μ', Γ', s', e', h'⟩ := tD_bindS s er h
    refine ⟨p', μ', Γ', s', e', ?_⟩
    match hg : ge Γ' μ', h' with
    | some (.exc c t μ1), h' => exact h'
    | some (.ok t μ1), h' =>
      intro v H1 q hl hs hr
      obtain ⟨q1, μ2, t2, l1, s1, e1, r1, k1⟩ := h' v H1 q hl hs hr
      obtain ⟨p3, μ3, Γ3, s3, e3, h3⟩ := tD_bindS s1 e1 k1
      refine ⟨p3, μ3, Γ3, s3, e3, ?_⟩
      match hg3 : go Γ3 μ3, h3 with
      | some (.exc c4 t4 μ4), h3 => exact h3
      | some (.ok t4 μ4), h3 =>
        intro v4 H4 q4 hl4 hs4 hr4
        obtain ⟨q5, μ5, t5, l5, s5, e5, r5, k5⟩ := h3 v4 H4 q4 hl4 hs4 hr4
        cases t5 with
        | v _ _ => exact k5.elim
        | m j =>
          obtain ⟨a, ha, rfl⟩ := r5
          simp only [putFldV] at k5
          cases hc : μ5[j]? with
          | none => rw [hc] at k5; exact k5.elim
          | some cc =>
            rw [hc] at k5
            cases cc with
            | obj c' ts =>
              dsimp only at k5
              by_cases hcc : c' = c
              · subst hcc
                rw [if_pos rfl] at k5
                obtain ⟨C', dx, fs, names', h1, h2, h3', h4⟩ := s5.cell j a _ ha hc
                rw [hC] at h2
                cases h2
                have hfl : fs.length = ts.length := by rw [← h4.length, List.length_map]
                have hle : ts.length ≤ names.length := by
                  have := congrArg List.length h3'
                  rw [List.length_map, List.length_take, hfl] at this
                  omega
                refine ⟨a, C, dx, fs, rfl, h1, cl, na, by omega, ?_⟩
                by_cases hi : i = ts.length
                · rw [if_pos hi] at k5
                  have hnew : x ∉ fs.map Prod.fst := fun z => by
                    rw [h3'] at z
                    obtain ⟨j', hj'⟩ := List.getElem?_of_mem z
                    have hlt : j' < ts.length := by
                      have := (List.getElem?_eq_some_iff.mp hj').1
                      rw [List.length_take] at this
                      omega
                    rw [List.getElem?_take_of_lt hlt] at hj'
                    have := nd_ix nd hj' hn
                    omega
                  rw [putF_new hnew]
                  refine k5 _ _ q5 (.refl _) (s5.write ha hc rfl rfl (c' := .obj c' (ts ++ [t2])) ⟨C, dx, fs ++ [(x, v)], names, upd_same, hC, ?_, ?_⟩) e5
                  · rw [List.map_append, h3', List.length_append]
                    show names.take ts.length ++ [x] = names.take (ts.length + 1)
                    rw [List.take_succ, ← hi, hn]
                    rfl
                  · rw [List.map_append]
                    exact h4.append (.cons (r1.mono l5) .nil)
                · rw [if_neg hi] at k5
                  by_cases hi2 : i < ts.length
                  · rw [if_pos hi2] at k5
                    have hat : (fs.map Prod.fst)[i]? = some x := by rw [h3', List.getElem?_take_of_lt hi2]; exact hn
                    obtain ⟨e1', e2'⟩ := putF_old (y := v) (fs := fs) (by rw [h3']; exact nd.sublist (List.take_sublist _ _)) hat
                    refine k5 _ _ q5 (.refl _) (s5.write ha hc rfl rfl (c' := .obj c' (ts.set i t2)) ⟨C, dx, putF x v fs, names, upd_same, hC, ?_, ?_⟩) e5
                    · rw [e1', h3', List.length_set]
                    · rw [e2']
                      exact RTs.set (r1.mono l5) i h4
                  · rw [if_neg hi2] at k5
                    exact k5.elim
              · rw [if_neg hcc] at k5
                exact k5.elim
            | lst _ => exact k5.elim
            | dT _ _ => exact k5.elim
            | dK _ _ => exact k5.elim
            | frz _ _ => exact k5.elim
            | hid => exact k5.elim
            | tup _ => exact k5.elim
theorem xs_put (ho : PE X o (tD Z W go)) (hi : PE X ie (tD Z W gi)) (hv : PE X value (tD Z W ge))
    (ha : ∀ v, assign (.Subscript o ie pos') X.env v = (do
      let ov ← holding [v] (eval o X.env)
      let iv ← holding [v, ov] (eval ie X.env)
      standAt pos'
      holding [v, ov, iv] (setItem ov iv v)
      release [v, ov, iv] []))
    (hs : swapsWithSole [.Subscript o ie pos'] value pos.line X.env = pure false) (hw : swappedStores [.Subscript o ie pos'] value X.env = pure none) (h1 : (assignEach [.Subscript o ie pos'] X.env).map (·.2) = [assign (.Subscript o ie pos') X.env]) :
    PS X (.Assign [.Subscript o ie pos'] value pos) (tDS Z W (sPutD go gi ge)) :=
  ps_imp (ps_asg hv (pg_sub ho hi set_list ha) hs hw h1) fun D σ H ⟨p, μ, Γ, s, er, h⟩ => by
    obtain ⟨p', μ', Γ', s', e', h'⟩ := tD_bindS s er h
    refine ⟨p', μ', Γ', s', e', ?_⟩
    match hg : ge Γ' μ', h' with
    | some (.exc c t μ1), h' => exact h'
    | some (.ok t μ1), h' =>
      intro v H1 q hl hs hr
      obtain ⟨q1, μ2, t2, l1, s1, e1, r1, k1⟩ := h' v H1 q hl hs hr
      obtain ⟨p3, μ3, Γ3, s3, e3, h3⟩ := tD_bindS s1 e1 k1
      refine ⟨p3, μ3, Γ3, s3, e3, ?_⟩
      match hg3 : go Γ3 μ3, h3 with
      | some (.exc c4 t4 μ4), h3 => exact h3
      | some (.ok t4 μ4), h3 =>
        intro v4 H4 q4 hl4 hs4 hr4
        obtain ⟨q5, μ5, t5, l5, s5, e5, r5, k5⟩ := h3 v4 H4 q4 hl4 hs4 hr4
        obtain ⟨p6, μ6, Γ6, s6, e6, h6⟩ := tD_bindS s5 e5 k5
        refine ⟨p6, μ6, Γ6, s6, e6, ?_⟩
        match hg6 : gi Γ6 μ6, h6 with
        | some (.exc c4 t4 μ4), h6 => exact h6
        | some (.ok t7 μ7), h6 =>
          intro v8 H8 q8 hl8 hs8 hr8
          obtain ⟨q9, μ9, t9, l9, s9, e9, r9, k9⟩ := h6 v8 H8 q8 hl8 hs8 hr8
          cases t5 with
          | v _ _ => exact k9.elim
          | m j =>
            have r5' := r5.mono l9
            obtain ⟨a, ha, rfl⟩ := r5'
            simp only [putIxV] at k9
            cases t9 with
            | m _ => exact k9.elim
            | v fl d =>
              cases d with
              | int z =>
                cases r9.int
                dsimp only at k9
                cases hc : μ9[j]? with
                | none => rw [hc] at k9; exact k9.elim
                | some cc =>
                  rw [hc] at k9
                  cases cc with
                  | lst ts =>
                    dsimp only at k9
                    cases hx : ixN ts.length z with
                    | none => rw [hx] at k9; exact k9.elim
                    | some kk =>
                      rw [hx] at k9
                      obtain ⟨vs, h1, h2⟩ := s9.cell j a _ ha hc
                      exact ⟨a, vs, z, kk, rfl, rfl, h1, by rw [h2.length]; exact hx, k9 _ _ q9 (.refl _) (s9.write ha hc rfl rfl (c' := .lst (ts.set kk t2)) ⟨_, upd_same, RTs.set ((r1.mono l5).mono l9) kk h2⟩) e9⟩
                  | obj _ _ => exact k9.elim
                  | dT _ _ => exact k9.elim
                  | dK _ _ => exact k9.elim
                  | frz _ _ => exact k9.elim
                  | hid => exact k9.elim
                  | tup _ => exact k9.elim
              | _ => exact k9.elim
end
end L3

set_option Elab.async false
set_option linter.all false
set_option maxRecDepth 100000
set_option maxHeartbeats 4000000
/-! L3, twenty-first part: own ==, chains, lists that are taken apart, lists that stand still, += and -=. -/
namespace L3
open PySem PySem.Spec PyProof.Rows L2

/-- what is never reached -/
def sNo : Ds := fun _ _ => none
def dNo : De := fun _ _ => none
section
variable {X : Cx} {Z : Ent} {W : Wish} {k n : Nat} {f C : Addr} {fd : FuncData} {ps ks : List Str} {g : List T → Mu → Ot T} {x m : Str} {p pos pos' apos nm : Pos} {a b c e o ie value : Expr} {es : List Expr} {st : Stmt} {sts : List Stmt} {da dk : Da} {ga gb gc go ge gi : De}
theorem xs_no : PS X st (tDS Z W sNo) := ps_imp ps_never fun D σ H ⟨p, μ, Γ, s, e, h⟩ => h
theorem xss_no : PSs X sts (tDS Z W sNo) := pss_imp pss_never fun D σ H ⟨p, μ, Γ, s, e, h⟩ => h

/-! a op b op c -/
def dChain (op op' : CmpOp) (ga gb gc : De) : De := fun Γ μ => Ot.bind (ga Γ μ) fun ta μ1 => Ot.bind (gb Γ μ1) fun tb μ2 => match cmpV op μ2 ta tb with
  | some true => Ot.bind (gc Γ μ2) fun tc μ3 => (cmpVt op' μ3 tb tc).ot
  | some false => some (.ok (.v true (.bl false)) μ2)
  | none => none
theorem chain_owes {op op' : CmpOp} {σ : L2.St} {H : Hp} {Q : VK} (h : tD Z W (dChain op op' ga gb gc) σ H Q) :
    tChain (rV2 Z (cmpVt op)) (rV2 Z (cmpVt op')) (tD Z W ga) (tD Z W gb) (tD Z W gc) σ H Q := by
  obtain ⟨p0, μ, Γ, s, e0, h⟩ := h
  obtain ⟨p', μ', Γ', s', e', h'⟩ := tD_bind s e0 h
  refine ⟨p', μ', Γ', s', e', ?_⟩
  match hg : ga Γ' μ', h' with
  | some (.exc c t μ1), h' => exact h'
  | some (.ok t μ1), h' =>
    intro v H1 q hl hs hr
    obtain ⟨q1, μ2, t2, l1, s1, e1, r1, k1⟩ := h' v H1 q hl hs hr
    obtain ⟨p3, μ3, Γ3, s3, e3, h3⟩ := tD_bind s1 e1 k1
    refine ⟨p3, μ3, Γ3, s3, e3, ?_⟩
    match hg3 : gb Γ3 μ3, h3 with
    | some (.exc c4 t4 μ4), h3 => exact h3
    | some (.ok t4 μ4), h3 =>
      intro v4 H4 q4 hl4 hs4 hr4
      obtain ⟨q5, μ5, t5, l5, s5, e5, r5, k5⟩ := h3 v4 H4 q4 hl4 hs4 hr4
      refine ⟨q5, μ5, t2, t5, s5, r1.mono l5, r5, ?_⟩
      unfold cmpVt
      cases hcmp : cmpV op μ5 t2 t5 with
      | none => rw [hcmp] at k5; exact k5.elim
      | some kk =>
        rw [hcmp] at k5
        intro v6 H6 q6 l6 s6 r6
        cases r6.bl
        refine ⟨kk, rfl, ?_⟩
        cases kk with
        | false =>
          rw [if_neg Bool.false_ne_true]
          exact k5 _ _ q6 l6 s6 (Dx.bl _ : Dx Z.K Z.TB q6.N _ _)
        | true =>
          rw [if_pos rfl]
          obtain ⟨p7, μ7, Γ7, s7, e7, h7⟩ := tD_bind s6 (e5.mono l6) (Post.le l6 k5)
          refine ⟨p7, μ7, Γ7, s7, e7, ?_⟩
          match hg7 : gc Γ7 μ7, h7 with
          | some (.exc c4 t4 μ4), h7 => exact h7
          | some (.ok t4 μ4), h7 =>
            intro v8 H8 q8 hl8 hs8 hr8
            obtain ⟨q9, μ9, t9, l9, s9, e9, r9, k9⟩ := h7 v8 H8 q8 hl8 hs8 hr8
            exact ⟨q9, μ9, t5, t9, s9, (r5.mono l6).mono l9, r9, VPost.post k9⟩
theorem xe_chain (B : Be X Z W k) {op op' : CmpOp} (ha : PE X a (tD Z W ga)) (hb : PE X b (tD Z W gb)) (hc : PE X c (tD Z W gc)) (hm : lastMarks [op, op'] [b, c] = false) :
    PE X (.Compare a [op, op'] [b, c] pos) (tD Z W (dChain op op' ga gb gc)) :=
  pe_imp (pe_chain (op_cmpV B.hK B.hu op) (op_cmpV B.hK B.hu op') ha hb hc hm) fun σ H Q h => chain_owes h

/-! own == -/
def eqOwn (g : List T → Mu → Ot T) (c : Nat) (live : Bool) (μ : Mu) (tx ty : T) : Ot T := match objOf μ tx, objOf μ ty with
  | some (c1, _), some (c2, _) => if c1 = c ∧ c2 = c then match callD g live [false, false] [tx, ty] μ with
    | some (.ok (.v fl (.bl b)) μ') => some (.ok (.v fl (.bl b)) μ')
    | _ => none
    else none
  | _, _ => none
def rOwn (Z : Ent) (g : List T → Mu → Ot T) (c : Nat) (live : Bool) : R2 := fun x y H Q => ∃ (p : Pt) (μ : Mu) (tx ty : T), SR Z p H μ ∧ RT Z p x tx ∧ RT Z p y ty ∧ Post Z W0 [] Q p (eqOwn g c live μ tx ty)
theorem op_own (live : Bool) {c : Nat} {names : List Str} (B : Be X Z W k) (hC : Z.TB.cls c = some (C, names)) (F : FnG X.prog X.w X.K X.mg X.base k f fd ps (spD X.K Z.TB g 2)) (hs : PySem.W.findIn X.K (.ref C) "__eq__" = some (some (.ref f)))
    (hf : PySem.W.isFn X.K (.ref f) = true) (hb : Binds X.K fd ps []) (hps : ps.length = 2) : OpR X (compareOp .Eq) (rOwn Z g c live) := by
  intro pins s σ H x y u v Q I rx ry d
  obtain ⟨q, μ, tx, ty, sr, rtx, rty, po⟩ := d
  unfold eqOwn at po
  split at po
  · rename_i c1 _ c2 _ h1 h2
    split at po
    · rename_i hcc
      obtain ⟨rfl, rfl⟩ := hcc
      obtain ⟨a, C', dx, fs, names', rfl, ha, hc', _, _⟩ := obj_ok sr rtx h1
      rw [hC] at hc'
      cases hc'
      obtain ⟨b, C', dy, gs, names', rfl, hb', hc', _, _⟩ := obj_ok sr rty h2
      rw [hC] at hc'
      cases hc'
      cases rx
      cases ry
      obtain ⟨mA, J, _⟩ := ins_get I.hok ha
      obtain ⟨mB, J', _⟩ := ins_get I.hok hb'
      obtain ⟨od, J, _⟩ := J.look
      obtain ⟨od', J', _⟩ := J'.look
      obtain ⟨m, hF⟩ := I.fr
      have ow : spD Z.K Z.TB g 2 [V.ref a, V.ref b] H (fun v H' => (∃ k, v = .bl k) ∧ Q v H') (fun _ _ _ => False) := by
        refine call_owes (W := W0) (σ := []) (live := live) (rf := [false, false]) (ts := [tx, ty]) sr (.cons rtx (.cons rty .nil)) ?_
        cases hg : callD g live [false, false] [tx, ty] μ with
        | none => rw [hg] at po; exact po.elim
        | some rr =>
          rw [hg] at po
          cases rr with
          | exc _ _ _ => exact po.elim
          | ok t μ' =>
            intro v H' r l s rv
            cases t with
            | m _ => exact po.elim
            | v fl d =>
              cases d with
              | bl b => exact ⟨⟨b, rv.bl⟩, po v H' r l s rv⟩
              | _ => exact po.elim
      rw [← B.hK] at ow
      show wpAny (model X.prog X.w) X.A (richCompare .Eq (.ref a) (.ref b)) (EP X pins σ Q) X.xe s
      refine PySem.W.cmp_K (op := .Eq) (tb := .ref C) B.room.units0 hF I.ok.mod.kin J J'.type (by simp [PySem.W.notFirst]) hs hf ?_
      have hbb := hb s [.ref a, .ref b] I.kIn (by rw [hps]; rfl)
      refine wpAny_call (codeAny_mono (F.run X.A X.stack s H ⟨[.ref a, .ref b], []⟩ [.ref a, .ref b] [.ref a, .ref b] _ (fun _ _ _ => False) B.room B.gd I.env0 hbb (.cons rfl (.cons rfl .nil)) ow) fun r s' hq => ?_)
      cases r with
      | error e =>
        obtain ⟨_, _, _, _, _, _, _, _, _, _, _, _, _, _, _, _, w⟩ := XE.of_call (W := W0) I (fun _ _ _ h => h) hq
        exact w.elim
      | ok fl =>
        cases fl with
        | ret w =>
          obtain ⟨z, H', I', rz, ⟨kk, ez⟩, ex⟩ := I.after hq
          subst ez
          cases rz
          exact ⟨.bl kk, H', I', rfl, ex⟩
        | next => exact False.elim hq
        | brk => exact False.elim hq
        | cont => exact False.elim hq
    · exact po.elim
  · exact po.elim
def dOwn (g : List T → Mu → Ot T) (c : Nat) (live : Bool) (ga gb : De) : De := fun Γ μ => Ot.bind (ga Γ μ) fun ta μ1 => Ot.bind (gb Γ μ1) fun tb μ2 => eqOwn g c live μ2 ta tb
theorem xe_own (live : Bool) {c : Nat} {names : List Str} (B : Be X Z W k) (hC : Z.TB.cls c = some (C, names)) (F : FnG X.prog X.w X.K X.mg X.base k f fd ps (spD X.K Z.TB g 2)) (hs : PySem.W.findIn X.K (.ref C) "__eq__" = some (some (.ref f)))
    (hf : PySem.W.isFn X.K (.ref f) = true) (hbd : Binds X.K fd ps []) (hps : ps.length = 2) (ha : PE X a (tD Z W ga)) (hb : PE X b (tD Z W gb)) (hm : behindInMarks .Eq b = false) :
    PE X (.Compare a [.Eq] [b] pos) (tD Z W (dOwn g c live ga gb)) :=
  pe_imp (pe_cmpR (op_own live B hC F hs hf hbd hps) ha hb hm) fun σ H Q h => by
    obtain ⟨p, μ, Γ, s, e, h⟩ := h
    obtain ⟨p', μ', Γ', s', e', h'⟩ := tD_bind s e h
    refine ⟨p', μ', Γ', s', e', ?_⟩
    match hg : ga Γ' μ', h' with
    | some (.ok t μ1), h' =>
      intro v H' q hl hs hr
      obtain ⟨q1, μ2, t2, l1, s1, e1, r1, k1⟩ := h' v H' q hl hs hr
      obtain ⟨p3, μ3, Γ3, s3, e3, h3⟩ := tD_bind s1 e1 k1
      refine ⟨p3, μ3, Γ3, s3, e3, ?_⟩
      match hg3 : gb Γ3 μ3, h3 with
      | some (.ok t4 μ4), h3 =>
        intro v4 H4 q4 hl4 hs4 hr4
        obtain ⟨q5, μ5, t5, l5, s5, e5, r5, k5⟩ := h3 v4 H4 q4 hl4 hs4 hr4
        refine ⟨q5, μ5, t2, t5, s5, r1.mono l5, r5, ?_⟩
        cases hq : eqOwn g c live μ5 t2 t5 with
        | none => rw [hq] at k5; exact k5.elim
        | some rr =>
          rw [hq] at k5
          cases rr with
          | ok _ _ => exact k5
          | exc c2 t2' μ2' =>
            unfold eqOwn at hq
            split at hq
            · split at hq
              · split at hq
                · cases hq
                · cases hq
              · cases hq
            · cases hq
      | some (.exc c4 t4 μ4), h3 => exact h3
    | some (.exc c t μ1), h' => exact h'

/-! taking a list apart -/
def gUl (n : Nat) (h : Dgs) : Dg := fun y Γ μ => match y with
  | .two _ _ => none
  | .one t => match items μ t with
    | some (true, ts) => if ts.length = n then h ts Γ μ else none
    | _ => none
theorem xg_unl {es : List Expr} {k n : Nat} {js : List Nat} {h : Dgs} (hK : X.K = Z.K) (hc : X.calm = true) (hh : PGs X es (tGs Z js h)) (hn : (assignEach es X.env).length = n) (hst : (assignEach es X.env).findIdx? (·.1) = none) :
    PG X (.Tuple es k pos) (tG Z js (gUl n h)) :=
  pg_imp (pg_unl hc hh hn hst) fun v σ H Q ⟨p, μ, Γ, Γ', y, s, e, r, hd, q⟩ => by
    cases y with
    | two t u => cases hd
    | one t =>
      simp only [gUl] at hd
      split at hd
      · rename_i ts hi
        split at hd
        · rename_i hl
          obtain ⟨a, vs, rfl, h1, h2⟩ := items_ok s r hi
          exact ⟨a, vs, rfl, by rw [hK]; exact h1, by rw [h2.length]; exact hl, p, μ, Γ, Γ', ts, s, e, h2, hd, q⟩
        · cases hd
      · cases hd

/-! a new list stands still -/
/-- the list at the first new cell or later: for good from now on, and nothing else of what is new stays in view -/
def frzV (n0 m0 : Nat) (t : T) (μ : Mu) : Vt := match t with
  | .m j => match μ[j]? with
    | some (.lst ts) => match pack ts with
      | some (f, ds) => if m0 ≤ j ∧ n0 ≤ j ∧ (μ.take n0).all (Cell.low n0) then some (.v f (.lst ds), μ.take n0) else none
      | none => none
    | _ => none
  | .v f d => if (μ.take n0).all (Cell.low n0) then some (.v f d, μ.take n0) else none
def dFrz (m0 : Nat) (g : De) : De := fun Γ μ => Ot.bind (g Γ μ) fun t μ1 => (frzV μ.length m0 t μ1).ot
theorem xe_frz {m0 : Nat} (hm : Z.ms0.length = m0) (h : PE X e (tD Z W ge)) : PE X e (tD Z W (dFrz m0 ge)) := by
  subst hm
  refine pe_imp h fun σ H Q ⟨p, μ, Γ, s, er, h⟩ => ⟨p, μ, Γ, s, er, ?_⟩
  unfold dFrz at h
  cases hg : ge Γ μ with
  | none => rw [hg] at h; exact h.elim
  | some rr =>
    rw [hg] at h
    cases rr with
    | exc _ _ _ => exact h
    | ok t μ1 =>
      intro v H' q l s1 r1
      replace h : Post Z W σ Q p (frzV μ.length Z.ms0.length t μ1).ot := h
      replace h := VPost.post h
      have hpl : Z.ms0.length ≤ μ.length := by rw [← s.len]; exact s.pre.length_le
      have hn : p.ms.length ≤ μ.length := Nat.le_of_eq s.len
      unfold frzV at h
      split at h
      · rename_i j
        obtain ⟨a, hj, rfl⟩ := r1
        split at h
        · rename_i ts hts
          split at h
          · rename_i f ds hp
            split at h
            · rename_i hc
              obtain ⟨h0, h1, hlow⟩ := hc
              obtain ⟨o, ho, s2, l2, r2⟩ := s1.freeze hj hts h0 hp
              have ht : (μ1.set j (.frz f (.lst ds))).take μ.length = μ1.take μ.length := by
                rw [List.take_set]
                exact List.set_eq_of_length_le (by rw [List.length_take]; omega)
              have s3 := s2.cut hpl (by rw [ht]; exact hlow)
              rw [ht] at s3
              exact h _ _ _ (s2.cut_le (l.trans l2) hn) s3 (RT.low rfl r2)
            · exact h.elim
          · exact h.elim
        · exact h.elim
      · split at h
        · rename_i f d hlow
          exact h _ _ _ (s1.cut_le l hn) (s1.cut hpl hlow) (RT.low rfl r1)
        · exact h.elim

/-! a tuple of what may still change -/
def dTupL (da : Da) : De := fun Γ μ => Ot.bind (da Γ μ) fun ts μ1 => if ts.length ≤ 64 then some (.ok (.m μ1.length) (μ1 ++ [.tup ts])) else none
theorem xe_tupL {k : Nat} (h : PA X es (tDA Z W da)) : PE X (.Tuple es k pos) (tD Z W (dTupL da)) :=
  pe_imp (pe_tup h) fun σ H Q ⟨p, μ, Γ, s, e, h⟩ => by
    obtain ⟨p', μ', Γ', s', e', h'⟩ := tDA_bind s e h
    refine ⟨p', μ', Γ', s', e', ?_⟩
    match hg : da Γ' μ', h' with
    | some (.ok t μ1), h' =>
      intro v H' q hl hs hr
      obtain ⟨q1, μ2, t2, l1, s1, e1, r1, k1⟩ := h' v H' q hl hs hr
      split at k1
      · rename_i hz
        refine ⟨by rw [r1.length]; exact small_line hz, fun A hA => ?_⟩
        have hat : (q1.push A).ms[μ2.length]? = some A := by
          show (q1.ms ++ [A])[μ2.length]? = some A
          rw [← s1.len]; simp
        exact k1 _ _ (q1.push A) Pt.push_le (s1.push (c := .tup t2) hA rfl ⟨v, upd_same, r1.mono Pt.push_le⟩) ⟨A, hat, rfl⟩
      · exact k1.elim
    | some (.exc c t μ1), h' => exact h'
end
end L3

set_option Elab.async false
set_option linter.all false
set_option maxRecDepth 100000
set_option maxHeartbeats 4000000
/-! L3, twenty-second part: += and -= at a place of a list. -/
namespace L3
open PySem PySem.Spec PyProof.Rows L2

def augI (op : Operator) (i j : Int) : Option Int := match op with
  | .Add => some (i + j)
  | .Sub => some (i - j)
  | _ => none
def sAugS (op : Operator) (go gi ge : De) : Ds := fun Γ μ => Ot.bindS (go Γ μ) Γ fun o μ1 => Ot.bindS (gi Γ μ1) Γ fun i μ2 => match o, i with
  | .m j, .v _ (.int n) => match μ2[j]? with
    | some (.lst ts) => if 0 ≤ n ∧ n < 2 ^ 63 then match ts[n.toNat]? with
      | some (.v _ (.int z)) => Ot.bindS (ge Γ μ2) Γ fun y μ3 => match y, μ3[j]? with
        | .v _ (.int w), some (.lst us) => match augI op z w, ixN us.length n with
          | some r, some k => some (.nx Γ (μ3.set j (.lst (us.set k (.v true (.int r))))))
          | _, _ => none
        | _, _ => none
      | _ => none
      else none
    | _ => none
  | _, _ => none
section
variable {X : Cx} {Z : Ent} {W : Wish} {k n : Nat} {o ie e : Expr} {go gi ge : De} {tpos pos : Pos}
theorem get_cell : PGet X (fun o i H Q => ∃ (p : Addr) (xs : List V) (k : Int) (x : V), o = .ref p ∧ i = .int k ∧ H p = some (.lst xs) ∧ 0 ≤ k ∧ k < 2 ^ 63 ∧ xs[k.toNat]? = some x ∧ Q x H) := by
  intro pins s σ H o i ov iv Q I ro ri h
  obtain ⟨p, xs, k, x, rfl, rfl, hp, h0, h1, hx, q⟩ := h
  cases ro
  obtain ⟨t, rfl⟩ := ri
  obtain ⟨its, r, pl, hz⟩ := I.list (SqL.of hp)
  obtain ⟨w, ew, rw'⟩ := r.get hx
  exact wpAny_getItem_list pl.isList h0 h1 (by simpa using ew) ⟨x, H, I, rw', q⟩
theorem ip_augI (op : Operator) : PIp X op (fun x y H Q => ∃ i j r, x = .int i ∧ y = .int j ∧ augI op i j = some r ∧ Q (.int r) H) := by
  intro pins s σ H x y v u Q I r1 r2 h
  obtain ⟨i, j, r, rfl, rfl, hr, q⟩ := h
  cases op <;> first
    | (cases hr; exact ip_add pins s σ H _ _ v u Q I r1 r2 ⟨i, j, rfl, rfl, q⟩)
    | (cases hr; exact ip_sub pins s σ H _ _ v u Q I r1 r2 ⟨i, j, rfl, rfl, q⟩)
    | cases hr
theorem xs_augS {op : Operator} (ho : PE X o (tD Z W go)) (hi : PE X ie (tD Z W gi)) (he : PE X e (tD Z W ge))
    (ha : ∀ ov iv new, augStore ie ov iv new = (do holding [new, ov, iv] (setItem ov iv new); release [new, ov, iv] []; pure .next)) :
    PS X (.AugAssign (.Subscript o ie tpos) op e pos) (tDS Z W (sAugS op go gi ge)) :=
  ps_imp (ps_augS ho hi get_cell he (ip_augI op) set_list ha) fun D σ H ⟨p, μ, Γ, s, er, h⟩ => by
    obtain ⟨p', μ', Γ', s', e', h'⟩ := tD_bindS s er h
    refine ⟨p', μ', Γ', s', e', ?_⟩
    match hg : go Γ' μ', h' with
    | some (.exc c t μ1), h' => exact h'
    | some (.ok t μ1), h' =>
      intro v H1 q hl hs hr
      obtain ⟨q1, μ2, t2, l1, s1, e1, r1, k1⟩ := h' v H1 q hl hs hr
      obtain ⟨p3, μ3, Γ3, s3, e3, h3⟩ := tD_bindS s1 e1 k1
      refine ⟨p3, μ3, Γ3, s3, e3, ?_⟩
      match hg3 : gi Γ3 μ3, h3 with
      | some (.exc c4 t4 μ4), h3 => exact h3
      | some (.ok t4 μ4), h3 =>
        intro v4 H4 q4 hl4 hs4 hr4
        obtain ⟨q5, μ5, t5, l5, s5, e5, r5, k5⟩ := h3 v4 H4 q4 hl4 hs4 hr4
        split at k5
        · rename_i j fl n _
          obtain ⟨a, hja, rfl⟩ := r1.mono l5
          cases r5.int
          split at k5
          · rename_i ts hts
            split at k5
            · rename_i hn
              split at k5
              · rename_i fz z hz
                obtain ⟨vs, hv, rv⟩ := s5.cell j a _ hja hts
                obtain ⟨w, hw1, hw2⟩ := rv.get hz
                cases hw2.int
                refine ⟨a, vs, n, _, rfl, rfl, hv, hn.1, hn.2, hw1, ?_⟩
                obtain ⟨p6, μ6, Γ6, s6, e6, h6⟩ := tD_bindS s5 e5 k5
                refine ⟨p6, μ6, Γ6, s6, e6, ?_⟩
                match hg6 : ge Γ6 μ6, h6 with
                | some (.exc c4 t4 μ4), h6 => exact h6
                | some (.ok t7 μ7), h6 =>
                  intro v8 H8 q8 hl8 hs8 hr8
                  obtain ⟨q9, μ9, t9, l9, s9, e9, r9, k9⟩ := h6 v8 H8 q8 hl8 hs8 hr8
                  split at k9
                  · rename_i fy y us hus
                    cases r9.int
                    split at k9
                    · rename_i r kk hr hk
                      have hja9 : q9.ms[j]? = some a := by
                        obtain ⟨x, hx⟩ := l9.m
                        rw [← hx, List.getElem?_append_left (List.getElem?_eq_some_iff.mp hja).1]
                        exact hja
                      obtain ⟨vs9, hv9, rv9⟩ := s9.cell j a _ hja9 hus
                      exact ⟨z, y, r, rfl, rfl, hr, a, vs9, n, kk, rfl, rfl, hv9, by rw [rv9.length]; exact hk, k9 _ _ q9 (.refl _) (s9.write hja9 hus rfl rfl (c' := .lst (us.set kk (.v true (.int r)))) ⟨_, upd_same, RTs.set (show RT Z q9 (.int r) (.v true (.int r)) from Dx.int _) kk rv9⟩) e9⟩
                    · exact k9.elim
                  · exact k9.elim
              · exact k5.elim
            · exact k5.elim
          · exact k5.elim
        · exact k5.elim
end
end L3

set_option Elab.async false
set_option linter.all false
set_option maxRecDepth 100000
set_option maxHeartbeats 4000000
/-! L3, twenty-third part: isinstance of an own class. -/
namespace L3
open PySem PySem.Spec PyProof.Rows L2

/-- what the class says of __class__ -/
structure IsC (K : PySem.W.Frag) (C : Addr) : Prop where
  ha : PySem.W.findIn K (.ref C) "__class__" = some (some (.builtin "object.__class__"))
  hn : PySem.W.specialIn K (.builtin "object.__class__") "__get__" = some (some (.builtin "getset_descriptor.__get__"))
  ht : PySem.W.takesIn K (.builtin "object.__class__") = some true
  hm : PySem.W.mroIn K C (.type "object") = some true
def isiV (c : Nat) (μ : Mu) (t : T) : Vt := match objOf μ t with
  | some (c', _) => if c' = c then some (.v true (.bl true), μ) else none
  | none => none
section
variable {X : Cx} {Z : Ent} {W : Wish} {k : Nat} {o : Expr} {go : De} {y : Str} {p p2 pos : Pos} {C : Addr}
theorem xe_isi {c : Nat} {names : List Str} (B : Be X Z W k) (hC : Z.TB.cls c = some (C, names)) (cl : Cls X.K C) (i : IsC X.K C) (hg : Gl X "isinstance") (hm : X.mg "isinstance" = none) (hgC : Gl X y) (hmC : X.mg y = some (.ref C)) (hy : (y == ("__debug__" : Str)) = false)
    (ho : PE X o (tD Z W go)) (he : starEach [o, .Name y p2] X.env = (false, eval o X.env) :: starEach [.Name y p2] X.env) (he2 : starEach [.Name y p2] X.env = (false, eval (.Name y p2) X.env) :: starEach [] X.env)
    (hpl : (backTo pos (starEach [.Name y p2] X.env)).any (·.1) = false) : PE X (.Call (.Name "isinstance" p) [o, .Name y p2] [] pos) (tD Z W (d1 (isiV c) go)) :=
  pe_imp (pe_callB call_isi hg hm (by rfl) (pa_cons ho (pa_cons (pe_glob (v := .ref C) hgC hmC rfl hy) pa_nil he2) he) (by decide) (by rfl) he hpl) fun σ H Q h => by
    obtain ⟨p', μ', Γ', s', e', h'⟩ := one h
    refine ⟨p', μ', Γ', s', e', ?_⟩
    match hg : go Γ' μ', h' with
    | some (.exc c t μ1), h' => exact h'
    | some (.ok t μ1), h' =>
      intro v H' q hl hs hr
      obtain ⟨q1, μ2, t2, s1, r1, k1⟩ := h' v H' q hl hs hr
      unfold isiV at k1
      split at k1
      · rename_i c' ts hob
        split at k1
        · rename_i hc
          subst hc
          obtain ⟨a, C', dx, fs, names', rfl, h1, h2, h3, h4⟩ := obj_ok s1 r1 hob
          rw [hC] at h2
          cases h2
          refine ⟨.ref a, .ref C, .ref C, .ref C, true, rfl, .own C, .base (.ins h1 cl i.ha i.hn i.ht i.hm), ?_, k1 _ _ q1 (.refl _) s1 (Dx.bl _ : Dx Z.K Z.TB q1.N _ _)⟩
          unfold PySem.W.kitOne
          rw [if_pos (by simp)]
        · exact k1.elim
      · exact k1.elim
end
end L3

set_option Elab.async false
set_option linter.all false
set_option maxRecDepth 100000
set_option maxHeartbeats 4000000
/-! L3: sorted, of alike data of any shape. -/
namespace L3
open PySem PySem.Spec PyProof.Rows L2

def keyD (d : D) : PyData := d.py.getD .none
def sortD (ds : List D) : List D := ds.mergeSort (PySem.W.dataLe false keyD)
def rowHd : PyData → Bool
  | .tuple (_ :: _) => true
  | _ => false
def noRow : PyData → Bool
  | .tuple _ => false
  | .none => false
  | _ => true
/-- what sorted asks of the items -/
def okSort (ds : List D) : Bool := ds.all (fun d => d.py.isSome && decide ((keyD d).depth ≤ 40)) && (ds.all fun d => ds.all fun e => PySem.W.alike (keyD d) (keyD e)) && (ds.all (fun d => rowHd (keyD d)) || ds.all (fun d => noRow (keyD d)))
def sortV (live : Bool) (μ : Mu) : List T → Vt
  | [t] => match items μ t with
    | some (true, ts) => match pack ts with
      | some (f, ds) => if okSort ds then newL live μ ((sortD ds).map (.v f)) else none
      | none => none
    | _ => none
  | _ => none
section
variable {X : Cx} {Z : Ent} {W : Wish} {k : Nat}
theorem each_of {p : Pt} {f : Bool} : ∀ {vs : List V} {us : List Value} {ds : List D}, Vals vs us → DxAll Z.K Z.TB (if f then p.N else p.F) vs ds → PySem.W.EachIs (fun u d => ∃ v, RelV v u ∧ Dx Z.K Z.TB (if f then p.N else p.F) v d) us ds
  | _, _, _, .nil, .nil => .nil
  | _, _, _, .cons r g, .cons h q => .cons ⟨_, r, h⟩ (each_of g q)
theorem each_back {p : Pt} {f : Bool} : ∀ {us : List Value} {ds : List D}, PySem.W.EachIs (fun u d => ∃ v, RelV v u ∧ Dx Z.K Z.TB (if f then p.N else p.F) v d) us ds → ∃ vs, Vals vs us ∧ RTs Z p vs (ds.map (.v f))
  | _, _, .nil => ⟨[], .nil, .nil⟩
  | _, _, .cons ⟨v, r, h⟩ q => by
    obtain ⟨vs, h1, h2⟩ := each_back q
    refine ⟨v :: vs, .cons r h1, .cons ?_ h2⟩
    cases f
    · exact h
    · exact h
theorem each_imp {α β : Type} {R S : α → β → Prop} : ∀ {as : List α} {bs : List β}, PySem.W.EachIs R as bs → (∀ a b, b ∈ bs → R a b → S a b) → PySem.W.EachIs S as bs
  | _, _, .nil, _ => .nil
  | _, _, .cons h t, i => .cons (i _ _ List.mem_cons_self h) (each_imp t fun a b hb => i a b (List.mem_cons_of_mem _ hb))
theorem call_sortV (B : Be X Z W k) (live : Bool) : CallR X (.builtin "sorted") (rVs Z (sortV live)) := by
  intro pins s σ H xs us Q I r h
  obtain ⟨p, μ, ts, sr, rt, h⟩ := h
  unfold sortV at h
  split at h
  · rename_i t
    obtain ⟨v, rfl, hv⟩ := rt.one
    split at h
    · rename_i tsi hi
      split at h
      · rename_i f ds hp
        split at h
        · rename_i ok
          unfold okSort at ok
          rw [Bool.and_eq_true_iff, Bool.and_eq_true_iff] at ok
          obtain ⟨⟨ok1, ok2⟩, ok3⟩ := ok
          have k1 : ∀ d ∈ ds, d.py.isSome = true ∧ (keyD d).depth ≤ 40 := fun d hd => by
            have := List.all_eq_true.mp ok1 d hd
            rw [Bool.and_eq_true_iff] at this
            exact ⟨this.1, of_decide_eq_true this.2⟩
          obtain ⟨a, vs, rfl, hS, hvs⟩ := items_ok sr hv hi
          obtain ⟨u, rfl, ru⟩ := vals1 r
          obtain rfl : u = Value.ref a := ru
          have hS : SqL X.K H a vs := by rw [B.hK]; exact hS
          obtain ⟨its, rv, pl, hz⟩ := I.list hS
          obtain ⟨p1, p2⟩ := pack_ok sr hp hvs
          have dx : DxAll Z.K Z.TB (if f then p.N else p.F) vs ds := by
            cases f
            · exact p2
            · exact p1 rfl
          have up : Same (if f then p.N else p.F) H := by
            cases f
            · exact sr.sub
            · exact sr.nin.trans sr.sub
          have el := dx.length
          refine PySem.W.sorted_data (enc := keyD) (bs := ds) pl.isList (each_of rv dx) (each_imp (each_of rv dx) fun u d hd ⟨v, r1, h1⟩ => ?_) (fun d hd e he => ?_) ?_ (by rw [← el]; exact hz) (fun d hd => ?_) fun out hlen ho => ?_
          · obtain ⟨e, he⟩ := Option.isSome_iff_exists.mp (k1 d hd).1
            have hk : keyD d = e := by unfold keyD; rw [he]; rfl
            rw [hk]
            have q := Dx.py d (Dx.mono up d h1) he
            rw [← B.hK] at q
            exact Dp.reads I e v u q r1
          · obtain ⟨d', hd', rfl⟩ := List.mem_map.mp hd
            obtain ⟨e', he', rfl⟩ := List.mem_map.mp he
            exact List.all_eq_true.mp (List.all_eq_true.mp ok2 d' hd') e' he'
          · rw [Bool.or_eq_true_iff] at ok3
            rcases ok3 with z | z
            · refine .inl fun d hd => ?_
              obtain ⟨d', hd', rfl⟩ := List.mem_map.mp hd
              have := List.all_eq_true.mp z d' hd'
              unfold rowHd at this
              split at this
              · rename_i x r e
                exact ⟨x, r, e⟩
              · cases this
            · refine .inr fun d hd => ?_
              obtain ⟨d', hd', rfl⟩ := List.mem_map.mp hd
              have := List.all_eq_true.mp z d' hd'
              refine ⟨fun e => ?_, fun xs e => ?_⟩
              · rw [e] at this; cases this
              · rw [e] at this; cases this
          · have := (k1 d hd).2
            have := B.hu
            omega
          · obtain ⟨ys, hy, ry⟩ := each_back ho
            obtain ⟨ep, he⟩ := PyProof.Rows.sortedAll_at s.heap its out.toArray
            have hfree : H (s.heap.objs.size + 1) = none := I.hok.fresh (Nat.le_succ _)
            refine ⟨.ref (s.heap.objs.size + 1), upd H (s.heap.objs.size + 1) (.lst ys), I.laid (t' := s.toks) (fun b o e => PyProof.Rows.sortedAll_old e) (Nat.le_succ _) ⟨?_, out, ep, hy, he⟩, rfl, newL_ok sr ry h hfree⟩
            rw [hy.length, hlen, ← el]
            exact hz
        · exact h.elim
      · exact h.elim
    · exact h.elim
  · exact h.elim
end
end L3

set_option Elab.async false
set_option linter.all false
set_option maxRecDepth 100000
set_option maxHeartbeats 4000000
/-! L3: a list that stands still from now on, where it is. -/
namespace L3
open PySem PySem.Spec PyProof.Rows L2
def fzV (m0 : Nat) (t : T) (μ : Mu) : Vt := match t with
  | .m j => match μ[j]? with
    | some (.lst ts) => match pack ts with
      | some (f, ds) => if m0 ≤ j then some (.v f (.lst ds), μ.set j (.frz f (.lst ds))) else none
      | none => none
    | some (.frz f d) => some (.v f d, μ)
    | _ => none
  | .v f d => some (.v f d, μ)
def dFz (m0 : Nat) (g : De) : De := fun Γ μ => Ot.bind (g Γ μ) fun t μ1 => (fzV m0 t μ1).ot
section
variable {X : Cx} {Z : Ent} {W : Wish} {e : Expr} {ge : De}
theorem xe_fz {m0 : Nat} (hm : Z.ms0.length = m0) (h : PE X e (tD Z W ge)) : PE X e (tD Z W (dFz m0 ge)) := by
  subst hm
  refine pe_imp h fun σ H Q ⟨p, μ, Γ, s, er, h⟩ => ⟨p, μ, Γ, s, er, ?_⟩
  unfold dFz at h
  cases hg : ge Γ μ with
  | none => rw [hg] at h; exact h.elim
  | some rr =>
    rw [hg] at h
    cases rr with
    | exc _ _ _ => exact h
    | ok t μ1 =>
      intro v H' q l s1 r1
      replace h : Post Z W σ Q p (fzV Z.ms0.length t μ1).ot := h
      replace h := VPost.post h
      unfold fzV at h
      split at h
      · rename_i j
        obtain ⟨a, hj, rfl⟩ := r1
        split at h
        · rename_i ts hts
          split at h
          · rename_i f ds hp
            split at h
            · rename_i h0
              obtain ⟨o, ho, s2, l2, r2⟩ := s1.freeze hj hts h0 hp
              exact h _ _ _ (l.trans l2) s2 r2
            · exact h.elim
          · exact h.elim
        · rename_i f d hf
          exact h _ _ q l s1 (s1.cell j a _ hj hf)
        · exact h.elim
      · exact h _ _ q l s1 r1
end

/-! what loops and comprehensions come to -/
def lcOut (P : Nat → Bool) (E : Nat → T) : Nat → Nat → List T
  | 0, _ => []
  | k + 1, i => (if P i then [E i] else []) ++ lcOut P E k (i + 1)
theorem lc_ev {v : ItV} {g : Dg} {c : Db} {e : De} {own : List Nat} {Γ : Gam} {μ0 : Mu} {n : Nat} {P : Nat → Bool} {E : Nat → T} (hz : n ≤ sizeLine) (hok : ∀ acc : List T, v.ok (μ0 ++ [.lst acc]) = true)
    (h : ∀ (i : Nat) (acc : List T), i < n → ∃ y Γ1, v.at (μ0 ++ [.lst acc]) i = some y ∧ g y (wipeG Γ own) (μ0 ++ [.lst acc]) = some Γ1 ∧ c Γ1 (μ0 ++ [.lst acc]) = some (.ok (P i) (μ0 ++ [.lst acc])) ∧
      (P i = true → e Γ1 (μ0 ++ [.lst acc]) = some (.ok (E i) (μ0 ++ [.lst acc])))) :
    ∀ (k i : Nat) (acc : List T), i + k = n → acc.length ≤ i → lcD v g c e own μ0.length Γ k i (μ0 ++ [.lst acc]) = some (μ0 ++ [.lst (acc ++ lcOut P E k i)])
  | 0, i, acc, _, _ => by simp [lcD, hok, lcOut]
  | k + 1, i, acc, hi, ha => by
    obtain ⟨y, Γ1, h1, h2, h3, h4⟩ := h i acc (by omega)
    unfold lcD
    rw [if_pos (hok acc), h1]
    simp only [h2, h3]
    cases hP : P i with
    | false =>
      have := lc_ev hz hok h k (i + 1) acc (by omega) (by omega)
      simp [this, lcOut, hP]
    | true =>
      have e1 := h4 hP
      have hget : (μ0 ++ [Cell.lst acc])[μ0.length]? = some (.lst acc) := by simp
      have hset : (μ0 ++ [Cell.lst acc]).set μ0.length (.lst (acc ++ [E i])) = μ0 ++ [.lst (acc ++ [E i])] := by simp
      have := lc_ev hz hok h k (i + 1) (acc ++ [E i]) (by omega) (by simp; omega)
      simp only [e1, hget, hset]
      rw [if_pos (by omega), this]
      simp [lcOut, hP]
/-- a comprehension whose list stands still -/
theorem dlc_ev {it : Di} {v : ItV} {g : Dg} {c : Db} {e : De} {own : List Nat} {Γ : Gam} {μ μ0 : Mu} {n m0 : Nat} {P : Nat → Bool} {E : Nat → T} {f : Bool} {ds : List D} (hit : it Γ μ = some (.ok v μ0)) (hn : v.len = n) (hz : n ≤ sizeLine) (hok : ∀ acc : List T, v.ok (μ0 ++ [.lst acc]) = true)
    (h : ∀ (i : Nat) (acc : List T), i < n → ∃ y Γ1, v.at (μ0 ++ [.lst acc]) i = some y ∧ g y (wipeG Γ own) (μ0 ++ [.lst acc]) = some Γ1 ∧ c Γ1 (μ0 ++ [.lst acc]) = some (.ok (P i) (μ0 ++ [.lst acc])) ∧
      (P i = true → e Γ1 (μ0 ++ [.lst acc]) = some (.ok (E i) (μ0 ++ [.lst acc])))) (hp : pack (lcOut P E n 0) = some (f, ds)) (hm : m0 ≤ μ0.length) (hl : μ0.all (Cell.low μ0.length) = true) :
    dLc false m0 it g c e own Γ μ = some (.ok (.v f (.lst ds)) μ0) := by
  subst hn
  have q := lc_ev hz hok h v.len 0 [] (by omega) (by simp)
  simp only [List.nil_append] at q
  unfold dLc
  rw [hit]
  simp only [Ot.bind, q, lcEnd]
  simp [hp, hm, hl, Vt.ot]
/-- a comprehension whose list lives on -/
theorem dlc_evL {it : Di} {v : ItV} {g : Dg} {c : Db} {e : De} {own : List Nat} {Γ : Gam} {μ μ0 : Mu} {n m0 : Nat} {P : Nat → Bool} {E : Nat → T} (hit : it Γ μ = some (.ok v μ0)) (hn : v.len = n) (hz : n ≤ sizeLine) (hok : ∀ acc : List T, v.ok (μ0 ++ [.lst acc]) = true)
    (h : ∀ (i : Nat) (acc : List T), i < n → ∃ y Γ1, v.at (μ0 ++ [.lst acc]) i = some y ∧ g y (wipeG Γ own) (μ0 ++ [.lst acc]) = some Γ1 ∧ c Γ1 (μ0 ++ [.lst acc]) = some (.ok (P i) (μ0 ++ [.lst acc])) ∧
      (P i = true → e Γ1 (μ0 ++ [.lst acc]) = some (.ok (E i) (μ0 ++ [.lst acc])))) :
    dLc true m0 it g c e own Γ μ = some (.ok (.m μ0.length) (μ0 ++ [.lst (lcOut P E n 0)])) := by
  subst hn
  have q := lc_ev hz hok h v.len 0 [] (by omega) (by simp)
  simp only [List.nil_append] at q
  unfold dLc
  rw [hit]
  simp [Ot.bind, q, lcEnd, Vt.ot]

/-! what meanings come to, step by step -/
@[simp] theorem bind_ok {α β : Type} (a : α) (μ : Mu) (k : α → Mu → Ot β) : Ot.bind (some (.ok a μ)) k = k a μ := rfl
@[simp] theorem bindS_ok {α : Type} (a : α) (μ : Mu) (Γ : Gam) (k : α → Mu → Option Eo) : Ot.bindS (some (.ok a μ)) Γ k = k a μ := rfl
@[simp] theorem ot_some (t : T) (μ : Mu) : Vt.ot (some (t, μ)) = some (.ok t μ) := rfl
@[simp] theorem eqT_int (μ : Mu) (f g : Bool) (i j : Int) : L3.eqT μ (.v f (.int i)) (.v g (.int j)) = some (decide (i = j)) := rfl
@[simp] theorem eqT_str (μ : Mu) (f g : Bool) (i j : Str) : L3.eqT μ (.v f (.str i)) (.v g (.str j)) = some (decide (i = j)) := rfl
@[simp] theorem items_lst (μ : Mu) (f : Bool) (ds : List D) : items μ (.v f (.lst ds)) = some (true, ds.map (mkT f)) := rfl
@[simp] theorem items_tup (μ : Mu) (f : Bool) (ds : List D) : items μ (.v f (.tup ds)) = some (false, ds.map (mkT f)) := rfl
@[simp] theorem items_scr (μ : Mu) (f : Bool) (ns : List Int) : items μ (.v f (.scr ns)) = some (true, ns.map fun n => .v true (.int n)) := rfl
theorem items_m {μ : Mu} {j : Nat} {ts : List T} (h : μ[j]? = some (.lst ts)) : items μ (.m j) = some (true, ts) := by simp [items, h]
@[simp] theorem mkT_int (f : Bool) (i : Int) : mkT f (.int i) = .v true (.int i) := by simp [mkT, D.atom]
@[simp] theorem mkT_str (f : Bool) (i : Str) : mkT f (.str i) = .v true (.str i) := by simp [mkT, D.atom]
theorem at_nat {α : Type} {l : List α} {i : Int} {x : α} (h0 : 0 ≤ i) (h : l[i.toNat]? = some x) : atI l i = some x := by
  have hl := (List.getElem?_eq_some_iff.mp h).1
  unfold atI ixN
  rw [if_pos h0, if_pos (by omega)]
  exact h
/-- a place of a list -/
theorem ix_ev {μ : Mu} {t : T} {b : Bool} {ts : List T} {f : Bool} {i : Int} {x : T} (hs : ∀ fl z, t ≠ .v fl (.str z)) (hi : items μ t = some (b, ts)) (h0 : 0 ≤ i) (h : ts[i.toNat]? = some x) : ixV μ t (.v f (.int i)) = some (x, μ) := by
  have e : ixV μ t (.v f (.int i)) = match items μ t with
      | some (_, ts) => match atI ts i with
        | some t => some (t, μ)
        | none => none
      | none => none := by
    unfold ixV
    cases t with
    | m _ => rfl
    | v fl d => cases d <;> first | rfl | exact absurd rfl (hs _ _)
  rw [e, hi]
  simp only
  rw [at_nat h0 h]
theorem log2_le {a b : Nat} (h : a ≤ b) : a.log2 ≤ b.log2 := by
  by_cases h0 : a = 0
  · subst h0; simp
  · by_cases hb : b = 0
    · omega
    · rw [Nat.le_log2 hb]
      exact Nat.le_trans (Nat.log2_self_le h0) h
theorem bits_le {a b : Int} (h0 : 0 ≤ a) (h : a ≤ b) : bitsI a ≤ bitsI b := log2_le (by omega)
theorem div_ev {i j : Int} (h : 0 < j) (hb : bitsI j < 9000) : L3.binI .FloorDiv i j = some (i / j) := if_pos ⟨h, hb⟩
theorem mod_ev {i j : Int} (h : 0 < j) : L3.binI .Mod i j = some (i % j) := if_pos h
theorem mul_ev {i j : Int} (h : bitsI i + bitsI j < 100000000) : L3.binI .Mult i j = some (i * j) := if_pos h
theorem bits_of {z : Int} (h : Builtin.Int.intBits z ≤ 1048576) : bitsI z ≤ 1048576 := by
  unfold bitsI
  unfold Builtin.Int.intBits at h
  split at h
  · rename_i e
    simp at e
    subst e
    decide
  · omega
theorem rng1_ev {da : Da} {Γ : Gam} {μ μ1 : Mu} {f : Bool} {n : Int} (h : da Γ μ = some (.ok [.v f (.int n)] μ1)) (hb : -(2 ^ 62) ≤ n ∧ n < 2 ^ 62) : iRng1D da Γ μ = some (.ok (.rng 0 n.toNat) μ1) := by
  unfold iRng1D
  rw [h]
  exact if_pos hb
theorem for_ev {it : Di} {g : Dg} {b : Ds} {Γ : Gam} {μ μ1 : Mu} {v : ItV} {r : Option Eo} (h : it Γ μ = some (.ok v μ1)) (hf : forD v g b v.len 0 Γ μ1 = r) : sFor it g b Γ μ = r := by
  unfold sFor
  rw [h]
  exact hf
theorem seq_nx {a b : Ds} {Γ Γ1 : Gam} {μ μ1 : Mu} (h : a Γ μ = some (.nx Γ1 μ1)) : sSeq a b Γ μ = b Γ1 μ1 := by unfold sSeq; rw [h]
/-- a for over a range -/
theorem for_rng {lo : Int} {n : Nat} {g : Dg} {b : Ds} (J : Nat → Gam → Mu → Prop)
    (step : ∀ i Γ μ, i < n → J i Γ μ → ∃ Γ1 Γ2 μ2, g (.one (.v true (.int (lo + i)))) Γ μ = some Γ1 ∧ (b Γ1 μ = some (.nx Γ2 μ2) ∨ b Γ1 μ = some (.ct Γ2 μ2)) ∧ J (i + 1) Γ2 μ2) :
    ∀ (k i : Nat) (Γ : Gam) (μ : Mu), i + k = n → J i Γ μ → ∃ Γ' μ', forD (.rng lo n) g b k i Γ μ = some (.nx Γ' μ') ∧ J n Γ' μ'
  | 0, i, Γ, μ, h, hj => by
    have : i = n := by omega
    subst this
    exact ⟨Γ, μ, by simp [forD, ItV.ok], hj⟩
  | k + 1, i, Γ, μ, h, hj => by
    obtain ⟨Γ1, Γ2, μ2, h1, h2, h3⟩ := step i Γ μ (by omega) hj
    obtain ⟨Γ', μ', h4, h5⟩ := for_rng J step k (i + 1) Γ2 μ2 (by omega) h3
    refine ⟨Γ', μ', ?_, h5⟩
    rcases h2 with h2 | h2
    · simp [forD, ItV.ok, ItV.at, h1, h2, h4]
    · simp [forD, ItV.ok, ItV.at, h1, h2, h4]
/-- a for, turn by turn -/
theorem for_inv {v : ItV} {g : Dg} {b : Ds} {n : Nat} (J : Nat → Gam → Mu → Prop) (hok : ∀ i Γ μ, i ≤ n → J i Γ μ → v.ok μ = true)
    (step : ∀ i Γ μ, i < n → J i Γ μ → ∃ y Γ1 Γ2 μ2, v.at μ i = some y ∧ g y Γ μ = some Γ1 ∧ (b Γ1 μ = some (.nx Γ2 μ2) ∨ b Γ1 μ = some (.ct Γ2 μ2)) ∧ J (i + 1) Γ2 μ2) :
    ∀ (k i : Nat) (Γ : Gam) (μ : Mu), i + k = n → J i Γ μ → ∃ Γ' μ', forD v g b k i Γ μ = some (.nx Γ' μ') ∧ J n Γ' μ'
  | 0, i, Γ, μ, h, hj => by
    have : i = n := by omega
    subst this
    exact ⟨Γ, μ, by simp [forD, hok i Γ μ (Nat.le_refl _) hj], hj⟩
  | k + 1, i, Γ, μ, h, hj => by
    obtain ⟨y, Γ1, Γ2, μ2, h0, h1, h2, h3⟩ := step i Γ μ (by omega) hj
    obtain ⟨Γ', μ', h4, h5⟩ := for_inv J hok step k (i + 1) Γ2 μ2 (by omega) h3
    refine ⟨Γ', μ', ?_, h5⟩
    rcases h2 with h2 | h2
    · simp [forD, hok i Γ μ (by omega) hj, h0, h1, h2, h4]
    · simp [forD, hok i Γ μ (by omega) hj, h0, h1, h2, h4]
theorem erase_map {α β : Type} (f : α → β) : ∀ (l : List α) (k : Nat), (l.map f).eraseIdx k = (l.eraseIdx k).map f
  | [], _ => rfl
  | _ :: _, 0 => rfl
  | x :: l, k + 1 => by
    show f x :: (l.map f).eraseIdx k = f x :: (l.eraseIdx k).map f
    rw [erase_map f l k]
theorem erase_perm {α : Type} : ∀ (l : List α) (k : Nat) (h : k < l.length), (l[k] :: l.eraseIdx k).Perm l
  | x :: l, 0, _ => .refl _
  | x :: l, k + 1, h => by
    have h' : k < l.length := by simpa using h
    have ih := erase_perm l k h'
    show (l[k] :: x :: l.eraseIdx k).Perm (x :: l)
    exact (List.Perm.swap ..).trans (ih.cons x)
end L3

set_option Elab.async false
set_option linter.all false
set_option maxRecDepth 100000
set_option maxHeartbeats 4000000
/-! L3, last part: the law is called. -/
namespace L3
open PySem PySem.Spec PyProof.Rows L2

/-- what a call of the law must come to -/
abbrev EndOk (s1 : Shared) (r : Result) (s2 : Shared) : Prop := r = .ok (.ret (.bool true)) ∧ OldK s1.heap s2.heap ∧ s2.os = s1.os ∧ AllBare s2.gens
/-- nothing is tracked but the script -/
def scrH (a : Addr) (o : Obj) (ns : List Int) : Hp := fun b => if b = a then some (.frz o (.lst (ns.map V.int))) else none
theorem scrH_at {a : Addr} {o : Obj} {ns : List Int} : scrH a o ns a = some (.frz o (.lst (ns.map V.int))) := if_pos rfl
theorem scrH_off {a b : Addr} {o : Obj} {ns : List Int} (h : b ≠ a) : scrH a o ns b = none := if_neg h
section
variable {P : Program} {w : World} {K : PySem.W.Frag} {mg mb : Str → Option Value} {k : Nat} {fa a : Addr} {fd : FuncData} {x : Str} {sp : Sp} {s1 : Shared} {vs : List Value} {ns : List Int}
/-- one tracked heap, the script's at most, and the def's promise over it -/
theorem enter1 (hk : K.In s1.heap) (hm : s1.heap.Ns mainGlobals mg) (hb : s1.heap.Ns builtinsNs mb) (hbb : ∀ y : Str, y ≠ "__name__" → mb y = bootBuiltins y) (hlm : s1.heap.NoLimit) (hgn : s1.gens = #[])
    (hobj : s1.heap.get? a = some { cls := .type "list", data := .seq vs.toArray }) (hroom : Room k callerA) (hgd : callerA.guards = some [])
    (F : ∀ base : Heap, K.In base → base.Ns mainGlobals mg → FnG P w K mg base k fa fd [x] sp) (hbind : ∀ (s : Shared) (u : Value), BindsTo s fd ⟨[u], []⟩ [(x, u)])
    {H : Hp} (hO : Only H) (hok : HOk P w H s1.heap) (hA : ∀ b, H b ≠ none → b = a) (hK : H a ≠ none → K.lookup a = none) (hsp : sp [.ref a] H (fun v _ => v = .bl true) fun _ _ _ => False) :
    codeAny (model P w) callerA (.call (.ref fa) ⟨[.ref a], []⟩) (EndOk s1) s1 := by
  -- the base: all that is not tracked
  have low : ∀ {b : Addr} {o : Obj}, s1.heap.get? b = some o → (b = a → H a = none) → (hidT s1.heap H).get? b = some o := fun {b o} e n => hidT_get e (by
    by_cases hba : b = a
    · rw [hba]; exact n hba
    · cases q : H b with
      | none => rfl
      | some u => exact absurd (hA b (by rw [q]; intro z; cases z)) hba)
  have dicts : ∀ {b : Addr} {m : Str → Option Value}, s1.heap.Ns b m → (hidT s1.heap H).Ns b m := fun {b m} ⟨o, es, ep, e, d, r⟩ => ⟨o, es, ep, (low e fun z => by
    subst z
    rw [hobj] at e
    cases e
    have d' : Data.seq vs.toArray _ = Data.dict es ep := d
    cases d'), d, r⟩
  have inB : K.In (hidT s1.heap H) := fun b o e => low (hk b o e) fun z => by
    subst z
    cases q : H b with
    | none => rfl
    | some u =>
      rw [hK (by rw [q]; intro z; cases z)] at e
      cases e
  have hMod : Mod K mg (hidT s1.heap H) := ⟨inB, dicts hm, ⟨mb, dicts hb, hbb⟩, match hlm with | ⟨mc, q1, q2⟩ => ⟨mc, dicts q1, q2⟩⟩
  have hEnv : Env0 P w K mg (hidT s1.heap H) callerA [] s1 H := {
    frames := rfl
    mod := hMod
    bs := fun b o e => of_hidT e
    bsz := Nat.le_of_eq (hidT_size _ _)
    funs := trivial
    frf := fun b hb => by cases hb
    hok := hok
    bare := .of_eq hgn }
  have run := (F _ inB (dicts hm)).run callerA [] s1 H ⟨[.ref a], []⟩ [.ref a] [.ref a] _ _ hroom hgd hEnv (hbind s1 (.ref a)) (.cons rfl .nil) hsp
  refine codeAny_mono run fun r s2 h => ?_
  match r, h with
  | .error e, h =>
    obtain ⟨_, _, _, _, _, _, _, _, _, _, _, _, no⟩ := (show L2.CX P w [] H s1 (fun _ _ _ => False) e s2 from h)
    exact no.elim
  | .ok (.ret u), ⟨v, H2, os, bare, un, hok2, rv, ev⟩ =>
    have ev : v = .bl true := ev
    subst ev
    obtain rfl : u = Value.bool true := rv
    refine ⟨rfl, OldK.of_keep fun b o e => ?_, os, bare⟩
    cases q : H b with
    | none => exact un.keep b o e q (fun z => by cases z) (fun z => by cases z)
    | some u =>
      rcases hO b with z | ⟨ob, xs, z⟩
      · rw [q] at z; cases z
      · obtain ⟨e1, _⟩ := hok b _ z
        obtain ⟨e2, _⟩ := hok2 b _ (un.frzs b ob _ z)
        rw [e] at e1
        cases e1
        exact e2
  | .ok .next, h => exact False.elim h
  | .ok .brk, h => exact False.elim h
  | .ok .cont, h => exact False.elim h
/-- the script's heap, and the law's promise over it -/
theorem enterD {TB : Tab} {g : List T → Mu → Ot T} (hk : K.In s1.heap) (hm : s1.heap.Ns mainGlobals mg) (hb : s1.heap.Ns builtinsNs mb) (hbb : ∀ y : Str, y ≠ "__name__" → mb y = bootBuiltins y) (hlm : s1.heap.NoLimit) (hgn : s1.gens = #[])
    (hobj : s1.heap.get? a = some { cls := .type "list", data := .seq vs.toArray }) (hints : IntsAre vs ns) (hz : ns.length ≤ sizeLine) (hroom : Room k callerA) (hgd : callerA.guards = some [])
    (F : ∀ base : Heap, K.In base → base.Ns mainGlobals mg → FnG P w K mg base k fa fd [x] (spD K TB g 1)) (hbind : ∀ (s : Shared) (u : Value), BindsTo s fd ⟨[u], []⟩ [(x, u)])
    (hg : ∃ f μ, g [.v false (.scr ns)] [] = some (.ok (.v f (.bl true)) μ)) : codeAny (model P w) callerA (.call (.ref fa) ⟨[.ref a], []⟩) (EndOk s1) s1 := by
  have owe : ∀ H : Hp, SqL K H a (ns.map V.int) → spD K TB g 1 [.ref a] H (fun v _ => v = .bl true) fun _ _ _ => False := fun H hS => by
    obtain ⟨f, μ, hg⟩ := hg
    refine ⟨rfl, H, [], [], [.v false (.scr ns)], ⟨Same.refl _, fun _ _ e => (nomatch e), fun _ _ e => (nomatch e), fun _ _ e => .inl e, fun _ _ e _ => e, fun _ o e => ⟨o, e⟩, List.prefix_refl _, List.nodup_nil, rfl, fun j a c e => by simp at e, fun a h => by simp at h, fun j a e => by simp at e, fun j a c e => by simp at e⟩, .cons (show Dx K TB H (.ref a) (.scr ns) from .scr hS) .nil, ?_⟩
    rw [hg]
    exact fun v H2 q l s r => r.bl
  have rv := L2.vals_ints hints
  cases hl : K.lookup a with
  | some o =>
    have e := hk a o hl
    rw [hobj] at e
    cases e
    exact enter1 (H := fun _ => none) hk hm hb hbb hlm hgn hobj hroom hgd F hbind (fun _ => .inl rfl) (fun b u z => by cases (show (none : Option HO) = some u from z)) (fun b z => absurd rfl z) (fun z => absurd rfl z)
      (owe _ (.inr ⟨_, vs.toArray, _, hl, rfl, rfl, rfl, by rw [List.size_toArray, hints.length]; exact hz, by simpa using rv⟩))
  | none =>
    refine enter1 (H := scrH a { cls := .type "list", data := .seq vs.toArray } ns) hk hm hb hbb hlm hgn hobj hroom hgd F hbind (fun b => ?_) (fun b u z => ?_) (fun b z => ?_) (fun _ => hl) (owe _ (.inl (.inr ⟨_, scrH_at⟩)))
    · rcases Decidable.em (b = a) with h | h
      · subst h
        exact .inr ⟨_, _, scrH_at⟩
      · exact .inl (scrH_off h)
    · rcases Decidable.em (b = a) with h | h
      · subst h
        rw [scrH_at] at z
        cases z
        exact ⟨hobj, by rw [List.length_map]; exact hz, vs, _, rv, hobj⟩
      · rw [scrH_off h] at z
        cases z
    · rcases Decidable.em (b = a) with h | h
      · exact h
      · exact absurd (scrH_off h) z
end
/-- THE END: the law's def has the meaning g, and g comes to True -/
theorem walkG {l : PySem.W.OpenLaw} {n k : Nat} {q : Program} {loose : List Str} {XP : (Str → Option Value) → Heap → Prop} {YP : World → Heap → Prop} {d : DefRec} {K : Params → PySem.W.Frag} {x : Str} {g : List T → Mu → Ot T}
    (hn : l.most = some n) (hz : n ≤ sizeLine) (hdf : d.params.defaults = []) (hroom : Room k callerA) (hgd : callerA.guards = some []) (hY : ∀ (w : World) (h : Heap), YP w h → (K w.params).In h)
    (F : ∀ (w : World) (mg : Str → Option Value) (fa : Addr) (h : Heap), (K w.params).In h → h.Ns mainGlobals mg → mg d.name = some (.ref fa) →
      ∃ (fd : FuncData) (TB : Tab), (∀ (s : Shared) (u : Value), BindsTo s fd ⟨[u], []⟩ [(x, u)]) ∧ ∀ base : Heap, (K w.params).In base → base.Ns mainGlobals mg → FnG l.prog w (K w.params) mg base k fa fd [x] (spD (K w.params) TB g 1))
    (hg : ∀ ns : List Int, ns.length ≤ n → (∀ z ∈ ns, Builtin.Int.intBits z ≤ 1048576) → ∃ f μ, g [.v false (.scr ns)] [] = some (.ok (.v f (.bl true)) μ)) :
    PySem.W.WalkO q loose XP YP l.row.toRowW d [] (fun f us => PySem.call f us) := by
  refine Att.attach_callB hn hdf fun w s0 s1 mg mb fa o pm cd doc a vs ns G Y ho hd hcd hmg hobj hints hlen hbits hgn => ?_
  have hk := hY w _ Y
  obtain ⟨fd, TB, hb, hF⟩ := F w mg fa _ hk G.T.g hmg
  exact enterD hk G.T.g G.T.b G.T.builtins G.T.nolimit hgn hobj hints (Nat.le_trans hlen hz) hroom hgd hF hb (hg ns hlen hbits)
end L3

set_option Elab.async false
set_option linter.all false
set_option maxRecDepth 100000
set_option maxHeartbeats 4000000
/-! L3: what a turn made is forgotten behind it; calls of defs that change nothing. -/
namespace L3
open PySem PySem.Spec PyProof.Rows L2
def lowO (k : Nat) : Option T → Option T
  | some t => if t.low k then some t else none
  | none => none
def sCut (m0 : Nat) (g : Ds) : Ds := fun Γ μ => match g Γ μ with
  | some (.nx Γ' μ') => if m0 ≤ μ.length ∧ (μ'.take μ.length).all (Cell.low μ.length) = true then some (.nx (Γ'.map (lowO μ.length)) (μ'.take μ.length)) else none
  | r => r
section
variable {X : Cx} {Z : Ent} {W : Wish} {body : List Stmt} {g : Ds} {p q : Pt} {σ : L2.St} {Γ : Gam}
theorem ER.lowMap (h : ER Z q σ Γ) (k : Nat) : ER Z (q.cut k) σ (Γ.map (lowO k)) := by
  refine ⟨by rw [List.length_map]; exact h.1, fun i t hi => ?_⟩
  rw [List.getElem?_map] at hi
  cases hg : Γ[i]? with
  | none => rw [hg] at hi; cases hi
  | some o =>
    rw [hg] at hi
    cases o with
    | none => cases hi
    | some u =>
      simp only [Option.map_some, lowO] at hi
      split at hi
      · rename_i hl
        cases hi
        obtain ⟨v, h1, h2⟩ := h.2 i _ hg
        exact ⟨v, h1, h2.low hl⟩
      · cases hi
theorem xss_cut {m0 : Nat} (hm : Z.ms0.length = m0) (h : PSs X body (tDS Z W g)) : PSs X body (tDS Z W (sCut m0 g)) := by
  subst hm
  refine pss_imp h fun D σ H ⟨p, μ, Γ, s, e, h⟩ => ⟨p, μ, Γ, s, e, ?_⟩
  unfold sCut at h
  cases hg : g Γ μ with
  | none => rw [hg] at h; exact h
  | some r =>
    rw [hg] at h
    cases r with
    | nx Γ' μ' =>
      simp only at h
      split at h
      · rename_i hc
        intro σ' H' q l s1 e1
        exact h σ' H' (q.cut μ.length) (s1.cut_le l (Nat.le_of_eq s.len)) (s1.cut hc.1 hc.2) (e1.lowMap _)
      · exact h.elim
    | rt _ _ => exact h
    | bk _ _ => exact h
    | ct _ _ => exact h
    | ex _ _ _ _ => exact h
end
/-! calls of defs that change nothing -/
theorem call_v {g : List T → Mu → Ot T} {live : Bool} {rf : List Bool} {ts us : List T} {μ : Mu} {f : Bool} {d : D} (hrf : refsOf rf ts = []) (ha : argsIn μ live rf ts 0 = some us) (h : g us [] = some (.ok (.v f d) [])) (hn : (!live || (f || d.atom)) = true) :
    callD g live rf ts μ = some (.ok (.v f d) μ) := by
  have hh : (if live = true then hide μ [] else μ) = μ := by cases live <;> rfl
  unfold callD
  rw [hrf, hh, ha]
  simp only [List.nodup_nil, if_true, cellsAt, h, back, T.news, List.all_nil, Bool.and_true, hn, ren, setAll, List.length_nil, List.take_nil, List.drop_nil, List.map_nil, List.append_nil]
theorem call_l {g : List T → Mu → Ot T} {live : Bool} {rf : List Bool} {ts us : List T} {μ : Mu} {ds : List D} (hrf : refsOf rf ts = []) (ha : argsIn μ live rf ts 0 = some us) (h : g us [] = some (.ok (.m 0) [.lst (ds.map (T.v true))])) :
    callD g live rf ts μ = some (.ok (.m μ.length) (μ ++ [.lst (ds.map (T.v true))])) := by
  have hh : (if live = true then hide μ [] else μ) = μ := by cases live <;> rfl
  have e1 : (ds.map (T.v true)).all T.news = true := by
    rw [List.all_eq_true]
    intro t ht
    obtain ⟨d, _, rfl⟩ := List.mem_map.mp ht
    rfl
  have e2 : (ds.map (T.v true)).map (ren [] μ.length) = ds.map (T.v true) := by
    rw [List.map_map]
    rfl
  unfold callD
  rw [hrf, hh, ha]
  simp only [List.nodup_nil, if_true, cellsAt, h, back, T.news, List.all_cons, List.all_nil, Cell.news, e1, Bool.and_true, Bool.or_true, setAll, List.length_nil, List.take_zero, List.drop_zero, List.map_nil, List.map_cons, renC, e2]
  rfl
/-- the same for a list whose items are living lists' -/
theorem pack_vs : ∀ ds : List D, pack (ds.map (T.v true)) = some (true, ds)
  | [] => rfl
  | d :: ds => by rw [List.map_cons, pack, pack_vs ds]; rfl
theorem frz_l {g : De} {Γ : Gam} {μ : Mu} {ds : List D} {m0 : Nat} (h : g Γ μ = some (.ok (.m μ.length) (μ ++ [.lst (ds.map (T.v true))]))) (hm : m0 ≤ μ.length) (hl : μ.all (Cell.low μ.length) = true) : dFrz m0 g Γ μ = some (.ok (.v true (.lst ds)) μ) := by
  unfold dFrz
  rw [h]
  have e : (μ ++ [Cell.lst (ds.map (T.v true))])[μ.length]? = some (.lst (ds.map (T.v true))) := by simp
  simp [Ot.bind, frzV, e, pack_vs, hm, hl, Vt.ot]
theorem frz_v {g : De} {Γ : Gam} {μ : Mu} {d : D} {f : Bool} {m0 : Nat} (h : g Γ μ = some (.ok (.v f d) μ)) (hl : μ.all (Cell.low μ.length) = true) : dFrz m0 g Γ μ = some (.ok (.v f d) μ) := by
  unfold dFrz
  rw [h]
  simp [Ot.bind, frzV, hl, Vt.ot]
/-! what a property comes to -/
theorem prop_v {g : List T → Mu → Ot T} {c : Nat} {go : De} {Γ : Gam} {μ : Mu} {fl f : Bool} {d : D} {xs : List D} (ho : go Γ μ = some (.ok (.v fl (.obj c xs)) μ)) (h : g [.v false (.obj c xs)] [] = some (.ok (.v f d) [])) :
    dProp g c false false go Γ μ = some (.ok (.v f d) μ) := by
  unfold dProp
  rw [ho]
  have := call_v (g := g) (live := false) (rf := [false]) (ts := [.v fl (.obj c xs)]) (us := [.v false (.obj c xs)]) (μ := μ) rfl rfl h rfl
  simp [Ot.bind, objOf, this]
theorem prop_l {g : List T → Mu → Ot T} {c : Nat} {go : De} {Γ : Gam} {μ : Mu} {fl : Bool} {f : Bool} {ds xs : List D} (ho : go Γ μ = some (.ok (.v fl (.obj c xs)) μ)) (h : g [.v false (.obj c xs)] [] = some (.ok (.m 0) [.lst (ds.map (T.v f))])) :
    dProp g c false false go Γ μ = some (.ok (.m μ.length) (μ ++ [.lst (ds.map (T.v f))])) := by
  unfold dProp
  rw [ho]
  have e2 : (ds.map (T.v f)).map (ren [] μ.length) = ds.map (T.v f) := by
    rw [List.map_map]
    rfl
  have : callD g false [false] [.v fl (.obj c xs)] μ = some (.ok (.m μ.length) (μ ++ [.lst (ds.map (T.v f))])) := by
    unfold callD
    rw [show refsOf [false] [T.v fl (.obj c xs)] = [] from rfl, show argsIn (if false = true then hide μ [] else μ) false [false] [.v fl (.obj c xs)] 0 = some [.v false (.obj c xs)] from rfl]
    simp only [List.nodup_nil, if_true, cellsAt, h, back, Bool.not_false, Bool.true_or, setAll, List.length_nil, List.take_zero, List.drop_zero, List.map_nil, List.map_cons, renC, e2]
    rfl
  simp [Ot.bind, objOf, this]
theorem pack_vf (f : Bool) : ∀ ds : List D, ∃ q, pack (ds.map (T.v f)) = some (q, ds)
  | [] => ⟨true, rfl⟩
  | d :: ds => by
    obtain ⟨q, h⟩ := pack_vf f ds
    exact ⟨f && q, by rw [List.map_cons, pack, h]⟩
theorem frz_f {g : De} {Γ : Gam} {μ : Mu} {f : Bool} {ds : List D} {m0 : Nat} (h : g Γ μ = some (.ok (.m μ.length) (μ ++ [.lst (ds.map (T.v f))]))) (hm : m0 ≤ μ.length) (hl : μ.all (Cell.low μ.length) = true) : ∃ q, dFrz m0 g Γ μ = some (.ok (.v q (.lst ds)) μ) := by
  obtain ⟨q, hq⟩ := pack_vf f ds
  refine ⟨q, ?_⟩
  unfold dFrz
  rw [h]
  have e : (μ ++ [Cell.lst (ds.map (T.v f))])[μ.length]? = some (.lst (ds.map (T.v f))) := by simp
  simp [Ot.bind, frzV, e, hq, hm, hl, Vt.ot]
end L3

set_option Elab.async false
set_option linter.all false
set_option maxRecDepth 100000
set_option maxHeartbeats 4000000
/-! L3: comprehensions within comprehensions: what was gathered so far speaks of no cell. -/
namespace L3
open PySem PySem.Spec PyProof.Rows L2
theorem T.low_up {k : Nat} : ∀ {t : T}, t.low 0 = true → t.low k = true
  | .v _ _, _ => rfl
  | .m j, h => by simp [T.low] at h
theorem low_all {k : Nat} {ts : List T} (h : ts.all (T.low 0) = true) : ts.all (T.low k) = true := by
  rw [List.all_eq_true] at h ⊢
  exact fun t ht => T.low_up (h t ht)
theorem low_app {μ : Mu} {acc : List T} {n : Nat} (h : μ.all (Cell.low n) = true) (ha : acc.all (T.low 0) = true) : (μ ++ [Cell.lst acc]).all (Cell.low n) = true := by
  rw [List.all_append, h]
  simp [Cell.low, low_all ha]
theorem lc_evP {v : ItV} {g : Dg} {c : Db} {e : De} {own : List Nat} {Γ : Gam} {μ0 : Mu} {n : Nat} {P : Nat → Bool} {E : Nat → T} (hz : n ≤ sizeLine) (hE : ∀ i, (E i).low 0 = true) (hok : ∀ acc : List T, v.ok (μ0 ++ [.lst acc]) = true)
    (h : ∀ (i : Nat) (acc : List T), i < n → acc.all (T.low 0) = true → ∃ y Γ1, v.at (μ0 ++ [.lst acc]) i = some y ∧ g y (wipeG Γ own) (μ0 ++ [.lst acc]) = some Γ1 ∧ c Γ1 (μ0 ++ [.lst acc]) = some (.ok (P i) (μ0 ++ [.lst acc])) ∧
      (P i = true → e Γ1 (μ0 ++ [.lst acc]) = some (.ok (E i) (μ0 ++ [.lst acc])))) :
    ∀ (k i : Nat) (acc : List T), i + k = n → acc.length ≤ i → acc.all (T.low 0) = true → lcD v g c e own μ0.length Γ k i (μ0 ++ [.lst acc]) = some (μ0 ++ [.lst (acc ++ lcOut P E k i)])
  | 0, i, acc, _, _, _ => by simp [lcD, hok, lcOut]
  | k + 1, i, acc, hi, ha, hl => by
    obtain ⟨y, Γ1, h1, h2, h3, h4⟩ := h i acc (by omega) hl
    unfold lcD
    rw [if_pos (hok acc), h1]
    simp only [h2, h3]
    cases hP : P i with
    | false =>
      have := lc_evP hz hE hok h k (i + 1) acc (by omega) (by omega) hl
      simp [this, lcOut, hP]
    | true =>
      have e1 := h4 hP
      have hget : (μ0 ++ [Cell.lst acc])[μ0.length]? = some (.lst acc) := by simp
      have hset : (μ0 ++ [Cell.lst acc]).set μ0.length (.lst (acc ++ [E i])) = μ0 ++ [.lst (acc ++ [E i])] := by simp
      have := lc_evP hz hE hok h k (i + 1) (acc ++ [E i]) (by omega) (by simp; omega) (by simp [hl, hE])
      simp only [e1, hget, hset]
      rw [if_pos (by omega), this]
      simp [lcOut, hP]
theorem dlc_evP {it : Di} {v : ItV} {g : Dg} {c : Db} {e : De} {own : List Nat} {Γ : Gam} {μ μ0 : Mu} {n m0 : Nat} {P : Nat → Bool} {E : Nat → T} {f : Bool} {ds : List D} (hit : it Γ μ = some (.ok v μ0)) (hn : v.len = n) (hz : n ≤ sizeLine) (hE : ∀ i, (E i).low 0 = true) (hok : ∀ acc : List T, v.ok (μ0 ++ [.lst acc]) = true)
    (h : ∀ (i : Nat) (acc : List T), i < n → acc.all (T.low 0) = true → ∃ y Γ1, v.at (μ0 ++ [.lst acc]) i = some y ∧ g y (wipeG Γ own) (μ0 ++ [.lst acc]) = some Γ1 ∧ c Γ1 (μ0 ++ [.lst acc]) = some (.ok (P i) (μ0 ++ [.lst acc])) ∧
      (P i = true → e Γ1 (μ0 ++ [.lst acc]) = some (.ok (E i) (μ0 ++ [.lst acc])))) (hp : pack (lcOut P E n 0) = some (f, ds)) (hm : m0 ≤ μ0.length) (hl : μ0.all (Cell.low μ0.length) = true) :
    dLc false m0 it g c e own Γ μ = some (.ok (.v f (.lst ds)) μ0) := by
  subst hn
  have q := lc_evP hz hE hok h v.len 0 [] (by omega) (by simp) rfl
  simp only [List.nil_append] at q
  unfold dLc
  rw [hit]
  simp only [Ot.bind, q, lcEnd]
  simp [hp, hm, hl, Vt.ot]
theorem dlc_evLP {it : Di} {v : ItV} {g : Dg} {c : Db} {e : De} {own : List Nat} {Γ : Gam} {μ μ0 : Mu} {n m0 : Nat} {P : Nat → Bool} {E : Nat → T} (hit : it Γ μ = some (.ok v μ0)) (hn : v.len = n) (hz : n ≤ sizeLine) (hE : ∀ i, (E i).low 0 = true) (hok : ∀ acc : List T, v.ok (μ0 ++ [.lst acc]) = true)
    (h : ∀ (i : Nat) (acc : List T), i < n → acc.all (T.low 0) = true → ∃ y Γ1, v.at (μ0 ++ [.lst acc]) i = some y ∧ g y (wipeG Γ own) (μ0 ++ [.lst acc]) = some Γ1 ∧ c Γ1 (μ0 ++ [.lst acc]) = some (.ok (P i) (μ0 ++ [.lst acc])) ∧
      (P i = true → e Γ1 (μ0 ++ [.lst acc]) = some (.ok (E i) (μ0 ++ [.lst acc])))) :
    dLc true m0 it g c e own Γ μ = some (.ok (.m μ0.length) (μ0 ++ [.lst (lcOut P E n 0)])) := by
  subst hn
  have q := lc_evP hz hE hok h v.len 0 [] (by omega) (by simp) rfl
  simp only [List.nil_append] at q
  unfold dLc
  rw [hit]
  simp [Ot.bind, q, lcEnd, Vt.ot]
/-- what a comprehension over a list comes to, said by the list -/
theorem lcOut_of {α : Type} (l : List α) (P : α → Bool) (E : α → T) (d : T) : lcOut (fun i => match l[i]? with | some x => P x | none => false) (fun i => match l[i]? with | some x => E x | none => d) l.length 0 = (l.filter P).map E := by
  have key : ∀ (k i : Nat), i + k = l.length → lcOut (fun i => match l[i]? with | some x => P x | none => false) (fun i => match l[i]? with | some x => E x | none => d) k i = ((l.drop i).filter P).map E := fun k => by
    induction k with
    | zero => intro i h; rw [List.drop_eq_nil_of_le (by omega)]; rfl
    | succ k ih =>
      intro i h
      have hi : i < l.length := by omega
      have hg : l[i]? = some l[i] := by simp [hi]
      rw [lcOut, ih (i + 1) (by omega), List.drop_eq_getElem_cons hi, List.filter_cons, hg]
      simp only
      cases P l[i] <;> rfl
  have := key l.length 0 (by omega)
  rwa [List.drop_zero] at this
theorem seq_walk {μ : Mu} {f : Bool} {ds : List D} : (ItV.seq true (.v f (.lst ds)) ds.length).ok μ = true := by simp [ItV.ok, itemsN]
theorem seq_walkT {μ : Mu} {f : Bool} {ds : List D} : (ItV.seq false (.v f (.tup ds)) ds.length).ok μ = true := by simp [ItV.ok, itemsN]
theorem seq_at {μ : Mu} {f : Bool} {ds : List D} {i : Nat} (h : i < ds.length) : (ItV.seq true (.v f (.lst ds)) ds.length).at μ i = some (.one (mkT f ds[i])) := by simp [ItV.at, itemsN, h]
theorem seq_atT {μ : Mu} {f : Bool} {ds : List D} {i : Nat} (h : i < ds.length) : (ItV.seq false (.v f (.tup ds)) ds.length).at μ i = some (.one (mkT f ds[i])) := by simp [ItV.at, itemsN, h]
def dSq : Bool → List D → D
  | true, ds => .lst ds
  | false, ds => .tup ds
theorem sq_walk {b : Bool} {μ : Mu} {f : Bool} {ds : List D} : (ItV.seq b (.v f (dSq b ds)) ds.length).ok μ = true := by cases b; exact seq_walkT; exact seq_walk
theorem sq_at {b : Bool} {μ : Mu} {f : Bool} {ds : List D} {i : Nat} (h : i < ds.length) : (ItV.seq b (.v f (dSq b ds)) ds.length).at μ i = some (.one (mkT f ds[i])) := by cases b; exact seq_atT h; exact seq_at h
theorem iSeq_ev {b : Bool} {ge : De} {Γ : Gam} {μ μ1 : Mu} {f : Bool} {ds : List D} (h : ge Γ μ = some (.ok (.v f (dSq b ds)) μ1)) : iSeq b ge Γ μ = some (.ok (.seq b (.v f (dSq b ds)) ds.length) μ1) := by
  unfold iSeq
  rw [h]
  cases b <;> simp [dSq, Ot.bind]
/-- a comprehension over a list or a tuple that stands still: frozen, living -/
theorem dlc_frz {α : Type} {b : Bool} {l : List α} {Dx : α → D} {ge e : De} {c : Db} {own : List Nat} {Γ : Gam} {μ μ1 : Mu} {m0 s : Nat} {f : Bool} {P : α → Bool} {E : α → D} (hge : ge Γ μ = some (.ok (.v f (dSq b (l.map Dx))) μ1)) (hz : l.length ≤ sizeLine) (hm : m0 ≤ μ1.length) (hl : μ1.all (Cell.low μ1.length) = true)
    (hb : ∀ x ∈ l, ∀ acc : List T, acc.all (T.low 0) = true → c ((wipeG Γ own).set s (some (mkT f (Dx x)))) (μ1 ++ [.lst acc]) = some (.ok (P x) (μ1 ++ [.lst acc])) ∧ (P x = true → e ((wipeG Γ own).set s (some (mkT f (Dx x)))) (μ1 ++ [.lst acc]) = some (.ok (.v true (E x)) (μ1 ++ [.lst acc])))) :
    dLc false m0 (iSeq b ge) (gNm s) c e own Γ μ = some (.ok (.v true (.lst ((l.filter P).map E))) μ1) := by
  refine dlc_evP (n := l.length) (v := .seq b (.v f (dSq b (l.map Dx))) (l.map Dx).length) (P := fun i => match l[i]? with | some x => P x | none => false) (E := fun i => match l[i]? with | some x => .v true (E x) | none => .v true .non)
    (iSeq_ev hge) (by simp [ItV.len]) hz (fun i => ?_) (fun acc => sq_walk) (fun i acc hi ha => ?_) ?_ hm hl
  · split <;> rfl
  · have hi' : i < (l.map Dx).length := by simpa using hi
    have hg : l[i]? = some l[i] := by simp [hi]
    obtain ⟨h1, h2⟩ := hb l[i] (List.getElem_mem hi) acc ha
    refine ⟨.one (mkT f (Dx l[i])), _, by rw [sq_at hi', List.getElem_map], rfl, ?_, fun hp => ?_⟩
    · simp only [hg]; exact h1
    · simp only [hg] at hp ⊢; exact h2 hp
  · rw [lcOut_of l P (fun x => .v true (E x))]
    have := pack_vs ((l.filter P).map E)
    rwa [List.map_map] at this
theorem dlc_liv {α : Type} {b : Bool} {l : List α} {Dx : α → D} {ge e : De} {c : Db} {own : List Nat} {Γ : Gam} {μ μ1 : Mu} {m0 s : Nat} {f : Bool} {P : α → Bool} {E : α → D} {fe : Bool} (hge : ge Γ μ = some (.ok (.v f (dSq b (l.map Dx))) μ1)) (hz : l.length ≤ sizeLine)
    (hb : ∀ x ∈ l, ∀ acc : List T, acc.all (T.low 0) = true → c ((wipeG Γ own).set s (some (mkT f (Dx x)))) (μ1 ++ [.lst acc]) = some (.ok (P x) (μ1 ++ [.lst acc])) ∧ (P x = true → e ((wipeG Γ own).set s (some (mkT f (Dx x)))) (μ1 ++ [.lst acc]) = some (.ok (.v fe (E x)) (μ1 ++ [.lst acc])))) :
    dLc true m0 (iSeq b ge) (gNm s) c e own Γ μ = some (.ok (.m μ1.length) (μ1 ++ [.lst (((l.filter P).map E).map (T.v fe))])) := by
  have q := dlc_evLP (m0 := m0) (n := l.length) (v := .seq b (.v f (dSq b (l.map Dx))) (l.map Dx).length) (g := gNm s) (c := c) (e := e) (own := own) (P := fun i => match l[i]? with | some x => P x | none => false) (E := fun i => match l[i]? with | some x => .v fe (E x) | none => .v true .non)
    (iSeq_ev hge) (by simp [ItV.len]) hz (fun i => by split <;> rfl) (fun acc => sq_walk) (fun i acc hi ha => by
      have hi' : i < (l.map Dx).length := by simpa using hi
      have hg : l[i]? = some l[i] := by simp [hi]
      obtain ⟨h1, h2⟩ := hb l[i] (List.getElem_mem hi) acc ha
      refine ⟨.one (mkT f (Dx l[i])), _, by rw [sq_at hi', List.getElem_map], rfl, ?_, fun hp => ?_⟩
      · simp only [hg]; exact h1
      · simp only [hg] at hp ⊢; exact h2 hp)
  rw [q, lcOut_of l P (fun x => .v fe (E x)), List.map_map]
  rfl
mutual
theorem eqv_self : ∀ d : PyData, PyData.hasDict d = false → PyData.eqv d d = true
  | .none, _ => by simp [PyData.eqv]
  | .bool _, _ => by simp [PyData.eqv]
  | .int _, _ => by simp [PyData.eqv]
  | .str _, _ => by simp [PyData.eqv]
  | .list xs, h => by
    simp only [PyData.hasDict] at h
    simp only [PyData.eqv]
    exact eqvAll_self xs h
  | .tuple xs, h => by
    simp only [PyData.hasDict] at h
    simp only [PyData.eqv]
    exact eqvAll_self xs h
  | .dict _, h => by simp [PyData.hasDict] at h
theorem eqvAll_self : ∀ ds : List PyData, PyData.hasDictAll ds = false → PyData.eqvAll ds ds = true
  | [], _ => by simp [PyData.eqvAll]
  | d :: ds, h => by
    simp only [PyData.hasDictAll, Bool.or_eq_false_iff] at h
    simp only [PyData.eqvAll, eqv_self d h.1, eqvAll_self ds h.2, Bool.and_self]
end
theorem eqD_self {d : D} {e : PyData} (h : d.py = some e) (hs : SeqAt.shaped e = true) : eqD d d = some true := by
  unfold eqD
  simp only [h, hs, Bool.and_self, if_true, eqv_self e (D.py_nodict d h)]
/-- what is the same to its depth is equal -/
theorem eqT_self {μ : Mu} {a b : T} {d : D} {e : PyData} (ha : deep DEEP μ a = some d) (hb : deep DEEP μ b = some d) (h : d.py = some e) (hs : SeqAt.shaped e = true) : L3.eqT μ a b = some true := by
  have g : eqD d d = some true := eqD_self h hs
  unfold L3.eqT
  split
  · rename_i i _ j
    unfold deep at ha hb
    cases ha; cases hb
    simp
  · rename_i i _ j
    unfold deep at ha hb
    cases ha; cases hb
    simp
  · rename_i i _ j
    unfold deep at ha hb
    cases ha; cases hb
    simp
  · rw [ha, hb]
    exact g
theorem repr_ev {μ : Mu} {t : T} {d : D} {e : PyData} {z : Str} (hd : deep DEEP μ t = some d) (h : d.py = some e) (hz : reprS e = some z) : reprV μ [t] = some (.v true (.str z), μ) := by
  unfold reprV
  simp only [hd, h, hz]
theorem augS_ev {op : Operator} {go gi ge : De} {Γ : Gam} {μ : Mu} {j k : Nat} {n z w r : Int} {fi fz fw : Bool} {ts : List T} (ho : go Γ μ = some (.ok (.m j) μ)) (hi : gi Γ μ = some (.ok (.v fi (.int n)) μ)) (hts : μ[j]? = some (.lst ts)) (hn : 0 ≤ n ∧ n < 2 ^ 63) (hz : ts[n.toNat]? = some (.v fz (.int z)))
    (he : ge Γ μ = some (.ok (.v fw (.int w)) μ)) (hr : augI op z w = some r) (hk : ixN ts.length n = some k) : sAugS op go gi ge Γ μ = some (.nx Γ (μ.set j (.lst (ts.set k (.v true (.int r)))))) := by
  unfold sAugS
  rw [ho]
  simp only [bindS_ok]
  rw [hi]
  simp only [bindS_ok, hts]
  rw [if_pos hn]
  simp only [hz, he, bindS_ok, hts, hr, hk]
theorem ret_c (c : Cell) : retD 0 (some (.rt (.m 0) [c])) = some (.ok (.m 0) [c]) := by
  cases h : c.low 0 <;> simp [retD, retV, T.low, h]
theorem ret_v (t : D) (f : Bool) (μ : Mu) (h : μ.all (Cell.low μ.length) = true) : retD μ.length (some (.rt (.v f t) μ)) = some (.ok (.v f t) μ) := by
  simp [retD, retV, T.low, h]
theorem ret_v0 (t : D) (f : Bool) (μ : Mu) : retD 0 (some (.rt (.v f t) μ)) = some (.ok (.v f t) []) := by
  simp [retD, retV, T.low]
/-- a for over a list that stands still -/
theorem for_frz {α : Type} {b : Bool} {l : List α} {Dx : α → D} {ge : De} {bd : Ds} {Γ : Gam} {μ μ1 : Mu} {s : Nat} {f : Bool} (J : Nat → Gam → Mu → Prop) (hge : ge Γ μ = some (.ok (.v f (dSq b (l.map Dx))) μ1)) (h0 : J 0 Γ μ1)
    (step : ∀ (i : Nat) (h : i < l.length) Γ μ, J i Γ μ → ∃ Γ2 μ2, bd (Γ.set s (some (mkT f (Dx l[i])))) μ = some (.nx Γ2 μ2) ∧ J (i + 1) Γ2 μ2) :
    ∃ Γ' μ', sFor (iSeq b ge) (gNm s) bd Γ μ = some (.nx Γ' μ') ∧ J l.length Γ' μ' := by
  obtain ⟨Γ', μ', h1, h2⟩ := for_inv (v := .seq b (.v f (dSq b (l.map Dx))) (l.map Dx).length) (g := gNm s) (b := bd) (n := l.length) J (fun _ _ _ _ _ => sq_walk) (fun i Γ μ hi hj => by
    have hi' : i < (l.map Dx).length := by simpa using hi
    obtain ⟨Γ2, μ2, h1, h2⟩ := step i hi Γ μ hj
    exact ⟨.one (mkT f (Dx l[i])), _, Γ2, μ2, by rw [sq_at hi', List.getElem_map], rfl, .inl h1, h2⟩) l.length 0 Γ μ1 (by omega) h0
  refine ⟨Γ', μ', for_ev (iSeq_ev hge) ?_, h2⟩
  simpa [ItV.len] using h1
end L3

set_option Elab.async false
set_option linter.all false
set_option maxRecDepth 100000
set_option maxHeartbeats 4000000
/-! L3: own errors with one field: raised, caught, looked at. -/
namespace L3
open PySem PySem.Spec PyProof.Rows L2
/-- what the text says of an error class -/
structure ErrC (K : PySem.W.Frag) (C : Addr) : Prop where
  oex : OexC K C
  xf : XfC K C
  nov : PySem.W.findIn K (.ref C) "value" = some none
  cls : (PySem.W.clsIn K C).isSome = true
  ha : PySem.W.findIn K (.ref C) "__class__" = some (some (.builtin "object.__class__"))
  hn : PySem.W.specialIn K (.builtin "object.__class__") "__get__" = some (some (.builtin "getset_descriptor.__get__"))
  ht : PySem.W.takesIn K (.builtin "object.__class__") = some true
  hm : PySem.W.mroIn K C (.type "object") = some true
/-- what the base class's __init__ does -/
def spInit (K : PySem.W.Frag) : Sp := fun vs H Q _ => ∃ (a C : Addr) (v : V), vs = [.ref a, v] ∧ ErrC K C ∧ H a = some (exo a C none) ∧ ∀ dx, H dx = none → dx ≠ a → Q .non (upd (upd H dx (exd dx [("value", v)])) a (exo a C (some dx)))
theorem init_ok {P : Program} {w : World} {K : PySem.W.Frag} {mg : Str → Option Value} {base : Heap} {k : Nat} {qual : Str} {st : Stmt} {f : Addr} {fd : FuncData} {p1 p2 p3 p4 : Pos}
    (F : Fun K "__init__" qual st f fd) (S : FnScope ["self", "value"] ["self", "value"] (defScope st)) (hb : defBody st = [.Assign [.Attribute (.Name "self" p1) "value" p2] (.Name "value" p3) p4])
    (v1 : Vis (defScope st) "self") (v2 : Vis (defScope st) "value")
    (hs : ∀ env : Env, env.scope = defScope st → swapsWith (.Name "value" p3) (some (.Attribute (.Name "self" p1) "value" p2)) p4.line env = pure false) :
    FnOk P w K mg base (L2.CX P w) (k + 1) f fd ["self", "value"] (spInit K) := by
  refine F.okX S (fun vs H Q E h => ?_) (fun cdv A outer s H vs Q E hr h => ⟨tOst K "value" (tVar 0) (tVar 1), ?_, ?_⟩)
  · obtain ⟨a, C, v, rfl, _⟩ := h
    rfl
  · rw [hb]
    exact pss_one (ps_ost (pe_var rfl v1) (pe_var rfl v2) (hs _ rfl))
  · obtain ⟨a, C, v, rfl, E, ha, q⟩ := h
    exact ⟨v, rfl, .ref a, rfl, a, C, rfl, E.oex, E.nov, .inl ⟨ha, q⟩⟩
def sRaise (c : Nat) (ge : De) : Ds := fun Γ μ => Ot.bindS (ge Γ μ) Γ fun t μ1 => some (.ex Γ c t μ1)
section
variable {X : Cx} {Z : Ent} {W : Wish} {k : Nat}
theorem passes_never {P : Program} {w : World} {X : Cx} : Passes (L2.CX P w) X (fun _ _ _ => False) := fun pins σ H s e s' I h => by
  obtain ⟨_, _, _, _, _, _, _, _, _, _, _, _, z⟩ := h
  exact z.elim
theorem xs_raise {c : Nat} {C fI : Addr} {fd : FuncData} {x : Str} {p pos pos2 : Pos} {e : Expr} {ge : De} (B : Be X Z W (k + 1)) (hT : Z.TB.exc c = some C) (E : ErrC X.K C)
    (iC : PySem.W.findIn X.K (.ref C) "__init__" = some (some (.ref fI))) (tI : PySem.W.typeIn X.K (.ref fI) = some (.type "function"))
    (F1 : FnOk X.prog X.w X.K X.mg X.base (L2.CX X.prog X.w) k fI fd ["self", "value"] (spInit X.K)) (hb : Binds X.K fd ["self", "value"] [])
    (hg : Gl X x) (hm : X.mg x = some (.ref C)) (he : PE X e (tD Z W ge)) (hd : (x == ("__debug__" : Str)) = false) (hst : starEach (e :: []) X.env = (false, eval e X.env) :: starEach [] X.env) (hpl : (backTo pos (starEach [] X.env)).any (·.1) = false) :
    PS X (.Raise (some (.Call (.Name x p) [e] [] pos)) none pos2) (tDS Z W (sRaise c ge)) :=
  ps_imp (ps_raise B.calm B.tk (pmk_oex E.oex iC tI F1 B.room hb .nil passes_never hg hm (xa_cons he xa_nil hst) hd hst hpl)) fun D σ H ⟨p0, μ, Γ, s, er, h⟩ => by
    refine ⟨p0, μ, Γ, s, er, ?_⟩
    unfold sRaise at h
    cases hgg : ge Γ μ with
    | none => rw [hgg] at h; exact h.elim
    | some rr =>
      rw [hgg] at h
      cases rr with
      | exc c' t μ1 =>
        simp only [aCons, hgg]
        exact h σ p0 (.refl p0) er
      | ok t μ1 =>
        simp only [aCons, hgg, bind_ok, aNil]
        intro vs H' q hl s1 rt
        obtain ⟨v, rfl, rv⟩ := rt.one
        have h : ∀ (σ' : L2.St) (q' : Pt), p0.Le q' → ER Z q' σ' Γ → PostX Z W σ' q' c t μ1 := h
        refine ⟨by show 1 ≤ 1000; decide, fun a ha => ⟨a, C, v, rfl, E, upd_same, fun dx hdx hne => ⟨rfl, dx, [("value", v)], upd_same, ?_, ?_, ?_⟩⟩⟩
        · rw [upd_ne hne, upd_same]
        · rw [upd_ne hne] at hdx
          exact hdx
        · have hdx' : H' dx = none := by
            rw [upd_ne hne] at hdx
            exact hdx
          have e : upd (del (upd (upd (upd H' a (exo a C none)) dx (exd dx [("value", v)])) a (exo a C (some dx))) a) dx (.xd [("value", v)]) = upd H' dx (.xd [("value", v)]) := by
            funext b
            by_cases hb : b = dx
            · subst hb
              rw [upd_same, upd_same]
            · rw [upd_ne hb, upd_ne hb]
              unfold del
              by_cases hba : b = a
              · subst hba
                rw [if_pos rfl, ha]
              · rw [if_neg hba, upd_ne hba, upd_ne hb, upd_ne hba]
          rw [e]
          have le := s1.add_le (f := true) (o := .xd [("value", v)]) hdx'
          exact h σ q hl (er.mono hl) C v dx _ _ hT le (s1.add hdx') (s1.free0 hdx') upd_same (rv.mono le)
end

/-! a caught error -/
structure XH (Z : Ent) (a : Addr) (cls : Value) (d : Option Addr) (i c : Nat) (t : T) (p : Pt) (σ : L2.St) : Prop where
  s : σ[i]? = some (some (.ref a))
  x : ∃ (C dx : Addr) (v : V), cls = .ref C ∧ d = some dx ∧ Z.TB.exc c = some C ∧ p.N dx = some (.xd [("value", v)]) ∧ RT Z p v t
theorem XH.mono {Z : Ent} {a : Addr} {cls : Value} {d : Option Addr} {i c : Nat} {t : T} {p q : Pt} {σ : L2.St} (e : p.Le q) (h : XH Z a cls d i c t p σ) : XH Z a cls d i c t q σ := by
  obtain ⟨C, dx, v, h1, h2, h3, h4, h5⟩ := h.x
  exact ⟨h.s, C, dx, v, h1, h2, h3, e.n _ _ h4, h5.mono e⟩
def tX (Z : Ent) (W : Wish) (a : Addr) (cls : Value) (d : Option Addr) (i c : Nat) (t : T) (g : De) : TE := fun σ H Q => ∃ (p : Pt) (μ : Mu) (Γ : Gam), SR Z p H μ ∧ ER Z p σ Γ ∧ XH Z a cls d i c t p σ ∧ Post Z W σ Q p (g Γ μ)
def tXA (Z : Ent) (W : Wish) (a : Addr) (cls : Value) (d : Option Addr) (i c : Nat) (t : T) (g : Da) : TA := fun σ H Q => ∃ (p : Pt) (μ : Mu) (Γ : Gam), SR Z p H μ ∧ ER Z p σ Γ ∧ XH Z a cls d i c t p σ ∧ PostA Z W σ Q p (g Γ μ)
def tXS (Z : Ent) (W : Wish) (a : Addr) (cls : Value) (d : Option Addr) (i c : Nat) (t : T) (g : Ds) : TS := fun D σ H => ∃ (p : Pt) (μ : Mu) (Γ : Gam), SR Z p H μ ∧ ER Z p σ Γ ∧ XH Z a cls d i c t p σ ∧ PostS Z W D p (g Γ μ)
section
variable {X : Cx} {Z : Ent} {W : Wish} {k : Nat} {a : Addr} {oe : Obj} {pn : List (Addr × Obj)} {cls : Value} {d : Option Addr} {i c : Nat} {t : T}
theorem xx_old {e : Expr} {g : De} (h : PE X e (tD Z W g)) : PE X e (tX Z W a cls d i c t g) := pe_imp h fun σ H Q ⟨p, μ, Γ, s, er, _, h⟩ => ⟨p, μ, Γ, s, er, h⟩
/-- e.value -/
theorem xx_val {n : Str} {np pos : Pos} (hX : ∀ C, Z.TB.exc c = some C → ErrC X.K C) (hz : Zc cls d oe) (hf : ∃ vs, oe.data = .fields vs) (hN : X.N[i]? = some n) (hv : Vis X.env.scope n)
    (hd : (n == ("__debug__" : Str)) = false) (hcd : (n == ("__classdict__" : Str)) = false) (hb : attributeBase (.Name n np) "value" X.env (eval (.Name n np) X.env) = eval (.Name n np) X.env) :
    PE (X.suite a ((a, oe) :: pn)) (.Attribute (.Name n np) "value" pos) (tX Z W a cls d i c t (fun _ μ => some (.ok t μ))) := by
  refine ⟨fun pins s σ H Q I ⟨p, μ, Γ, sr, er, xh, h⟩ => ?_⟩
  obtain ⟨C, dx, v, rfl, rfl, hC, hN', hv'⟩ := xh.x
  have E := hX C hC
  refine (pe_xf E.xf E.nov hz hf (pe_var (X := X.suite a ((a, oe) :: pn)) (i := i) hN hv hd hcd) hb).run pins s σ H Q I ⟨.ref a, xh.s, rfl, rfl, dx, _, v, rfl, sr.sub _ _ (sr.nin _ _ hN'), by simp [List.lookup], ?_⟩
  exact h v H p (.refl p) sr hv'
theorem call_isD : CallR (X.suite a ((a, oe) :: pn)) (.builtin "isinstance") (fun xs H Q => ∃ (C D dx : Addr) (fs : List (Str × V)) (b : Bool), xs = [.ref a, .ref D] ∧ ErrC X.K C ∧ Zc (.ref C) (some dx) oe ∧ (∃ vs, oe.data = .fields vs) ∧ H dx = some (.xd fs) ∧ PySem.W.kitOne X.K (.ref C) (.ref D) = some b ∧ Q (.bl b) H) := by
  intro pins s σ H xs us Q I r h
  obtain ⟨C, D, dx, fs, b, rfl, E, hz, hf, ed, hk, q⟩ := h
  obtain ⟨u1, u2, rfl, r1, r2⟩ := vals2 r
  obtain rfl : u1 = Value.ref a := r1
  obtain rfl : u2 = Value.ref D := r2
  obtain ⟨ha, _⟩ := I.pin (a, oe) (List.mem_append_left _ List.mem_cons_self)
  obtain ⟨vs, hd⟩ := hf
  have hx : ObjOk X.prog X.w H s.heap dx (.xd fs) := I.hok dx _ ed
  obtain ⟨mA, hns, hr⟩ := hx
  obtain ⟨od, ho, hl⟩ := lookIn_ns hns
  have J : PySem.W.InstAt s.heap a oe C (some od) := ⟨ha, hz.1, by unfold PySem.W.notCls; rw [hd] <;> rfl, by rw [hz.2]; exact ho⟩
  exact PySem.W.kia_one (PySem.W.kitx_exc E.cls E.xf.ga E.xf.gg E.xf.exC E.ha E.hn E.ht E.hm) I.kIn J hk (by simp) (fun tk => ⟨.bl b, H, I.tok _, rfl, q⟩)
/-- isinstance(e, D) -/
theorem xx_isi {n y : Str} {np yp p pos : Pos} {D : Addr} {b : Bool} (hX : ∀ C, Z.TB.exc c = some C → ErrC X.K C) (hq : ∀ C, Z.TB.exc c = some C → PySem.W.kitOne X.K (.ref C) (.ref D) = some b) (hz : Zc cls d oe) (hf : ∃ vs, oe.data = .fields vs)
    (hg : Gl X "isinstance") (hm : X.mg "isinstance" = none) (hgD : Gl X y) (hmD : X.mg y = some (.ref D)) (hy : (y == ("__debug__" : Str)) = false)
    (hN : X.N[i]? = some n) (hv : Vis X.env.scope n) (hd : (n == ("__debug__" : Str)) = false) (hcd : (n == ("__classdict__" : Str)) = false)
    (he : starEach [.Name n np, .Name y yp] X.env = (false, eval (.Name n np) X.env) :: starEach [.Name y yp] X.env) (he2 : starEach [.Name y yp] X.env = (false, eval (.Name y yp) X.env) :: starEach [] X.env)
    (hpl : (backTo pos (starEach [.Name y yp] X.env)).any (·.1) = false) :
    PE (X.suite a ((a, oe) :: pn)) (.Call (.Name "isinstance" p) [.Name n np, .Name y yp] [] pos) (tX Z W a cls d i c t (dAtm (.bl b))) := by
  refine pe_imp (pe_callB (X := X.suite a ((a, oe) :: pn)) call_isD hg hm (by rfl) (pa_cons (pe_var (X := X.suite a ((a, oe) :: pn)) (i := i) hN hv hd hcd) (pa_cons (pe_glob (X := X.suite a ((a, oe) :: pn)) (v := .ref D) hgD hmD rfl hy) pa_nil he2) he) (by decide) (by rfl) he hpl) fun σ H Q ⟨p, μ, Γ, sr, er, xh, h⟩ => ?_
  obtain ⟨C, dx, v, rfl, rfl, hC, hN', hv'⟩ := xh.x
  exact ⟨.ref a, xh.s, C, D, dx, _, b, rfl, hX C hC, hz, hf, sr.sub _ _ (sr.nin _ _ hN'), hq C hC, h _ H p (.refl p) sr (Dx.bl b : Dx Z.K Z.TB p.N _ _)⟩
theorem tX_bindA {g : De} {kk : T → Mu → Ot (List T)} {Q : List V → Hp → Prop} {p : Pt} {μ : Mu} {Γ : Gam} {σ : L2.St} {H : Hp} (s : SR Z p H μ) (e : ER Z p σ Γ) (x : XH Z a cls d i c t p σ) (h : PostA Z W σ Q p (Ot.bind (g Γ μ) kk)) :
    tX Z W a cls d i c t g σ H fun v H1 => ∃ (q : Pt) (μ1 : Mu) (u : T), p.Le q ∧ SR Z q H1 μ1 ∧ ER Z q σ Γ ∧ XH Z a cls d i c t q σ ∧ RT Z q v u ∧ PostA Z W σ Q q (kk u μ1) := by
  refine ⟨p, μ, Γ, s, e, x, ?_⟩
  match hg : g Γ μ, h with
  | some (.ok u μ1), h =>
    have h : PostA Z W σ Q p (kk u μ1) := h
    exact fun v H' q hl hs hr => ⟨q, μ1, u, hl, hs, e.mono hl, x.mono hl, hr, PostA.le hl h⟩
  | some (.exc c u μ1), h => exact h
theorem tXA_bindA {g : Da} {kk : List T → Mu → Ot (List T)} {Q : List V → Hp → Prop} {p : Pt} {μ : Mu} {Γ : Gam} {σ : L2.St} {H : Hp} (s : SR Z p H μ) (e : ER Z p σ Γ) (x : XH Z a cls d i c t p σ) (h : PostA Z W σ Q p (Ot.bind (g Γ μ) kk)) :
    tXA Z W a cls d i c t g σ H fun vs H1 => ∃ (q : Pt) (μ1 : Mu) (us : List T), p.Le q ∧ SR Z q H1 μ1 ∧ RTs Z q vs us ∧ PostA Z W σ Q q (kk us μ1) := by
  refine ⟨p, μ, Γ, s, e, x, ?_⟩
  match hg : g Γ μ, h with
  | some (.ok us μ1), h =>
    have h : PostA Z W σ Q p (kk us μ1) := h
    exact fun v H' q hl hs hr => ⟨q, μ1, us, hl, hs, hr, PostA.le hl h⟩
  | some (.exc c u μ1), h => exact h
theorem tXA_bind {g : Da} {kk : List T → Mu → Ot T} {Q : VK} {p : Pt} {μ : Mu} {Γ : Gam} {σ : L2.St} {H : Hp} (s : SR Z p H μ) (e : ER Z p σ Γ) (x : XH Z a cls d i c t p σ) (h : Post Z W σ Q p (Ot.bind (g Γ μ) kk)) :
    tXA Z W a cls d i c t g σ H fun vs H1 => ∃ (q : Pt) (μ1 : Mu) (us : List T), p.Le q ∧ SR Z q H1 μ1 ∧ RTs Z q vs us ∧ Post Z W σ Q q (kk us μ1) := by
  refine ⟨p, μ, Γ, s, e, x, ?_⟩
  match hg : g Γ μ, h with
  | some (.ok us μ1), h =>
    have h : Post Z W σ Q p (kk us μ1) := h
    exact fun v H' q hl hs hr => ⟨q, μ1, us, hl, hs, hr, Post.le hl h⟩
  | some (.exc c u μ1), h => exact h
theorem tX_bindS {g : De} {kk : T → Mu → Option Eo} {D : Ends} {p : Pt} {μ : Mu} {Γ : Gam} {σ : L2.St} {H : Hp} (s : SR Z p H μ) (e : ER Z p σ Γ) (x : XH Z a cls d i c t p σ) (h : PostS Z W D p (Ot.bindS (g Γ μ) Γ kk)) :
    tX Z W a cls d i c t g σ H fun v H1 => ∃ (q : Pt) (μ1 : Mu) (u : T), p.Le q ∧ SR Z q H1 μ1 ∧ ER Z q σ Γ ∧ XH Z a cls d i c t q σ ∧ RT Z q v u ∧ PostS Z W D q (kk u μ1) := by
  refine ⟨p, μ, Γ, s, e, x, ?_⟩
  match hg : g Γ μ, h with
  | some (.ok u μ1), h =>
    have h : PostS Z W D p (kk u μ1) := h
    exact fun v H' q hl hs hr => ⟨q, μ1, u, hl, hs, e.mono hl, x.mono hl, hr, PostS.le hl h⟩
  | some (.exc c u μ1), h => exact h σ p (.refl p) e
variable {Y : Cx} {e : Expr} {es : List Expr} {ge : De} {da : Da} {pos : Pos}
theorem xx_nil : PA Y [] (tXA Z W a cls d i c t aNil) := ⟨fun pos pins s σ H Q I ⟨p, μ, Γ, sr, er, xh, h⟩ => (pa_nil (X := Y)).run pos pins s σ H Q I (h [] H p (.refl p) sr .nil)⟩
theorem xx_cons (ha : PE Y e (tX Z W a cls d i c t ge)) (hr : PA Y es (tXA Z W a cls d i c t da)) (hs : starEach (e :: es) Y.env = (false, eval e Y.env) :: starEach es Y.env) : PA Y (e :: es) (tXA Z W a cls d i c t (aCons ge da)) :=
  pa_imp (pa_cons ha hr hs) fun σ H Q ⟨p, μ, Γ, s, er, xh, h⟩ => by
    obtain ⟨p', μ', Γ', s', e', x', h'⟩ := tX_bindA (a := a) (cls := cls) (d := d) (i := i) (c := c) (t := t) s er xh h
    refine ⟨p', μ', Γ', s', e', x', ?_⟩
    match hg : ge Γ' μ', h' with
    | some (.ok t μ1), h' =>
      intro v H' q hl hs hr
      obtain ⟨q1, μ2, t2, l1, s1, e1, x1, r1, k1⟩ := h' v H' q hl hs hr
      obtain ⟨p3, μ3, Γ3, s3, e3, x3, h3⟩ := tXA_bindA (a := a) (cls := cls) (d := d) (i := i) (c := c) s1 e1 x1 k1
      refine ⟨p3, μ3, Γ3, s3, e3, x3, ?_⟩
      match hg3 : da Γ3 μ3, h3 with
      | some (.ok t4 μ4), h3 =>
        intro v4 H4 q4 hl4 hs4 hr4
        obtain ⟨q5, μ5, t5, l5, s5, r5, k5⟩ := h3 v4 H4 q4 hl4 hs4 hr4
        exact k5 _ _ q5 (Pt.Le.refl q5) s5 (.cons (r1.mono l5) r5)
      | some (.exc c4 t4 μ4), h3 => exact h3
    | some (.exc c t μ1), h' => exact h'
theorem xx_lst (live : Bool) (h : PA Y es (tXA Z W a cls d i c t da)) : PE Y (.List es pos) (tX Z W a cls d i c t (dLst live da)) :=
  pe_imp (pe_lst h) fun σ H Q ⟨p, μ, Γ, s, e, x, h⟩ => by
    obtain ⟨p', μ', Γ', s', e', x', h'⟩ := tXA_bind (a := a) (cls := cls) (d := d) (i := i) (c := c) (t := t) s e x h
    refine ⟨p', μ', Γ', s', e', x', ?_⟩
    match hg : da Γ' μ', h' with
    | some (.ok us μ1), h' =>
      intro v H' q hl hs hr
      obtain ⟨q1, μ2, t2, l1, s1, r1, k1⟩ := h' v H' q hl hs hr
      split at k1
      · rename_i hz
        exact ⟨by rw [r1.length]; exact small_line hz, fun a n => newL_ok s1 r1 (VPost.post k1) n⟩
      · exact k1.elim
    | some (.exc c t μ1), h' => exact h'
theorem xxs_set {j : Nat} {x : Str} {pos' : Pos} (hN : Y.N.Nodup) (hi : Y.N[j]? = some x) (hx : Loc Y.env.scope x) (he : PE Y e (tX Z W a cls d i c t ge)) (hs : swapsWith e (some (.Name x pos')) pos.line Y.env = pure false) (hf : Y.fn x = true ∨ Y.env.scope.names.lookup x = some .local) :
    PS Y (.Assign [.Name x pos'] e pos) (tXS Z W a cls d i c t (sSet j ge)) :=
  ps_imp (ps_set hN hi hx he hs hf) fun D σ H ⟨p, μ, Γ, s, er, xh, h⟩ => by
    obtain ⟨p', μ', Γ', s', e', x', h'⟩ := tX_bindS (a := a) (cls := cls) (d := d) (i := i) (c := c) (t := t) s er xh h
    refine ⟨p', μ', Γ', s', e', x', ?_⟩
    match hg : ge Γ' μ', h' with
    | some (.ok u μ1), h' =>
      intro v H' q hl hs hr
      obtain ⟨q1, μ2, t2, l1, s1, e1, x1, r1, k1⟩ := h' v H' q hl hs hr
      exact k1 _ _ q1 (.refl q1) s1 (e1.set r1 j)
    | some (.exc c t μ1), h' => exact h'
theorem xxs_one {s : Stmt} {g : Ds} (h : PS Y s (tXS Z W a cls d i c t g)) : PSs Y [s] (tXS Z W a cls d i c t g) := pss_one h
end
/-! try: body except X as e: suite -/
def sTry (i : Nat) (b : Ds) (h : Nat → T → Ds) : Ds := fun Γ μ => match b Γ μ with
  | some (.ex Γ1 c t μ1) => if i < Γ1.length then match h c t (Γ1.set i none) μ1 with
    | some (.nx Γ2 μ2) => some (.nx (Γ2.set i none) μ2)
    | some (.rt u μ2) => some (.rt u μ2)
    | _ => none
    else none
  | r => r
section
variable {X : Cx} {Z : Ent} {W : Wish} {k : Nat}
theorem xs_try {i : Nat} {x n : Str} {CE : Addr} {body suite : List Stmt} {b₀ : Stmt} {np pos pos' : Pos} {b : Ds} {h : Nat → T → Ds} (B : Be X Z W k) (hs : X.stack = X.env :: X.outer) (hf : X.env.frame = some X.env.locals) (hi : X.N[i]? = some n) (hln : X.env.kindOf n = some .local)
    (hc : Names X x (.ref CE)) (hcc : ∀ c C, Z.TB.exc c = some C → PySem.W.exmOne X.K (.ref C) (.ref CE) = some true)
    (hb : ∀ (W' : Wish) (pn : List (Addr × Obj)) (xe : Value → Shared → Prop), Takes (X.tr pn xe) W' → PassesOwn (model X.prog X.w) X.A X.env xe → PSs (X.tr pn xe) body (tDS Z W' b))
    (hh : ∀ (a : Addr) (oe : Obj) (cls : Value) (d : Option Addr) (pn : List (Addr × Obj)) (c : Nat) (t : T), Zc cls d oe → (∃ vs, oe.data = .fields vs) → PSs (X.suite a ((a, oe) :: pn)) (b₀ :: suite) (tXS Z W0 a cls d i c t (h c t))) :
    PS X (.Try body [.ExceptHandler (some (.Name x np)) (some n) (b₀ :: suite) pos'] [] [] pos) (tDS Z W (sTry i b h)) := by
  refine ps_imp (ps_try_as (ts := fun a cls d D σ H => ∃ (c : Nat) (t : T), tXS Z W0 a cls d i c t (h c t) D σ H) hs hf B.nd hi hln hc B.tk hb (fun a oe cls d pn hz hfl => ⟨fun pins s σ H D I ⟨c, t, q⟩ => (hh a oe cls d pn c t hz hfl).run pins s σ H D I q⟩)) fun D σ H ⟨p, μ, Γ, s, er, h0⟩ => ⟨p, μ, Γ, s, er, ?_⟩
  unfold sTry at h0
  cases hbb : b Γ μ with
  | none => rw [hbb] at h0; exact h0
  | some r =>
    rw [hbb] at h0
    cases r with
    | nx _ _ => exact h0
    | rt _ _ => exact h0
    | bk _ _ => exact h0
    | ct _ _ => exact h0
    | ex Γ1 c t μ1 =>
      simp only at h0
      by_cases hlen : i < Γ1.length
      case neg => rw [if_neg hlen] at h0; exact h0.elim
      rw [if_pos hlen] at h0
      intro σ1 q hl e1 C v dx H1 r hC hl2 s2 h0x hNx hv
      refine ⟨true, hcc c C hC, fun _ a ha => ⟨c, t, r, μ1, Γ1.set i none, s2, ?_, ⟨?_, C, dx, v, rfl, rfl, hC, hNx, hv⟩, ?_⟩, fun z => nomatch z⟩
      · have e2 := e1.mono hl2
        refine ⟨by simp [e2.1], fun j u hj => ?_⟩
        by_cases hij : i = j
        · subst hij
          by_cases hlt : i < Γ1.length
          · rw [List.getElem?_set_self hlt] at hj; cases hj
          · rw [List.getElem?_eq_none (by simpa using hlt)] at hj; cases hj
        · rw [List.getElem?_set_ne hij] at hj ⊢
          exact e2.2 j u hj
      · exact List.getElem?_set_self (by rw [e1.1]; exact hlen)
      · have hle := hl.trans hl2
        cases hhh : h c t (Γ1.set i none) μ1 with
        | none => rw [hhh] at h0; exact h0.elim
        | some r2 =>
          rw [hhh] at h0
          cases r2 with
          | nx Γ2 μ2 =>
            intro σ3 H3 q3 l3 s3 e3
            exact h0 _ _ q3 (hle.trans l3) s3 (e3.wipe i)
          | rt u μ2 =>
            intro v3 H3 q3 l3 s3 r3
            exact h0 v3 H3 q3 (hle.trans l3) s3 r3
          | bk _ _ => exact h0.elim
          | ct _ _ => exact h0.elim
          | ex _ _ _ _ => exact h0.elim
end
end L3

set_option Elab.async false
set_option linter.all false
set_option maxRecDepth 100000
set_option maxHeartbeats 4000000
/-! L3: != of own objects whose class has == alone. -/
namespace L3
open PySem PySem.Spec PyProof.Rows L2
def strKeysB (es : Array DictEntry) : Bool := es.toList.all fun e => match e.key with | .str _ _ => true | _ => false
theorem strKeys_of {es : Array DictEntry} (h : strKeysB es = true) : StrKeys es := fun e he => by
  have := List.all_eq_true.mp h e (by simpa using he)
  cases hk : e.key <;> rw [hk] at this <;> first | exact ⟨_, _, rfl⟩ | cases this
/-- the class tells == and no != -/
structure NeC (K : PySem.W.Frag) (C f : Addr) : Prop where
  cls : ∃ nm q N bs hd sn sub ab col dd k0 k1 k2 k3 k5 nw, K.lookup C = some (excClassObj nm q C N bs [.type "object"] hd sn sub ab col dd k0 k1 k2 k3 k5 nw) ∧
    ∃ o es ep, K.lookup N = some o ∧ o.data = .dict es ep ∧ StrKeys es ∧ nsFind es "__eq__" = some (.ref f) ∧ nsFind es "__ne__" = none
  fn : ∃ o, K.lookup f = some o ∧ o.cls = .type "function"
section
variable {X : Cx} {Z : Ent} {W : Wish} {k : Nat} {f C : Addr} {fd : FuncData} {ps : List Str} {g : List T → Mu → Ot T} {ga gb : De} {a b : Expr} {pos : Pos}
def neOwn (g : List T → Mu → Ot T) (c : Nat) (live : Bool) (μ : Mu) (tx ty : T) : Ot T := match eqOwn g c live μ tx ty with
  | some (.ok (.v _ (.bl b)) μ') => some (.ok (.v true (.bl (!b))) μ')
  | _ => none
def rNeOwn (Z : Ent) (g : List T → Mu → Ot T) (c : Nat) (live : Bool) : R2 := fun x y H Q => ∃ (p : Pt) (μ : Mu) (tx ty : T), SR Z p H μ ∧ RT Z p x tx ∧ RT Z p y ty ∧ Post Z W0 [] Q p (neOwn g c live μ tx ty)
theorem op_neOwn (live : Bool) {c : Nat} {names : List Str} (B : Be X Z W (k + 1)) (hC : Z.TB.cls c = some (C, names)) (F : FnG X.prog X.w X.K X.mg X.base k f fd ps (spD X.K Z.TB g 2)) (N : NeC X.K C f)
    (hb : Binds X.K fd ps []) (hps : ps.length = 2) : OpR X (compareOp .NotEq) (rNeOwn Z g c live) := by
  intro pins s σ H x y u v Q I rx ry d
  obtain ⟨q, μ, tx, ty, sr, rtx, rty, po⟩ := d
  unfold neOwn eqOwn at po
  cases h1 : objOf μ tx with
  | none => rw [h1] at po; exact po.elim
  | some o1 =>
  cases h2 : objOf μ ty with
  | none => rw [h1, h2] at po; exact po.elim
  | some o2 =>
  obtain ⟨c1, ts1⟩ := o1
  obtain ⟨c2, ts2⟩ := o2
  rw [h1, h2] at po
  simp only at po
  by_cases hcc : c1 = c ∧ c2 = c
  case neg => rw [if_neg hcc] at po; exact po.elim
  rw [if_pos hcc] at po
  obtain ⟨rfl, rfl⟩ := hcc
  obtain ⟨a, C', dx, fs, names', rfl, ha, hc', _, _⟩ := obj_ok sr rtx h1
  rw [hC] at hc'
  cases hc'
  obtain ⟨b, C', dy, gs, names', rfl, hb', hc', _, _⟩ := obj_ok sr rty h2
  rw [hC] at hc'
  cases hc'
  cases rx
  cases ry
  obtain ⟨mA, J, _⟩ := ins_get I.hok ha
  obtain ⟨mB, J', _⟩ := ins_get I.hok hb'
  obtain ⟨od, J, _⟩ := J.look
  obtain ⟨od', J', _⟩ := J'.look
  have ow : spD Z.K Z.TB g 2 [V.ref a, V.ref b] H (fun v H' => ∃ kk, v = .bl kk ∧ Q (.bl (!kk)) H') (fun _ _ _ => False) := by
    refine call_owes (W := W0) (σ := []) (live := live) (rf := [false, false]) (ts := [tx, ty]) sr (.cons rtx (.cons rty .nil)) ?_
    cases hg : callD g live [false, false] [tx, ty] μ with
    | none => rw [hg] at po; exact po.elim
    | some rr =>
      rw [hg] at po
      cases rr with
      | exc _ _ _ => exact po.elim
      | ok t μ' =>
        intro v H' r l s rv
        cases t with
        | m _ => exact po.elim
        | v fl d =>
          cases d with
          | bl b => exact ⟨b, rv.bl, po (.bl (!b)) H' r l s (Dx.bl _ : Dx Z.K Z.TB r.N _ _)⟩
          | _ => exact po.elim
  rw [← B.hK] at ow
  obtain ⟨hp, gn, dr, tk, os⟩ := s
  have X0 : X.K.In hp := I.kIn
  have own : hp.OwnEqNoNe a C f "object" [.type "object"] := by
    obtain ⟨⟨nm, q, Nn, bs, hd, sn, sub, ab, col, dd, k0, k1, k2, k3, k5, nw, hl, on, es, ep, hN, hdat, hsk, he, hne⟩, of, hf, hof⟩ := N
    obtain ⟨y, hy⟩ : ∃ y, typeLookup (Value.type "object") (Str.ofString "__eq__") = pure y := ⟨_, by rfl⟩
    exact ⟨_, of, nm, q, Nn, bs, hd, sn, sub, ab, col, dd, k0, k1, k2, k3, k5, nw, fun n => nsFind es n, y, J.at_, J.cls, X0 _ _ hl, ⟨on, es, ep, X0 _ _ hN, hdat, hsk, fun _ => rfl⟩, he, X0 _ _ hf, hof, rfl, hy, hne⟩
  show wpAny (model X.prog X.w) X.A (compareOp .NotEq (.ref a) (.ref b)) (EP X pins σ Q) X.xe ⟨hp, gn, dr, tk, os⟩
  refine compareOp_ne_ownEq PySem.F.cmp_object own J'.at_ J'.cls (by have := B.room.un; omega) ?_
  have hbb := hb ⟨hp, gn, dr, tk, os⟩ [.ref a, .ref b] I.kIn (by rw [hps]; rfl)
  refine wpAny_call (codeAny_mono (F.run X.A.in1 X.stack ⟨hp, gn, dr, tk, os⟩ H ⟨[.ref a, .ref b], []⟩ [.ref a, .ref b] [.ref a, .ref b] _ (fun _ _ _ => False) B.room.in1 (in1_gd B.gd) I.env0.in1 hbb (.cons rfl (.cons rfl .nil)) ow) fun r s' hq => ?_)
  cases r with
  | error e =>
    obtain ⟨_, _, _, _, _, _, _, _, _, _, _, _, _, _, _, _, w⟩ := XE.of_call (W := W0) I (fun _ _ _ h => h) hq
    exact w.elim
  | ok fl =>
    cases fl with
    | ret w =>
      obtain ⟨z, H', I', rz, kk, ez, ex⟩ := I.after hq
      subst ez
      cases rz
      exact ⟨kk, rfl, .bl (!kk), H', I', rfl, ex⟩
    | next => exact False.elim hq
    | brk => exact False.elim hq
    | cont => exact False.elim hq
def dNeOwn (g : List T → Mu → Ot T) (c : Nat) (live : Bool) (ga gb : De) : De := fun Γ μ => Ot.bind (ga Γ μ) fun ta μ1 => Ot.bind (gb Γ μ1) fun tb μ2 => neOwn g c live μ2 ta tb
theorem xe_neOwn (live : Bool) {c : Nat} {names : List Str} (B : Be X Z W (k + 1)) (hC : Z.TB.cls c = some (C, names)) (F : FnG X.prog X.w X.K X.mg X.base k f fd ps (spD X.K Z.TB g 2)) (N : NeC X.K C f)
    (hbd : Binds X.K fd ps []) (hps : ps.length = 2) (ha : PE X a (tD Z W ga)) (hb : PE X b (tD Z W gb)) (hm : behindInMarks .NotEq b = false) :
    PE X (.Compare a [.NotEq] [b] pos) (tD Z W (dNeOwn g c live ga gb)) :=
  pe_imp (pe_cmpR (op_neOwn live B hC F N hbd hps) ha hb hm) fun σ H Q h => by
    obtain ⟨p, μ, Γ, s, e, h⟩ := h
    obtain ⟨p', μ', Γ', s', e', h'⟩ := tD_bind s e h
    refine ⟨p', μ', Γ', s', e', ?_⟩
    match hg : ga Γ' μ', h' with
    | some (.ok t μ1), h' =>
      intro v H' q hl hs hr
      obtain ⟨q1, μ2, t2, l1, s1, e1, r1, k1⟩ := h' v H' q hl hs hr
      obtain ⟨p3, μ3, Γ3, s3, e3, h3⟩ := tD_bind s1 e1 k1
      refine ⟨p3, μ3, Γ3, s3, e3, ?_⟩
      match hg3 : gb Γ3 μ3, h3 with
      | some (.ok t4 μ4), h3 =>
        intro v4 H4 q4 hl4 hs4 hr4
        obtain ⟨q5, μ5, t5, l5, s5, e5, r5, k5⟩ := h3 v4 H4 q4 hl4 hs4 hr4
        refine ⟨q5, μ5, t2, t5, s5, r1.mono l5, r5, ?_⟩
        cases hq : neOwn g c live μ5 t2 t5 with
        | none => rw [hq] at k5; exact k5.elim
        | some rr =>
          rw [hq] at k5
          cases rr with
          | ok _ _ => exact k5
          | exc c2 t2' μ2' =>
            unfold neOwn at hq
            split at hq <;> cases hq
      | some (.exc c4 t4 μ4), h3 => exact h3
    | some (.exc c t μ1), h' => exact h'
end
/-! len of an own object -/
def lenOwn (g : List T → Mu → Ot T) (c : Nat) (live : Bool) (μ : Mu) (t : T) : Ot T := match objOf μ t with
  | some (c', _) => if c' = c then match callD g live [false] [t] μ with
    | some (.ok (.v _ (.int n)) μ') => if 0 ≤ n ∧ n < 2 ^ 63 then some (.ok (.v true (.int n)) μ') else none
    | _ => none
    else none
  | none => none
def dLenO (g : List T → Mu → Ot T) (c : Nat) (live : Bool) (go : De) : De := fun Γ μ => Ot.bind (go Γ μ) fun t μ1 => lenOwn g c live μ1 t
section
variable {X : Cx} {Z : Ent} {W : Wish} {k : Nat} {f C : Addr} {fd : FuncData} {ps : List Str} {g : List T → Mu → Ot T} {go : De} {o : Expr} {p pos : Pos}
theorem call_lenO (live : Bool) {c : Nat} {names : List Str} (B : Be X Z W (k + 1)) (hC : Z.TB.cls c = some (C, names)) (F : FnG X.prog X.w X.K X.mg X.base k f fd ps (spD X.K Z.TB g 1)) (hs : PySem.W.findIn X.K (.ref C) "__len__" = some (some (.ref f)))
    (hf : PySem.W.isFn X.K (.ref f) = true) (hb : Binds X.K fd ps []) (hps : ps.length = 1) :
    CallR X (.builtin "len") (fun xs H Q => ∃ (q : Pt) (μ : Mu) (t : T) (v : V), xs = [v] ∧ SR Z q H μ ∧ RT Z q v t ∧ Post Z W0 [] Q q (lenOwn g c live μ t)) := by
  intro pins s σ H xs us Q I r d
  obtain ⟨q, μ, t, v, rfl, sr, rt, po⟩ := d
  obtain ⟨u1, rfl, r1⟩ := vals1 r
  unfold lenOwn at po
  cases h1 : objOf μ t with
  | none => rw [h1] at po; exact po.elim
  | some o1 =>
  obtain ⟨c1, ts1⟩ := o1
  rw [h1] at po
  simp only at po
  by_cases hcc : c1 = c
  case neg => rw [if_neg hcc] at po; exact po.elim
  rw [if_pos hcc] at po
  subst hcc
  obtain ⟨a, C', dx, fs, names', rfl, ha, hc', _, _⟩ := obj_ok sr rt h1
  rw [hC] at hc'
  cases hc'
  obtain rfl : u1 = Value.ref a := r1
  obtain ⟨mA, J, _⟩ := ins_get I.hok ha
  obtain ⟨od, J, _⟩ := J.look
  obtain ⟨m, hF⟩ := I.fr
  have ow : spD Z.K Z.TB g 1 [V.ref a] H (fun v H' => ∃ n, v = .int n ∧ 0 ≤ n ∧ n < 2 ^ 63 ∧ Q (.int n) H') (fun _ _ _ => False) := by
    refine call_owes (W := W0) (σ := []) (live := live) (rf := [false]) (ts := [t]) sr (.cons rt .nil) ?_
    cases hg : callD g live [false] [t] μ with
    | none => rw [hg] at po; exact po.elim
    | some rr =>
      rw [hg] at po
      cases rr with
      | exc _ _ _ => exact po.elim
      | ok t μ' =>
        intro v H' r l s rv
        cases t with
        | m _ => exact po.elim
        | v fl d =>
          cases d with
          | int n =>
            simp only at po
            by_cases hn : 0 ≤ n ∧ n < 2 ^ 63
            case neg => rw [if_neg hn] at po; exact po.elim
            rw [if_pos hn] at po
            exact ⟨n, rv.int, hn.1, hn.2, po (.int n) H' r l s (Dx.int _ : Dx Z.K Z.TB r.N _ _)⟩
          | _ => exact po.elim
  rw [← B.hK] at ow
  have hbb := hb s [.ref a] I.kIn (by rw [hps]; rfl)
  refine PySem.W.len_K hF I.ok.mod.kin J hs hf ?_
  refine wpAny_call (codeAny_mono (F.run X.A.in1 X.stack s H ⟨[.ref a], []⟩ [.ref a] [.ref a] _ (fun _ _ _ => False) B.room.in1 (in1_gd B.gd) I.env0.in1 hbb (.cons rfl .nil) ow) fun r s' hq => ?_)
  cases r with
  | error e =>
    obtain ⟨_, _, _, _, _, _, _, _, _, _, _, _, _, _, _, _, w⟩ := XE.of_call (W := W0) I (fun _ _ _ h => h) hq
    exact w.elim
  | ok fl =>
    cases fl with
    | ret w =>
      obtain ⟨z, H', I', rz, n, ez, h0, h63, ex⟩ := I.after hq
      subst ez
      obtain ⟨tk, rfl⟩ := rz
      exact ⟨⟨h0, h63⟩, .int n, H', I'.tok _, ⟨_, rfl⟩, ex⟩
    | next => exact False.elim hq
    | brk => exact False.elim hq
    | cont => exact False.elim hq
theorem xe_lenO (live : Bool) {c : Nat} {names : List Str} (B : Be X Z W (k + 1)) (hC : Z.TB.cls c = some (C, names)) (F : FnG X.prog X.w X.K X.mg X.base k f fd ps (spD X.K Z.TB g 1)) (hs : PySem.W.findIn X.K (.ref C) "__len__" = some (some (.ref f)))
    (hf : PySem.W.isFn X.K (.ref f) = true) (hb : Binds X.K fd ps []) (hps : ps.length = 1) (hg : Gl X "len") (hm : X.mg "len" = none) (ho : PE X o (tD Z W go))
    (he : starEach (o :: []) X.env = (false, eval o X.env) :: starEach [] X.env) (hpl : (backTo pos (starEach [] X.env)).any (·.1) = false) :
    PE X (.Call (.Name "len" p) [o] [] pos) (tD Z W (dLenO g c live go)) :=
  pe_imp (pe_callB (call_lenO live B hC F hs hf hb hps) hg hm (by rfl) (xa_cons ho xa_nil he) (by decide) (by rfl) he hpl) fun σ H Q ⟨p0, μ, Γ, s, e, h⟩ => by
    refine ⟨p0, μ, Γ, s, e, ?_⟩
    unfold dLenO at h
    cases hgg : go Γ μ with
    | none => rw [hgg] at h; exact h.elim
    | some rr =>
      rw [hgg] at h
      cases rr with
      | exc c' t μ1 =>
        simp only [aCons, hgg]
        exact h
      | ok t μ1 =>
        simp only [aCons, hgg, bind_ok, aNil]
        intro vs H' q hl s1 rt
        obtain ⟨v, rfl, rv⟩ := rt.one
        have h : Post Z W σ Q p0 (lenOwn g c live μ1 t) := h
        refine ⟨q, μ1, t, v, rfl, s1, rv, ?_⟩
        cases hq : lenOwn g c live μ1 t with
        | none => rw [hq] at h; exact h.elim
        | some rr =>
          rw [hq] at h
          cases rr with
          | ok _ _ => exact Post.le hl h
          | exc c2 t2 μ2 =>
            unfold lenOwn at hq
            split at hq
            · split at hq
              · split at hq
                · split at hq <;> cases hq
                · cases hq
              · cases hq
            · cases hq
end
def exIs (c k : Nat) : Bool := k == 0 || c == k
def dXv (t : T) : De := fun _ μ => some (.ok t μ)
theorem Bs.tr {X : Cx} {Z : Ent} {W W' : Wish} {k : Nat} {pn : List (Addr × Obj)} {xe : Value → Shared → Prop} (b : Bs X Z W k) (tk : Takes (X.tr pn xe) W') (hp : PassesOwn (model X.prog X.w) X.A X.env xe) : Bs (X.tr pn xe) Z W' k := ⟨⟨b.hK, b.room, b.gd, b.calm, b.nd, tk⟩, hp⟩
section
variable {X : Cx} {Z : Ent} {W : Wish} {k : Nat} {f C : Addr} {fd : FuncData} {ps : List Str} {g : List T → Mu → Ot T} {ga gb : De} {a b : Expr} {pos : Pos}
/-- own == and != as a test -/
theorem xt_own (live : Bool) {c : Nat} {names : List Str} (B : Be X Z W k) (hC : Z.TB.cls c = some (C, names)) (F : FnG X.prog X.w X.K X.mg X.base k f fd ps (spD X.K Z.TB g 2)) (hs : PySem.W.findIn X.K (.ref C) "__eq__" = some (some (.ref f)))
    (hf : PySem.W.isFn X.K (.ref f) = true) (hbd : Binds X.K fd ps []) (hps : ps.length = 2) (ha : PE X a (tD Z W ga)) (hb : PE X b (tD Z W gb)) (hm : behindInMarks .Eq b = false) :
    PT X (.Compare a [.Eq] [b] pos) (tDB Z W (bOf (dOwn g c live ga gb))) :=
  pt_imp (pt_cmpR (op_own live B hC F hs hf hbd hps) ha hb hm) fun σ H Q h => by
    obtain ⟨p, μ, Γ, s, e, h⟩ := bOf_test h
    obtain ⟨p', μ', Γ', s', e', h'⟩ := tD_bind s e h
    refine ⟨p', μ', Γ', s', e', ?_⟩
    match hg : ga Γ' μ', h' with
    | some (.ok t μ1), h' =>
      intro v H' q hl hs hr
      obtain ⟨q1, μ2, t2, l1, s1, e1, r1, k1⟩ := h' v H' q hl hs hr
      obtain ⟨p3, μ3, Γ3, s3, e3, h3⟩ := tD_bind s1 e1 k1
      refine ⟨p3, μ3, Γ3, s3, e3, ?_⟩
      match hg3 : gb Γ3 μ3, h3 with
      | some (.ok t4 μ4), h3 =>
        intro v4 H4 q4 hl4 hs4 hr4
        obtain ⟨q5, μ5, t5, l5, s5, e5, r5, k5⟩ := h3 v4 H4 q4 hl4 hs4 hr4
        refine ⟨q5, μ5, t2, t5, s5, r1.mono l5, r5, ?_⟩
        cases hq : eqOwn g c live μ5 t2 t5 with
        | none => rw [hq] at k5; exact k5.elim
        | some rr =>
          rw [hq] at k5
          cases rr with
          | ok _ _ => exact k5
          | exc c2 t2' μ2' =>
            unfold eqOwn at hq
            split at hq
            · split at hq
              · split at hq
                · cases hq
                · cases hq
              · cases hq
            · cases hq
      | some (.exc c4 t4 μ4), h3 => exact h3
    | some (.exc c t μ1), h' => exact h'
theorem xt_neOwn (live : Bool) {c : Nat} {names : List Str} (B : Be X Z W (k + 1)) (hC : Z.TB.cls c = some (C, names)) (F : FnG X.prog X.w X.K X.mg X.base k f fd ps (spD X.K Z.TB g 2)) (N : NeC X.K C f)
    (hbd : Binds X.K fd ps []) (hps : ps.length = 2) (ha : PE X a (tD Z W ga)) (hb : PE X b (tD Z W gb)) (hm : behindInMarks .NotEq b = false) :
    PT X (.Compare a [.NotEq] [b] pos) (tDB Z W (bOf (dNeOwn g c live ga gb))) :=
  pt_imp (pt_cmpR (op_neOwn live B hC F N hbd hps) ha hb hm) fun σ H Q h => by
    obtain ⟨p, μ, Γ, s, e, h⟩ := bOf_test h
    obtain ⟨p', μ', Γ', s', e', h'⟩ := tD_bind s e h
    refine ⟨p', μ', Γ', s', e', ?_⟩
    match hg : ga Γ' μ', h' with
    | some (.ok t μ1), h' =>
      intro v H' q hl hs hr
      obtain ⟨q1, μ2, t2, l1, s1, e1, r1, k1⟩ := h' v H' q hl hs hr
      obtain ⟨p3, μ3, Γ3, s3, e3, h3⟩ := tD_bind s1 e1 k1
      refine ⟨p3, μ3, Γ3, s3, e3, ?_⟩
      match hg3 : gb Γ3 μ3, h3 with
      | some (.ok t4 μ4), h3 =>
        intro v4 H4 q4 hl4 hs4 hr4
        obtain ⟨q5, μ5, t5, l5, s5, e5, r5, k5⟩ := h3 v4 H4 q4 hl4 hs4 hr4
        refine ⟨q5, μ5, t2, t5, s5, r1.mono l5, r5, ?_⟩
        cases hq : neOwn g c live μ5 t2 t5 with
        | none => rw [hq] at k5; exact k5.elim
        | some rr =>
          rw [hq] at k5
          cases rr with
          | ok _ _ => exact k5
          | exc c2 t2' μ2' =>
            unfold neOwn at hq
            split at hq <;> cases hq
      | some (.exc c4 t4 μ4), h3 => exact h3
    | some (.exc c t μ1), h' => exact h'
end
end L3

set_option Elab.async false
set_option linter.all false
set_option maxRecDepth 100000
set_option maxHeartbeats 4000000
/-! a suite of more than one statement, and what its values are made of -/
namespace L3
open PySem PySem.Spec PyProof.Rows L2
section
variable {X : Cx} {Z : Ent} {W : Wish} {k : Nat} {a : Addr} {oe : Obj} {pn : List (Addr × Obj)} {cls : Value} {d : Option Addr} {i c : Nat} {t : T}
theorem tX_bind {g : De} {kk : T → Mu → Ot T} {Q : VK} {p : Pt} {μ : Mu} {Γ : Gam} {σ : L2.St} {H : Hp} (s : SR Z p H μ) (e : ER Z p σ Γ) (x : XH Z a cls d i c t p σ) (h : Post Z W σ Q p (Ot.bind (g Γ μ) kk)) :
    tX Z W a cls d i c t g σ H fun v H1 => ∃ (q : Pt) (μ1 : Mu) (u : T), p.Le q ∧ SR Z q H1 μ1 ∧ ER Z q σ Γ ∧ XH Z a cls d i c t q σ ∧ RT Z q v u ∧ Post Z W σ Q q (kk u μ1) := by
  refine ⟨p, μ, Γ, s, e, x, ?_⟩
  match hg : g Γ μ, h with
  | some (.ok u μ1), h =>
    have h : Post Z W σ Q p (kk u μ1) := h
    exact fun v H' q hl hs hr => ⟨q, μ1, u, hl, hs, e.mono hl, x.mono hl, hr, Post.le hl h⟩
  | some (.exc c u μ1), h => exact h
variable {ga gb : De}
theorem twoX {g : Mu → T → T → Vt} {σ : L2.St} {H : Hp} {Q : VK} (h : tX Z W a cls d i c t (d2 g ga gb) σ H Q) :
    tX Z W a cls d i c t ga σ H fun x H1 => tX Z W a cls d i c t gb σ H1 fun y H2 => rV2 Z g x y H2 Q := by
  obtain ⟨p, μ, Γ, s, e, xh, h⟩ := h
  obtain ⟨p', μ', Γ', s', e', x', h'⟩ := tX_bind (a := a) (cls := cls) (d := d) (i := i) (c := c) (t := t) s e xh h
  refine ⟨p', μ', Γ', s', e', x', ?_⟩
  match hg : ga Γ' μ', h' with
  | some (.ok u μ1), h' =>
    intro v H' q hl hs hr
    obtain ⟨q1, μ2, t2, l1, s1, e1, x1, r1, k1⟩ := h' v H' q hl hs hr
    obtain ⟨p3, μ3, Γ3, s3, e3, x3, h3⟩ := tX_bind (a := a) (cls := cls) (d := d) (i := i) (c := c) (t := t) s1 e1 x1 k1
    refine ⟨p3, μ3, Γ3, s3, e3, x3, ?_⟩
    match hg3 : gb Γ3 μ3, h3 with
    | some (.ok t4 μ4), h3 =>
      intro v4 H4 q4 hl4 hs4 hr4
      obtain ⟨q5, μ5, t5, l5, s5, e5, x5, r5, k5⟩ := h3 v4 H4 q4 hl4 hs4 hr4
      exact ⟨q5, μ5, t2, t5, s5, r1.mono l5, r5, VPost.post k5⟩
    | some (.exc c4 t4 μ4), h3 => exact h3
  | some (.exc c u μ1), h' => exact h'
variable {Y : Cx} {e1 e2 : Expr} {es : List Expr} {ge : De} {da : Da} {pos : Pos}
theorem xx_bin (hK : Y.K = Z.K) (live : Bool) {op : Operator} (ha : PE Y e1 (tX Z W a cls d i c t ga)) (hb : PE Y e2 (tX Z W a cls d i c t gb)) : PE Y (.BinOp e1 op e2 pos) (tX Z W a cls d i c t (d2 (binV live op) ga gb)) :=
  pe_imp (pe_op (op_binV hK live op) ha hb) fun _ _ _ h => twoX h
theorem XH.set {p : Pt} {σ : L2.St} (h : XH Z a cls d i c t p σ) {j : Nat} (hij : j ≠ i) (v : Option V) : XH Z a cls d i c t p (σ.set j v) :=
  ⟨by rw [List.getElem?_set_ne hij]; exact h.s, h.x⟩
theorem xxs_setc {j : Nat} {x : Str} {pos' : Pos} {rest : List Stmt} {e : Expr} {gr : Ds} (hij : j ≠ i) (hN : Y.N.Nodup) (hi : Y.N[j]? = some x) (hx : Loc Y.env.scope x) (he : PE Y e (tX Z W a cls d i c t ge)) (hs : swapsWith e (some (.Name x pos')) pos.line Y.env = pure false) (hf : Y.fn x = true ∨ Y.env.scope.names.lookup x = some .local)
    (hr : PSs Y rest (tXS Z W a cls d i c t gr)) :
    PSs Y (.Assign [.Name x pos'] e pos :: rest) (tXS Z W a cls d i c t (sSeq (sSet j ge) gr)) :=
  pss_imp (pss_cons (ps_set hN hi hx he hs hf) hr) fun D σ H ⟨p, μ, Γ, s, er, xh, h⟩ => by
    have h2 : PostS Z W D p (Ot.bindS (ge Γ μ) Γ fun u μ1 => gr (Γ.set j (some u)) μ1) := by
      unfold sSeq sSet at h
      cases hg : ge Γ μ with
      | none => rw [hg] at h; exact h
      | some r =>
        rw [hg] at h
        cases r with
        | ok u μ1 => exact h
        | exc c u μ1 => exact h
    obtain ⟨p', μ', Γ', s', e', x', h'⟩ := tX_bindS (a := a) (cls := cls) (d := d) (i := i) (c := c) (t := t) s er xh h2
    refine ⟨p', μ', Γ', s', e', x', ?_⟩
    match hg : ge Γ' μ', h' with
    | some (.ok u μ1), h' =>
      intro v H' q hl hs hr
      obtain ⟨q1, μ2, t2, l1, s1, e1, x1, r1, k1⟩ := h' v H' q hl hs hr
      exact ⟨q1, μ2, _, s1, e1.set r1 j, x1.set hij _, k1⟩
    | some (.exc c t μ1), h' => exact h'
end
/-! a new object of values that are named -/
section
variable {X : Cx} {k : Nat} {f C : Addr} {fd : FuncData} {ps ks : List Str} {pm : List Nat} {sp : Sp} {E : XK}
theorem runMkK {pins : List (Addr × Obj)} {σ : L2.St} {H : Hp} {s : Shared} {Q : VK} {ws : List Value} {zs : List V} (M : Mk X.K C f)
    (F : FnG X.prog X.w X.K X.mg X.base k f fd ps sp) (hr : Room (k + 1) X.A) (hgd : X.A.guards = some []) (hb : KB X.K fd ps ks 1 pm)
    (hx : PassesAt (L2.CX X.prog X.w) X σ E)
    (I : Inv X pins σ H s) (r : Vals zs ws) (hl : ws.length = ks.length)
    (h : ∀ x dx, H x = none → H dx = none → dx ≠ x → sp (.ref x :: pick pm zs) (upd (upd H dx (.own x)) x (.ins C dx [])) (fun v H2 => v = .non ∧ Q (.ref x) H2) E) :
    wpAny (model X.prog X.w) X.A (PySem.call (.ref C) [] (ks.zip ws)) (EP X pins σ Q) X.xe s := by
  have hq := h (s.heap.objs.size + 1) s.heap.objs.size (I.hok.fresh (Nat.le_succ _)) (I.hok.fresh (Nat.le_refl _)) (Nat.ne_of_lt (Nat.lt_succ_self _))
  have I2 := Inv.made (C := C) I
  have r2 : Vals (V.ref (s.heap.objs.size + 1) :: pick pm zs) (Value.ref (s.heap.objs.size + 1) :: pick pm ws) := Paired.cons rfl (Vals.pick r pm)
  have hbd := hb _ [Value.ref (s.heap.objs.size + 1)] ws I2.kIn rfl hl
  have hgm : (X.A.under (.builtin "type.__call__" ⟨.ref C :: [], ks.zip ws⟩)).guards = some [] := by
    first
      | exact hgd
      | simp [Around.under, Code.guards, Code.isGuard, guardIds, pushGuards, hgd]
  have hrun := F.run _ X.stack _ _ ⟨[Value.ref (s.heap.objs.size + 1)], ks.zip ws⟩ (Value.ref (s.heap.objs.size + 1) :: pick pm ws) _ _ E (hr.make C [] (ks.zip ws)) hgm (I2.env0.make C [] (ks.zip ws)) hbd r2 hq
  refine wpAny_call (make_map (f := f) I.kIn M.makes M.init (beq_iff_eq.mp M.fn) (codeAny_mono hrun ?_))
  intro res s' hq'
  match res, hq' with
  | .error e, hq' => exact hx pins _ _ e s' I2 hq'
  | .ok (.ret u), hq' =>
    obtain ⟨v, H', I3, rv, ev, q3⟩ := I2.after hq'
    subst ev
    exact ⟨rv, V.ref (s.heap.objs.size + 1), H', I3, rfl, q3⟩
  | .ok .next, hq' => exact False.elim hq'
  | .ok .brk, hq' => exact False.elim hq'
  | .ok .cont, hq' => exact False.elim hq'
end
def dMakeK (g : List T → Mu → Ot T) (n c ar : Nat) (live keep : Bool) (rf : List Bool) (m0 : Nat) (pm : List Nat) (nk : Nat) (dk : Da) : De := fun Γ μ => Ot.bind (dk Γ μ) fun ts μ1 => if ts.length = nk then if (pick pm ts).length + 1 = n then mkD g c ar live keep rf m0 (pick pm ts) μ1 else none else none
section
variable {X : Cx} {Z : Ent} {W : Wish} {k n : Nat} {f C : Addr} {fd : FuncData} {ps ks : List Str} {g : List T → Mu → Ot T} {x : Str} {p pos : Pos} {kws : List Keyword} {dk : Da}
theorem xe_makeK (live keep : Bool) (rf : List Bool) {pm : List Nat} {c ar m0 : Nat} {names : List Str} (B : Be X Z W (k + 1)) (hm0 : Z.ms0.length = m0) (M : Mk X.K C f) (hC : Z.TB.cls c = some (C, names)) (har : names.length = ar)
    (F : FnG X.prog X.w X.K X.mg X.base k f fd ps (spD X.K Z.TB g n)) (hg : Gl X x) (hm : X.mg x = some (.ref C)) (hb : KB X.K fd ps ks 1 pm)
    (hkw : PK X kws (tDA Z W dk)) (hall : (backToKw pos (keywordEach kws X.env)).all (·.1.isSome) = true) (hks : (backToKw pos (keywordEach kws X.env)).filterMap (·.1) = ks) (hdb : (x == ("__debug__" : Str)) = false)
    (hpl : ((backTo pos (starEach [] X.env)).any (·.1) || (backToKw pos (keywordEach kws X.env)).any (·.1.isNone)) = false) :
    PE X (.Call (.Name x p) [] kws pos) (tD Z W (dMakeK g n c ar live keep rf m0 pm ks.length dk)) := by
  subst hm0
  refine ⟨fun pins s σ H Q I h => ?_⟩
  obtain ⟨p0, μ, Γ, s0, e0, h⟩ := h
  refine wpAny_Call_Name_kw (ld_glob I hg hm ?_ hdb)
  refine PySem.W.callWith_KW0 (h₀ := X.base) I.ok.mod.kin M.kp hall ?_ hpl
  refine thn (hkw.run pos pins s σ H _ I (tDA_bind s0 e0 h)) fun us s1 ⟨vs, H1, I1, r, q, μ1, ts, l1, s2, e2, rt, po⟩ => ⟨I1.kIn, ?_⟩
  rw [hks]
  split at po
  · rename_i hl
    split at po
    · rename_i hn
      have ow := make_owes hC har s2 (rt.pick pm) po
      rw [(rt.pick pm).length, hn] at ow
      rw [← B.hK] at ow
      exact runMkK M F B.room B.gd hb (passAt B.tk σ) I1 r (by rw [← r.length, rt.length, hl]) ow
    · exact po.elim
  · exact po.elim
end
section
variable {X : Cx} {Z : Ent} {W : Wish} {a : Addr} {oe : Obj} {pn : List (Addr × Obj)} {cls : Value} {d : Option Addr} {i c : Nat} {t : T} {ga gb : De} {e1 e2 : Expr} {pos : Pos}
theorem xx_binS (hK : X.K = Z.K) (live : Bool) {op : Operator} (ha : PE (X.suite a ((a, oe) :: pn)) e1 (tX Z W a cls d i c t ga)) (hb : PE (X.suite a ((a, oe) :: pn)) e2 (tX Z W a cls d i c t gb)) :
    PE (X.suite a ((a, oe) :: pn)) (.BinOp e1 op e2 pos) (tX Z W a cls d i c t (d2 (binV live op) ga gb)) := xx_bin (Y := X.suite a ((a, oe) :: pn)) hK live ha hb
end
theorem RTs.three {Z : Ent} {p : Pt} {xs : List V} {t u w : T} (h : RTs Z p xs [t, u, w]) : ∃ v1 v2 v3, xs = [v1, v2, v3] ∧ RT Z p v1 t ∧ RT Z p v2 u ∧ RT Z p v3 w := by
  cases h with
  | cons h g =>
    cases g with
    | cons g k =>
      cases k with
      | cons k l => cases l; exact ⟨_, _, _, rfl, h, g, k⟩
/-- a, b, c = x, y, z -/
def sPar3 (i j l : Nat) (da : Da) : Ds := fun Γ μ => Ot.bindS (da Γ μ) Γ fun ts μ1 => match ts with
  | [t, u, w] => some (.nx (((Γ.set i (some t)).set j (some u)).set l (some w)) μ1)
  | _ => none
section
variable {X : Cx} {Z : Ent} {W : Wish} {e1 e2 e3 : Expr} {da : Da} {px py pz pt pos : Pos} {x y z : Str}
theorem xs_par3 {i j l : Nat} {kt k2 pt2} (hc : X.calm = true) (hN : X.N.Nodup) (hi : X.N[i]? = some x) (hj : X.N[j]? = some y) (hl : X.N[l]? = some z) (hij : i ≠ j) (hil : i ≠ l) (hjl : j ≠ l)
    (hx : X.env.scope.names.lookup x = some .local) (hy : X.env.scope.names.lookup y = some .local) (hz : X.env.scope.names.lookup z = some .local) (ha : PA X [e1, e2, e3] (tDA Z W da))
    (hw : swappedStores [.Tuple [.Name x px, .Name y py, .Name z pz] kt pt] (.Tuple [e1, e2, e3] k2 pt2) X.env = pure (some [x, y, z]))
    (hs : swapsWithSole [.Tuple [.Name x px, .Name y py, .Name z pz] kt pt] (.Tuple [e1, e2, e3] k2 pt2) pos.line X.env = pure false) :
    PS X (.Assign [.Tuple [.Name x px, .Name y py, .Name z pz] kt pt] (.Tuple [e1, e2, e3] k2 pt2) pos) (tDS Z W (sPar3 i j l da)) :=
  ps_imp (ps_par3 hc hN hi hj hl hij hil hjl hx hy hz ha hw hs) fun D σ H ⟨p, μ, Γ, s, e, h⟩ => by
    obtain ⟨p', μ', Γ', s', e', h'⟩ := tDA_bindS s e h
    refine ⟨p', μ', Γ', s', e', ?_⟩
    match hg : da Γ' μ', h' with
    | some (.ok t μ1), h' =>
      intro v H' q hl hs hr
      obtain ⟨q1, μ2, t2, l1, s1, e1, r1, k1⟩ := h' v H' q hl hs hr
      split at k1
      · rename_i t u w
        obtain ⟨v1, v2, v3, rfl, h1, h2, h3⟩ := r1.three
        exact ⟨v1, v2, v3, rfl, k1 _ _ q1 (.refl _) s1 (((e1.set h1 _).set h2 _).set h3 _)⟩
      · exact k1.elim
    | some (.exc c t μ1), h' => exact h'
end
end L3

set_option Elab.async false
set_option linter.all false
set_option maxRecDepth 100000
set_option maxHeartbeats 4000000
/-! texts times numbers; tuples cut and put together -/
namespace L3
open PySem PySem.Spec PyProof.Rows L2
/-- a text, n times -/
def mulS (x : Str) (n : Int) : Str := if (n == 1 || x.length == 0) = true then x else ⟨(List.replicate n.toNat x.cps).foldl (· ++ ·) #[]⟩
theorem fold_size (a : Array Nat) : ∀ (k : Nat) (b : Array Nat), ((List.replicate k a).foldl (· ++ ·) b).size = b.size + k * a.size
  | 0, b => by simp
  | k + 1, b => by
    rw [List.replicate_succ, List.foldl_cons, fold_size a k (b ++ a), Array.size_append, Nat.succ_mul]
    omega
section
variable {X : Cx}
theorem lim_mul {z n m : Int} (hm : 1000000 ≤ m) (h0 : 0 ≤ z) (h1 : 1 ≤ n) (h2 : n ≤ 1000) (h3 : z ≤ 1000) : ¬ (z > m / n) := by
  have h4 : z * n ≤ 1000 * 1000 := Int.mul_le_mul h3 h2 (by omega) (by omega)
  have h5 : z ≤ m / n := (Int.le_ediv_iff_mul_le (by omega)).mpr (by omega)
  omega
theorem op_mul_str : OpR X (binaryOp .Mult) (fun x y H Q => ∃ z n, x = .str z ∧ y = .int n ∧ 1 ≤ n ∧ n ≤ 1000 ∧ z.length ≤ 1000 ∧ Q (.str (mulS z n)) H) := by
  intro pins s σ H x y v u Q I rx ry h
  obtain ⟨z, n, rfl, rfl, h1, h2, hz, q⟩ := h
  obtain ⟨t, rfl⟩ := rx
  obtain ⟨t', rfl⟩ := ry
  have hlt : n < 2 ^ 63 := Int.lt_of_le_of_lt h2 (by decide)
  have hgt : ¬ n < -(2 ^ 63 : Int) := fun h => by
    have : (-(2 ^ 63 : Int)) < 1 := by decide
    omega
  have hn : ¬ n < 1 := by omega
  have hmul : z.length * n.toNat ≤ 1000000 := by
    have : n.toNat ≤ 1000 := by omega
    calc z.length * n.toNat ≤ 1000 * 1000 := Nat.mul_le_mul hz this
      _ = 1000000 := rfl
  have hsl : z.length * n.toNat ≤ sizeLine := Nat.le_trans hmul (by rw [sizeLine_eq]; decide)
  refine PySem.P.mul_str (by rw [decide_eq_false hgt, decide_eq_false (by omega : ¬ n ≥ 2 ^ 63)]; rfl) (fun _ _ => lim_mul (by decide) (by omega) h1 h2 (by omega)) (fun _ _ => decide_eq_false (by omega)) ?_
  rw [if_neg hn]
  unfold mulS at q
  split
  · rename_i hc
    rw [if_pos hc] at q
    exact ⟨.str z, H, I, ⟨_, rfl⟩, q⟩
  · rename_i hc
    rw [if_neg hc] at q
    refine ⟨?_, .str _, H, I.tok _, ⟨_, rfl⟩, q⟩
    show ((List.replicate n.toNat z.cps).foldl (· ++ ·) #[]).size ≤ sizeLine
    rw [fold_size]
    have e : z.cps.size = z.length := rfl
    rw [e, Nat.mul_comm]
    simpa using hsl
end
def mulSV (μ : Mu) (a b : T) : Vt := match a, b with
  | .v _ (.str x), .v _ (.int n) => if 1 ≤ n ∧ n ≤ 1000 ∧ x.length ≤ 1000 then some (.v true (.str (mulS x n)), μ) else none
  | _, _ => none
/-- tuples put together, of any length -/
def catTV (μ : Mu) (a b : T) : Vt := match itemsP μ a, itemsP μ b with
  | some (false, ts), some (false, us) => if ts.length + us.length ≤ sizeLine then (if ts = [] then some (b, μ) else if us = [] then some (a, μ) else newU μ (ts ++ us)) else none
  | _, _ => none
/-- a part of a tuple -/
def slTV (μ : Mu) (a : T) (lo hi : Option Int) : Vt := match items μ a with
  | some (false, ts) => if HT.sIx ts.length 0 lo = 0 ∧ HT.sIx ts.length ts.length hi = ts.length then some (a, μ) else newU μ (cutT ts lo hi)
  | _ => none
section
variable {X : Cx} {Z : Ent} {W : Wish} {a b : Expr} {ga gb : De} {pos p2 : Pos}
theorem op_mulSV : OpR X (binaryOp .Mult) (rV2 Z mulSV) := by
  intro pins s σ H x y v u Q I rx ry h
  obtain ⟨p, μ, tx, ty, sr, hx, hy, h⟩ := h
  unfold mulSV at h
  split at h
  · rename_i _ z _ n
    cases hx.str
    cases hy.int
    split at h
    · rename_i hz
      exact op_mul_str pins s σ H _ _ v u Q I rx ry ⟨_, _, rfl, rfl, hz.1, hz.2.1, hz.2.2, VPost.flat sr (Dx.str _) h⟩
    · exact h.elim
  · exact h.elim
theorem VPost.here {p : Pt} {H : Hp} {μ : Mu} {Q : VK} {v : V} {t : T} (s : SR Z p H μ) (r : RT Z p v t) (h : VPost Z Q p (some (t, μ))) : Q v H := h v H p (.refl p) s r
theorem op_catTV (hK : X.K = Z.K) : OpR X (binaryOp .Add) (rV2 Z catTV) := by
  intro pins s σ H x y v u Q I rx ry h
  obtain ⟨p, μ, tx, ty, sr, hx, hy, h⟩ := h
  unfold catTV at h
  split at h
  · rename_i ts us e1 e2
    split at h
    · rename_i hz
      obtain ⟨a, vs, rfl, h1, r1⟩ := itemsP_ok sr hx e1
      obtain ⟨b, ws, rfl, h2, r2⟩ := itemsP_ok sr hy e2
      refine op_catA pins s σ H _ _ v u Q I rx ry ⟨a, b, vs, ws, rfl, rfl, SqT.of h1, SqT.of h2, by rw [r1.length, r2.length]; exact hz, fun z => ?_, fun z z2 => ?_, fun z z2 q n => ?_⟩
      · rw [if_pos (r1.nil_iff.mp z)] at h
        exact VPost.here sr hy h
      · rw [if_neg fun e => z (r1.nil_iff.mpr e), if_pos (r2.nil_iff.mp z2)] at h
        exact VPost.here sr hx h
      · rw [if_neg fun e => z (r1.nil_iff.mpr e), if_neg fun e => z2 (r2.nil_iff.mpr e)] at h
        exact newU_ok sr (r1.append r2) h n
    · exact h.elim
  · exact h.elim
def rSlTV (Z : Ent) : V → Option Int → Option Int → Hp → VK → Prop := fun x lo hi H Q => ∃ (p : Pt) (μ : Mu) (tx : T), SR Z p H μ ∧ RT Z p x tx ∧ VPost Z Q p (slTV μ tx lo hi)
theorem sl_TV (hK : X.K = Z.K) : SlR X (rSlTV Z) := by
  intro pins s σ H x v vl vu lo hi sl Q I rx hs pl pu h
  obtain ⟨p, μ, tx, sr, hx, h⟩ := h
  unfold slTV at h
  split at h
  · rename_i ts hi'
    obtain ⟨a, vs, rfl, h1, h2⟩ := items_ok sr hx hi'
    refine sl_tupA pins s σ H _ v vl vu lo hi sl Q I rx hs pl pu ⟨a, vs, rfl, by rw [hK]; exact h1, fun z => ?_, fun z q n => ?_⟩
    · rw [h2.length] at z
      rw [if_pos z] at h
      exact VPost.here sr hx h
    · rw [h2.length] at z
      rw [if_neg z] at h
      exact newU_ok sr (h2.cut lo hi) h n
  · exact h.elim
theorem xe_mulS (ha : PE X a (tD Z W ga)) (hb : PE X b (tD Z W gb)) : PE X (.BinOp a .Mult b pos) (tD Z W (d2 mulSV ga gb)) :=
  pe_imp (pe_op op_mulSV ha hb) fun _ _ _ h => two h
theorem xe_catT (hK : X.K = Z.K) (ha : PE X a (tD Z W ga)) (hb : PE X b (tD Z W gb)) : PE X (.BinOp a .Add b pos) (tD Z W (d2 catTV ga gb)) :=
  pe_imp (pe_op (op_catTV hK) ha hb) fun _ _ _ h => two h
def dSlT (ga : De) (gl gh : Dp3) : De := fun Γ μ => Ot.bind (ga Γ μ) fun t μ1 => Ot.bind (dPart gl Γ μ1) fun l μ2 => Ot.bind (dPart gh Γ μ2) fun u μ3 => (slTV μ3 t l u).ot
theorem xe_slT (hK : X.K = Z.K) {lo hi : Option Expr} {gl gh : Dp3} (ha : PE X a (tD Z W ga)) (hl : PoD X Z W lo gl) (hh : PoD X Z W hi gh) : PE X (.Subscript a (.Slice lo hi none p2) pos) (tD Z W (dSlT ga gl gh)) := by
  obtain ⟨t1, o1, r1⟩ := po_run hl
  obtain ⟨t2, o2, r2⟩ := po_run hh
  refine pe_imp (pe_slice (sl_TV hK) ha o1 o2) fun σ H Q ⟨p, μ, Γ, s, e, h⟩ => ?_
  obtain ⟨p', μ', Γ', s', e', h'⟩ := tD_bind s e h
  refine ⟨p', μ', Γ', s', e', ?_⟩
  match hg : ga Γ' μ', h' with
  | some (.ok t μ1), h' =>
    intro v H' q hl hs hr
    obtain ⟨q1, μ2, t2, l1, s1, e1, rt, k1⟩ := h' v H' q hl hs hr
    refine r1 σ H' q1 μ2 Γ Q _ _ s1 e1 k1 fun l H1 q2 μ3 l2 s2 e2 k2 => ?_
    refine r2 σ H1 q2 μ3 Γ Q _ _ s2 e2 k2 fun u H2 q3 μ4 l3 s3 e3 k3 => ?_
    exact ⟨q3, μ4, t2, s3, (rt.mono l2).mono l3, VPost.post k3⟩
  | some (.exc c t μ1), h' => exact h'
end
end L3

set_option Elab.async false
set_option linter.all false
set_option maxRecDepth 100000
set_option maxHeartbeats 4000000
/-! L3: dicts that may change, with keys that are texts or numbers (dK), or tuples of such (dT). -/
namespace L3
open PySem PySem.Spec PyProof.Rows L2

def keyA : D → Option Key
  | .int i => some (.inl i)
  | .str s => some (.inr s)
  | _ => none
def keysA : List D → Option (List Key)
  | [] => some []
  | d :: r => match keyA d, keysA r with
    | some k, some ks => some (k :: ks)
    | _, _ => none
def keyTup : T → Option (List Key)
  | .v _ (.tup ds) => keysA ds
  | _ => none
def keyAtm : T → Option Key
  | .v _ d => keyA d
  | .m _ => none
section
variable {Z : Ent} {p q : Pt} {H : Hp} {μ : Mu}
theorem keyA_ok {K : PySem.W.Frag} {TB : Tab} {F : Hp} {v : V} {d : D} {k : Key} (h : Dx K TB F v d) (e : keyA d = some k) : v = kV k := by
  cases h <;> first | (cases e; rfl) | cases e
theorem keysA_ok {K : PySem.W.Frag} {TB : Tab} {F : Hp} : ∀ {ds : List D} {vs : List V} {ks : List Key}, DxAll K TB F vs ds → keysA ds = some ks → vs = ks.map kV
  | [], _, _, h, e => by cases h; cases e; rfl
  | d :: r, _, ks, h, e => by
    cases h with
    | cons h1 h2 =>
      unfold keysA at e
      match hk : keyA d, hr : keysA r, e with
      | some k, some ks', e =>
        cases e
        rw [keyA_ok h1 hk, keysA_ok h2 hr]
        rfl
      | none, _, e => cases e
      | some _, none, e => cases e
theorem keyTup_ok (s : SR Z p H μ) {t : T} {v : V} {ks : List Key} (h : RT Z p v t) (e : keyTup t = some ks) : ∃ b, v = .ref b ∧ H b = some (.tup (ks.map kV)) := by
  match t, h, e with
  | .v f (.tup ds), h, e =>
    have h' := RT.up s f h
    cases h' with
    | tup hs ha => exact ⟨_, rfl, by rw [hs, keysA_ok ha e]⟩
theorem keyAtm_ok (s : SR Z p H μ) {t : T} {v : V} {k : Key} (h : RT Z p v t) (e : keyAtm t = some k) : v = kV k := by
  match t, h, e with
  | .v f d, h, e => exact keyA_ok (RT.up s f h) e
def hasK {κ : Type} [DecidableEq κ] (k : κ) (ks : List κ) : Bool := ks.any fun x => decide (x = k)
theorem hasK_iff {κ : Type} [DecidableEq κ] {k : κ} {ks : List κ} : hasK k ks = true ↔ k ∈ ks := by
  unfold hasK
  rw [List.any_eq_true]
  exact ⟨fun ⟨x, h, e⟩ => of_decide_eq_true e ▸ h, fun h => ⟨k, h, decide_eq_true rfl⟩⟩
theorem hasK_false {κ : Type} [DecidableEq κ] {k : κ} {ks : List κ} : hasK k ks = false ↔ k ∉ ks := by
  rw [← hasK_iff, Bool.not_eq_true]
theorem valV_has {κ : Type} [DecidableEq κ] (k : κ) (kvs : List (κ × V)) : (valV kvs k).isSome = hasK k (kvs.map Prod.fst) := by
  rw [← valV_any]
  unfold hasK
  rw [List.any_map]
  rfl
def findK {κ : Type} [DecidableEq κ] (k : κ) : List κ → List T → Option T
  | a :: ks, t :: ts => if a = k then some t else findK k ks ts
  | _, _ => none
theorem findK_ok {κ : Type} [DecidableEq κ] {k : κ} {t : T} : ∀ {kvs : List (κ × V)} {ts : List T}, RTs Z p (kvs.map Prod.snd) ts → findK k (kvs.map Prod.fst) ts = some t → ∃ v, valV kvs k = some v ∧ RT Z p v t
  | [], _, _, e => by unfold findK at e; cases e
  | kv :: r, ts, h, e => by
    cases h with
    | cons h1 h2 =>
      by_cases hk : kv.1 = k
      · have e' : (if kv.1 = k then some _ else _) = some t := e
        rw [if_pos hk] at e'
        cases e'
        exact ⟨kv.2, valV_pos hk, h1⟩
      · have e' : (if kv.1 = k then some _ else findK k (r.map Prod.fst) _) = some t := e
        rw [if_neg hk] at e'
        obtain ⟨v, hv, hr⟩ := findK_ok h2 e'
        exact ⟨v, (valV_neg hk).trans hv, hr⟩
end

/-- x in d, x not in d -/
def dinV (neg : Bool) (μ : Mu) (i o : T) : Vt := match o with
  | .m j => match μ[j]? with
    | some (.dT ks _) => match keyTup i with
      | some k => some (.v true (.bl (if neg then !hasK k ks else hasK k ks)), μ)
      | none => none
    | some (.dK ks _) => match keyAtm i with
      | some k => some (.v true (.bl (if neg then !hasK k ks else hasK k ks)), μ)
      | none => none
    | _ => none
  | .v _ _ => none
/-- d[x] -/
def dgetV (μ : Mu) (o i : T) : Vt := match o with
  | .m j => match μ[j]? with
    | some (.dT ks ts) => match keyTup i with
      | some k => match findK k ks ts with
        | some t => some (t, μ)
        | none => none
      | none => none
    | some (.dK ks ts) => match keyAtm i with
      | some k => match findK k ks ts with
        | some t => some (t, μ)
        | none => none
      | none => none
    | _ => none
  | .v _ _ => none
/-- d[x] = t, x not there yet -/
def dputV (μ : Mu) (o i t : T) : Option Mu := match o with
  | .m j => match μ[j]? with
    | some (.dT ks ts) => match keyTup i with
      | some k => if hasK k ks = true then none else if ks.length < sizeLine then some (μ.set j (.dT (ks ++ [k]) (ts ++ [t]))) else none
      | none => none
    | some (.dK ks ts) => match keyAtm i with
      | some k => if hasK k ks = true then none else if ks.length < sizeLine then some (μ.set j (.dK (ks ++ [k]) (ts ++ [t]))) else none
      | none => none
    | _ => none
  | .v _ _ => none
def sDput (go gi ge : De) : Ds := fun Γ μ => Ot.bindS (ge Γ μ) Γ fun t μ1 => Ot.bindS (go Γ μ1) Γ fun o μ2 => Ot.bindS (gi Γ μ2) Γ fun i μ3 => match dputV μ3 o i t with
  | some μ4 => some (.nx Γ μ4)
  | none => none
/-- {}, to be a dict of the one kind or the other; {k: v} -/
def dEmp (tk : Bool) : Cell := if tk then .dT [] [] else .dK [] []
def dDis0 (tk : Bool) : De := fun Γ μ => some (.ok (.m μ.length) (μ ++ [dEmp tk]))
def dis1T (n : Nat) (μ : Mu) (i t : T) : Vt := match μ[n]? with
  | some (.dT [] []) => match keyTup i with
    | some k => some (.m n, μ.set n (.dT [k] [t]))
    | none => none
  | _ => none
def dis1K (n : Nat) (μ : Mu) (i t : T) : Vt := match μ[n]? with
  | some (.dK [] []) => match keyAtm i with
    | some k => some (.m n, μ.set n (.dK [k] [t]))
    | none => none
  | _ => none
def dis1V (tk : Bool) (n : Nat) (μ : Mu) (i t : T) : Vt := if tk then dis1T n μ i t else dis1K n μ i t
def dDis1 (tk : Bool) (gk gv : De) : De := fun Γ μ => Ot.bind (gk Γ (μ ++ [dEmp tk])) fun i μ1 => Ot.bind (gv Γ μ1) fun t μ2 => (dis1V tk μ.length μ2 i t).ot

section
variable {X : Cx} {Z : Ent} {W : Wish} {o i e value : Expr} {pos pos' : Pos} {go gi ge : De}
theorem dinV_ok {neg : Bool} {x y : V} {H : Hp} {Q : VK} (h : rV2 Z (dinV neg) x y H Q) : ∃ a ov, y = .ref a ∧ DGet H a x ov ∧ Q (.bl (if neg then !ov.isSome else ov.isSome)) H := by
  obtain ⟨p, μ, tx, ty, s, hx, hy, h⟩ := h
  cases ty with
  | v _ _ => exact h.elim
  | m j =>
    obtain ⟨a, ha, rfl⟩ := hy
    unfold dinV at h
    dsimp only at h
    split at h
    · rename_i ks ts hc
      split at h
      · rename_i k hk
        obtain ⟨b, rfl, hb⟩ := keyTup_ok s hx hk
        obtain ⟨kvs, h1, h2, h3⟩ := s.cell j a _ ha hc
        refine ⟨a, _, rfl, DGet.t (k := k) h1 hb, ?_⟩
        rw [valV_has, h2]
        exact VPost.flat s (Dx.bl _) h
      · exact h.elim
    · rename_i ks ts hc
      split at h
      · rename_i k hk
        cases keyAtm_ok s hx hk
        obtain ⟨kvs, h1, h2, h3⟩ := s.cell j a _ ha hc
        refine ⟨a, _, rfl, DGet.k (k := k) h1, ?_⟩
        rw [valV_has, h2]
        exact VPost.flat s (Dx.bl _) h
      · exact h.elim
    · exact h.elim
theorem xt_din (hu : X.A.units + 1 < cLine) (hi : PE X i (tD Z W gi)) (ho : PE X o (tD Z W go)) (hm : behindInMarks .In o = false) : PT X (.Compare i [.In] [o] pos) (tDB Z W (bOf (d2 (dinV false) gi go))) :=
  pt_imp (pt_cmp (pc_din hu hi ho) hm) fun σ H Q h => by
    obtain ⟨p, μ, Γ, s, e, h'⟩ := bOf_test h
    obtain ⟨p2, μ2, Γ2, s2, e2, h2⟩ := two ⟨p, μ, Γ, s, e, h'⟩
    refine ⟨p2, μ2, Γ2, s2, e2, ?_⟩
    match hg : gi Γ2 μ2, h2 with
    | some (.exc _ _ _), h2 => exact h2
    | some (.ok t μ3), h2 =>
      intro v H1 q hl hs hr
      obtain ⟨p4, μ4, Γ4, s4, e4, h4⟩ := h2 v H1 q hl hs hr
      refine ⟨p4, μ4, Γ4, s4, e4, ?_⟩
      match hg4 : go Γ4 μ4, h4 with
      | some (.exc _ _ _), h4 => exact h4
      | some (.ok t5 μ5), h4 =>
        intro v5 H5 q5 hl5 hs5 hr5
        obtain ⟨a, ov, e1, e3, k, e6, e7⟩ := dinV_ok (h4 v5 H5 q5 hl5 hs5 hr5)
        cases e6
        exact ⟨a, ov, e1, e3, _, rfl, e7⟩
theorem xt_dnotin (hu : X.A.units + 1 < cLine) (hi : PE X i (tD Z W gi)) (ho : PE X o (tD Z W go)) (hm : behindInMarks .NotIn o = false) : PT X (.Compare i [.NotIn] [o] pos) (tDB Z W (bOf (d2 (dinV true) gi go))) :=
  pt_imp (pt_cmp (pc_dnotin hu hi ho) hm) fun σ H Q h => by
    obtain ⟨p, μ, Γ, s, e, h'⟩ := bOf_test h
    obtain ⟨p2, μ2, Γ2, s2, e2, h2⟩ := two ⟨p, μ, Γ, s, e, h'⟩
    refine ⟨p2, μ2, Γ2, s2, e2, ?_⟩
    match hg : gi Γ2 μ2, h2 with
    | some (.exc _ _ _), h2 => exact h2
    | some (.ok t μ3), h2 =>
      intro v H1 q hl hs hr
      obtain ⟨p4, μ4, Γ4, s4, e4, h4⟩ := h2 v H1 q hl hs hr
      refine ⟨p4, μ4, Γ4, s4, e4, ?_⟩
      match hg4 : go Γ4 μ4, h4 with
      | some (.exc _ _ _), h4 => exact h4
      | some (.ok t5 μ5), h4 =>
        intro v5 H5 q5 hl5 hs5 hr5
        obtain ⟨a, ov, e1, e3, k, e6, e7⟩ := dinV_ok (h4 v5 H5 q5 hl5 hs5 hr5)
        cases e6
        exact ⟨a, ov, e1, e3, _, rfl, e7⟩
theorem xe_din (hu : X.A.units + 1 < cLine) (hi : PE X i (tD Z W gi)) (ho : PE X o (tD Z W go)) (hm : behindInMarks .In o = false) : PE X (.Compare i [.In] [o] pos) (tD Z W (d2 (dinV false) gi go)) :=
  pe_imp (pe_cmp (pc_din hu hi ho) hm) fun σ H Q h => by
    obtain ⟨p2, μ2, Γ2, s2, e2, h2⟩ := two h
    refine ⟨p2, μ2, Γ2, s2, e2, ?_⟩
    match hg : gi Γ2 μ2, h2 with
    | some (.exc _ _ _), h2 => exact h2
    | some (.ok t μ3), h2 =>
      intro v H1 q hl hs hr
      obtain ⟨p4, μ4, Γ4, s4, e4, h4⟩ := h2 v H1 q hl hs hr
      refine ⟨p4, μ4, Γ4, s4, e4, ?_⟩
      match hg4 : go Γ4 μ4, h4 with
      | some (.exc _ _ _), h4 => exact h4
      | some (.ok t5 μ5), h4 =>
        intro v5 H5 q5 hl5 hs5 hr5
        exact dinV_ok (h4 v5 H5 q5 hl5 hs5 hr5)
theorem dgetV_ok {x y : V} {H : Hp} {Q : VK} (h : rV2 Z dgetV x y H Q) : ∃ a v, x = .ref a ∧ DGet H a y (some v) ∧ Q v H := by
  obtain ⟨p, μ, tx, ty, s, hx, hy, h⟩ := h
  cases tx with
  | v _ _ => exact h.elim
  | m j =>
    obtain ⟨a, ha, rfl⟩ := hx
    unfold dgetV at h
    dsimp only at h
    split at h
    · rename_i ks ts hc
      split at h
      · rename_i k hk
        split at h
        · rename_i t ht
          obtain ⟨b, rfl, hb⟩ := keyTup_ok s hy hk
          obtain ⟨kvs, h1, h2, h3⟩ := s.cell j a _ ha hc
          subst h2
          obtain ⟨v, hv, hr⟩ := findK_ok h3 ht
          exact ⟨a, v, rfl, hv ▸ DGet.t (k := k) h1 hb, h v H p (Pt.Le.refl p) s hr⟩
        · exact h.elim
      · exact h.elim
    · rename_i ks ts hc
      split at h
      · rename_i k hk
        split at h
        · rename_i t ht
          cases keyAtm_ok s hy hk
          obtain ⟨kvs, h1, h2, h3⟩ := s.cell j a _ ha hc
          subst h2
          obtain ⟨v, hv, hr⟩ := findK_ok h3 ht
          exact ⟨a, v, rfl, hv ▸ DGet.k (k := k) h1, h v H p (Pt.Le.refl p) s hr⟩
        · exact h.elim
      · exact h.elim
    · exact h.elim
theorem xe_dget (hu : X.A.units + 1 < cLine) (ho : PE X o (tD Z W go)) (hi : PE X i (tD Z W gi)) (hs : NoSl i) : PE X (.Subscript o i pos) (tD Z W (d2 dgetV go gi)) :=
  pe_imp (pe_dget hu ho hi hs) fun σ H Q h => by
    obtain ⟨p2, μ2, Γ2, s2, e2, h2⟩ := two h
    refine ⟨p2, μ2, Γ2, s2, e2, ?_⟩
    match hg : go Γ2 μ2, h2 with
    | some (.exc _ _ _), h2 => exact h2
    | some (.ok t μ3), h2 =>
      intro v H1 q hl hs hr
      obtain ⟨p4, μ4, Γ4, s4, e4, h4⟩ := h2 v H1 q hl hs hr
      refine ⟨p4, μ4, Γ4, s4, e4, ?_⟩
      match hg4 : gi Γ4 μ4, h4 with
      | some (.exc _ _ _), h4 => exact h4
      | some (.ok t5 μ5), h4 =>
        intro v5 H5 q5 hl5 hs5 hr5
        exact dgetV_ok (h4 v5 H5 q5 hl5 hs5 hr5)
theorem map_snoc {κ : Type} {kvs : List (κ × V)} {k : κ} {v : V} {ks : List κ} (h : kvs.map Prod.fst = ks) : (kvs ++ [(k, v)]).map Prod.fst = ks ++ [k] := by
  rw [List.map_append, h]
  rfl
theorem xs_dput (hu : X.A.units + 1 < cLine) (ho : PE X o (tD Z W go)) (hi : PE X i (tD Z W gi)) (hv : PE X value (tD Z W ge)) (hs : swapsWith value (some (.Subscript o i pos')) pos.line X.env = pure false) :
    PS X (.Assign [.Subscript o i pos'] value pos) (tDS Z W (sDput go gi ge)) :=
  ps_imp (ps_dput hu ho hi hv hs) fun D σ H ⟨p, μ, Γ, s, er, h⟩ => by
    obtain ⟨p', μ', Γ', s', e', h'⟩ := tD_bindS s er h
    refine ⟨p', μ', Γ', s', e', ?_⟩
    match hg : ge Γ' μ', h' with
    | some (.exc c t μ1), h' => exact h'
    | some (.ok t μ1), h' =>
      intro v H1 q hl hs hr
      obtain ⟨q1, μ2, t2, l1, s1, e1, r1, k1⟩ := h' v H1 q hl hs hr
      obtain ⟨p3, μ3, Γ3, s3, e3, h3⟩ := tD_bindS s1 e1 k1
      refine ⟨p3, μ3, Γ3, s3, e3, ?_⟩
      match hg3 : go Γ3 μ3, h3 with
      | some (.exc c4 t4 μ4), h3 => exact h3
      | some (.ok t4 μ4), h3 =>
        intro v4 H4 q4 hl4 hs4 hr4
        obtain ⟨q5, μ5, t5, l5, s5, e5, r5, k5⟩ := h3 v4 H4 q4 hl4 hs4 hr4
        obtain ⟨p6, μ6, Γ6, s6, e6, h6⟩ := tD_bindS s5 e5 k5
        refine ⟨p6, μ6, Γ6, s6, e6, ?_⟩
        match hg6 : gi Γ6 μ6, h6 with
        | some (.exc c4 t4 μ4), h6 => exact h6
        | some (.ok t7 μ7), h6 =>
          intro v8 H8 q8 hl8 hs8 hr8
          obtain ⟨q9, μ9, t9, l9, s9, e9, r9, k9⟩ := h6 v8 H8 q8 hl8 hs8 hr8
          cases t5 with
          | v _ _ => exact k9.elim
          | m j =>
            have r5' := r5.mono l9
            obtain ⟨a, ha, rfl⟩ := r5'
            have rt := (r1.mono l5).mono l9
            cases hd : dputV μ9 (.m j) t9 t2 with
            | none => rw [hd] at k9; exact k9.elim
            | some μX =>
              rw [hd] at k9
              unfold dputV at hd
              dsimp only at hd
              split at hd
              · rename_i ks ts hc
                split at hd
                · rename_i k hk
                  split at hd
                  · cases hd
                  · rename_i hn
                    split at hd
                    · rename_i hz
                      cases hd
                      obtain ⟨b, rfl, hb⟩ := keyTup_ok s9 r9 hk
                      obtain ⟨kvs, h1, h2, h3⟩ := s9.cell j a _ ha hc
                      have hln : kvs.length < sizeLine := by
                        have := congrArg List.length h2
                        rw [List.length_map] at this
                        omega
                      have hvn : valV kvs k = none := by
                        have := valV_has k kvs
                        rw [h2, Bool.not_eq_true] at *
                        rw [hn] at this
                        cases hv : valV kvs k with
                        | none => rfl
                        | some _ => rw [hv] at this; cases this
                      refine ⟨a, _, rfl, DPut.t (v := v) h1 hb hln, ?_⟩
                      rw [putK_new v hvn]
                      exact k9 _ _ q9 (.refl _) (s9.write ha hc rfl rfl (c' := .dT (ks ++ [k]) (ts ++ [t2])) ⟨_, upd_same, map_snoc h2, by
                        rw [List.map_append]
                        exact h3.append (.cons rt .nil)⟩) e9
                    · cases hd
                · cases hd
              · rename_i ks ts hc
                split at hd
                · rename_i k hk
                  split at hd
                  · cases hd
                  · rename_i hn
                    split at hd
                    · rename_i hz
                      cases hd
                      cases keyAtm_ok s9 r9 hk
                      obtain ⟨kvs, h1, h2, h3⟩ := s9.cell j a _ ha hc
                      have hln : kvs.length < sizeLine := by
                        have := congrArg List.length h2
                        rw [List.length_map] at this
                        omega
                      have hvn : valV kvs k = none := by
                        have := valV_has k kvs
                        rw [h2, Bool.not_eq_true] at *
                        rw [hn] at this
                        cases hv : valV kvs k with
                        | none => rfl
                        | some _ => rw [hv] at this; cases this
                      refine ⟨a, _, rfl, DPut.k (v := v) h1 hln, ?_⟩
                      rw [putK_new v hvn]
                      exact k9 _ _ q9 (.refl _) (s9.write ha hc rfl rfl (c' := .dK (ks ++ [k]) (ts ++ [t2])) ⟨_, upd_same, map_snoc h2, by
                        rw [List.map_append]
                        exact h3.append (.cons rt .nil)⟩) e9
                    · cases hd
                · cases hd
              · cases hd
end
theorem vv_one {x y : V} {ws : List (Value × Value)} (r : VV [(x, y)] ws) : ∃ u v, ws = [(u, v)] ∧ RelV x u ∧ RelV y v := by
  cases r with
  | cons h t =>
    cases t
    exact ⟨_, _, rfl, h.1, h.2⟩
/-- a display with one pair, its key a tuple -/
def tDis1T (tk tv : TE) : TE := fun σ H Q => ∀ p, H p = none → tk σ (upd H p (.dT [])) fun x H1 => tv σ H1 fun y H2 => H2 p = some (.dT []) ∧ ∃ (ks : List Key) (b : Addr), x = .ref b ∧ H2 b = some (.tup (ks.map kV)) ∧ Q (.ref p) (upd H2 p (.dT [(ks, y)]))
theorem pe_dis1T {X : Cx} {pos : Pos} {k v : Expr} {tk tv : TE} (hu : X.A.units + 2 < cLine) (hk : PE X k tk) (hv : PE X v tv) : PE X (.Dict [some k] [v] pos) (tDis1T tk tv) := by
  refine ⟨fun pins s σ H Q I q => ?_⟩
  have hn := I.hok.fresh (Nat.le_refl s.heap.objs.size)
  have I1 := I.laid (a := s.heap.objs.size) (o := .dT []) (h' := s.heap.push { cls := .type "dict", data := .dict #[] }) (t' := s.toks) (fun _ _ q => Heap.get?_push_of_some _ q) (Nat.le_refl _) (dt_empty s.heap I.big)
  have hlen : (pairTrees [some k] [v] X.env pos).length ≤ 15 := by
    rw [pairTrees_length [some k] [v] X.env pos rfl rfl]
    show 1 ≤ 15
    decide
  rw [arm_eval_Dict, zip_pairTrees [some k] [v] X.env pos rfl rfl, dictDisplay_pairs (pairTrees [some k] [v] X.env pos) (fun z => by cases z) (by omega)]
  refine wpAny_bind (wpAny_standAt (wpAny_bind (wpAny_subDictH (knd := tupleKind (mixKind X.prog X.w)) (Q := fun d s' => wpAny (model X.prog X.w) X.A (pure (Value.ref d)) (EP X pins σ Q) X.xe s') ?hu hlen ?_)))
  case hu => exact (show X.A.units < cLine by omega)
  have h2 := (pps_cons (pos := pos) hk hv (pps_nil (X := X) (pos := pos))).run pins _ σ _ (fun ps H2 => match ps with
    | [(x, y)] => H2 s.heap.objs.size = some (.dT []) ∧ ∃ (ks : List Key) (b : Addr), x = .ref b ∧ H2 b = some (.tup (ks.map kV)) ∧ Q (.ref s.heap.objs.size) (upd H2 s.heap.objs.size (.dT [(ks, y)]))
    | _ => False) I1 (q _ hn)
  refine thn h2 fun ws s2 ⟨ps, H2, I2, rel, q2⟩ => ?_
  match ps, q2 with
  | [(x, y)], ⟨e, ks, b, ex, hb, q2⟩ =>
    subst ex
    obtain ⟨u, uv, ew, r1, r3⟩ := vv_one rel
    subst ew
    obtain rfl : u = Value.ref b := r1
    obtain ⟨z, hd, xs, rel, dd⟩ := dt_of I2.hok e
    cases rel
    refine ⟨[(ks, b, uv)], ⟨rfl, rfl, key_of I2.hok hb, trivial⟩, dd, fun h' tk dd' hs => ?_⟩
    obtain ⟨q, es, ep, hq, h2, h3, h4, _, h5⟩ := dd'
    have I3 := d_write (t' := tk) (ob := .dT [(ks, y)]) I2 (by rw [e]; exact True.intro) hs ⟨q, hq⟩ ⟨by rw [sizeLine_eq]; show 1 ≤ 16777216; decide, hd, [(ks, b, uv)], .cons ⟨rfl, by
      rw [upd_ne (ne_of hb e (fun z => nomatch z))]
      exact hb, r3⟩ .nil, q, es, ep, hq, h2, h3, h4, h5⟩
    exact wpAny_pure ⟨.ref s.heap.objs.size, _, I3, rfl, q2⟩
section
variable {X : Cx} {Z : Ent} {W : Wish} {k v : Expr} {pos : Pos} {gk gv : De}
theorem SR.newD {p : Pt} {H : Hp} {μ : Mu} (s : SR Z p H μ) {a : Addr} (n : H a = none) (tk : Bool) : SR Z (p.push a) (upd H a (if tk then .dT [] else .dK [])) (μ ++ [dEmp tk]) ∧ RT Z (p.push a) (.ref a) (.m μ.length) := by
  refine ⟨?_, a, ?_, rfl⟩
  · cases tk
    · exact s.push n rfl ⟨[], upd_same, rfl, .nil⟩
    · exact s.push n rfl ⟨[], upd_same, rfl, .nil⟩
  · show (p.ms ++ [a])[μ.length]? = some a
    rw [← s.len]
    simp
theorem xe_dis0T : PE X (.Dict [] [] pos) (tD Z W (dDis0 true)) :=
  pe_imp pe_dnewT fun σ H Q ⟨p, μ, Γ, s, e, h⟩ => fun a n => h _ _ (p.push a) Pt.push_le (s.newD n true).1 (s.newD n true).2
theorem xe_dis0K : PE X (.Dict [] [] pos) (tD Z W (dDis0 false)) :=
  pe_imp pe_dnewK fun σ H Q ⟨p, μ, Γ, s, e, h⟩ => fun a n => h _ _ (p.push a) Pt.push_le (s.newD n false).1 (s.newD n false).2
theorem xe_dis1T (hu : X.A.units + 2 < cLine) (hk : PE X k (tD Z W gk)) (hv : PE X v (tD Z W gv)) : PE X (.Dict [some k] [v] pos) (tD Z W (dDis1 true gk gv)) :=
  pe_imp (pe_dis1T hu hk hv) fun σ H Q ⟨p, μ, Γ, s, e, h⟩ => fun a n => by
    obtain ⟨s1, r1⟩ := s.newD n true
    refine ⟨p.push a, μ ++ [dEmp true], Γ, s1, e.mono Pt.push_le, ?_⟩
    unfold dDis1 at h
    match hg : gk Γ (μ ++ [dEmp true]), h with
    | some (.exc c t μ1), h => exact PostX.le Pt.push_le h
    | some (.ok t μ1), h =>
      intro x H1 q hl hs hr
      refine ⟨q, μ1, Γ, hs, (e.mono Pt.push_le).mono hl, ?_⟩
      replace h : Post Z W σ Q p (Ot.bind (gv Γ μ1) fun u μ2 => (dis1V true μ.length μ2 t u).ot) := h
      match hg2 : gv Γ μ1, h with
      | some (.exc c u μ2), h => exact PostX.le (Pt.push_le.trans hl) h
      | some (.ok u μ2), h =>
        intro y H2 q2 hl2 hs2 hr2
        replace h : Post Z W σ Q p (dis1V true μ.length μ2 t u).ot := h
        obtain ⟨a', ha, ea⟩ := (r1.mono hl).mono hl2
        cases ea
        have hr' := hr.mono hl2
        cases hd : dis1V true μ.length μ2 t u with
        | none => rw [hd] at h; exact h.elim
        | some r =>
          rw [hd] at h
          have hd : dis1T μ.length μ2 t u = some r := hd
          unfold dis1T at hd
          split at hd
          · rename_i hc
            split at hd
            · rename_i ks hk
              cases hd
              obtain ⟨b, rfl, hb⟩ := keyTup_ok hs2 hr' hk
              obtain ⟨kvs, h1, h2, h3⟩ := hs2.cell _ a _ ha hc
              have : kvs = [] := List.map_eq_nil_iff.mp h2
              subst this
              refine ⟨h1, ks, b, rfl, hb, ?_⟩
              exact h _ _ q2 ((Pt.push_le.trans hl).trans hl2) (hs2.write ha hc rfl rfl (c' := .dT [ks] [u]) ⟨_, upd_same, rfl, .cons hr2 .nil⟩) ⟨a, ha, rfl⟩
            · cases hd
          · cases hd
theorem xe_dis1K (hk : PE X k (tD Z W gk)) (hv : PE X v (tD Z W gv)) : PE X (.Dict [some k] [v] pos) (tD Z W (dDis1 false gk gv)) :=
  pe_imp (pe_disp (pps_cons hk hv pps_nil) rfl rfl (fun z => by cases z) (by show 1 ≤ 15; decide)) fun σ H Q ⟨p, μ, Γ, s, e, h⟩ => fun a n => by
    obtain ⟨s1, r1⟩ := s.newD n false
    refine ⟨p.push a, μ ++ [dEmp false], Γ, s1, e.mono Pt.push_le, ?_⟩
    unfold dDis1 at h
    match hg : gk Γ (μ ++ [dEmp false]), h with
    | some (.exc c t μ1), h => exact PostX.le Pt.push_le h
    | some (.ok t μ1), h =>
      intro x H1 q hl hs hr
      refine ⟨q, μ1, Γ, hs, (e.mono Pt.push_le).mono hl, ?_⟩
      replace h : Post Z W σ Q p (Ot.bind (gv Γ μ1) fun u μ2 => (dis1V false μ.length μ2 t u).ot) := h
      match hg2 : gv Γ μ1, h with
      | some (.exc c u μ2), h => exact PostX.le (Pt.push_le.trans hl) h
      | some (.ok u μ2), h =>
        intro y H2 q2 hl2 hs2 hr2
        replace h : Post Z W σ Q p (dis1V false μ.length μ2 t u).ot := h
        obtain ⟨a', ha, ea⟩ := (r1.mono hl).mono hl2
        cases ea
        have hr' := hr.mono hl2
        cases hd : dis1V false μ.length μ2 t u with
        | none => rw [hd] at h; exact h.elim
        | some r =>
          rw [hd] at h
          have hd : dis1K μ.length μ2 t u = some r := hd
          unfold dis1K at hd
          split at hd
          · rename_i hc
            split at hd
            · rename_i ks hk
              cases hd
              cases keyAtm_ok hs2 hr' hk
              obtain ⟨kvs, h1, h2, h3⟩ := hs2.cell _ a _ ha hc
              have : kvs = [] := List.map_eq_nil_iff.mp h2
              subst this
              refine ⟨h1, [(ks, y)], rfl, by show 1 ≤ 15; decide, ?_⟩
              exact h _ _ q2 ((Pt.push_le.trans hl).trans hl2) (hs2.write ha hc rfl rfl (c' := .dK [ks] [u]) ⟨_, upd_same, rfl, .cons hr2 .nil⟩) ⟨a, ha, rfl⟩
            · cases hd
          · cases hd
end
end L3

set_option Elab.async false
set_option linter.all false
set_option maxRecDepth 100000
set_option maxHeartbeats 1000000
/-! a suite that asks of an error's value, and changes it -/
namespace L3
open PySem PySem.Spec PyProof.Rows L2
theorem kit_ll (K : PySem.W.Frag) : PySem.W.kitOne K (.type "list") (.type "list") = some true := by
  unfold PySem.W.kitOne
  rw [if_pos (by simp)]
theorem kit_tl (K : PySem.W.Frag) : PySem.W.kitOne K (.type "tuple") (.type "list") = some false := by with_unfolding_all rfl
theorem kit_il (K : PySem.W.Frag) : PySem.W.kitOne K (.type "int") (.type "list") = some false := by with_unfolding_all rfl
/-- is it a list? -/
def isLV (μ : Mu) (t : T) : Vt := match t with
  | .v _ (.int _) => some (.v true (.bl false), μ)
  | .v _ (.tup _) => some (.v true (.bl false), μ)
  | .v _ (.lst _) => some (.v true (.bl true), μ)
  | .m j => match μ[j]? with
    | some (.lst _) => some (.v true (.bl true), μ)
    | some (.tup _) => some (.v true (.bl false), μ)
    | _ => none
  | _ => none
def tXB (Z : Ent) (W : Wish) (a : Addr) (cls : Value) (d : Option Addr) (i c : Nat) (t : T) (g : Db) : TT := fun σ H Q => ∃ (p : Pt) (μ : Mu) (Γ : Gam), SR Z p H μ ∧ ER Z p σ Γ ∧ XH Z a cls d i c t p σ ∧ PostB Z W σ Q p (g Γ μ)
section
variable {Z : Ent} {W : Wish} {a : Addr} {cls : Value} {d : Option Addr} {i c : Nat} {t : T}
theorem isLV_ok {K : PySem.W.Frag} {x : V} {H : Hp} {Q : VK} (h : rV1 Z isLV x H Q) : ∃ u b, TyX K H x u ∧ PySem.W.kitOne K u (.type "list") = some b ∧ Q (.bl b) H := by
  obtain ⟨p, μ, tx, s, hx, h⟩ := h
  unfold isLV at h
  split at h
  · cases hx.int
    exact ⟨_, _, .base (.int _), kit_il K, VPost.flat s (Dx.bl _) h⟩
  · rename_i f ds
    have h' := RT.up s f hx
    cases h' with
    | tup hs ha => exact ⟨_, _, .base (.tup hs), kit_tl K, VPost.flat s (Dx.bl _) h⟩
  · rename_i f ds
    have h' := RT.up s f hx
    cases h' with
    | lst hs ha => exact ⟨_, _, .base (.lst hs), kit_ll K, VPost.flat s (Dx.bl _) h⟩
  · rename_i j
    obtain ⟨b, hb, rfl⟩ := hx
    split at h
    · rename_i ts hc
      obtain ⟨vs, h1, h2⟩ := s.cell j b _ hb hc
      exact ⟨_, _, .base (.lst h1), kit_ll K, VPost.flat s (Dx.bl _) h⟩
    · rename_i ts hc
      obtain ⟨vs, h1, h2⟩ := s.cell j b _ hb hc
      exact ⟨_, _, .base (.tup h1), kit_tl K, VPost.flat s (Dx.bl _) h⟩
    · exact h.elim
  · exact h.elim
theorem tX_bindB {g : De} {kk : T → Mu → Ot Bool} {Q : Bool → Hp → Prop} {p : Pt} {μ : Mu} {Γ : Gam} {σ : L2.St} {H : Hp} (s : SR Z p H μ) (e : ER Z p σ Γ) (x : XH Z a cls d i c t p σ) (h : PostB Z W σ Q p (Ot.bind (g Γ μ) kk)) :
    tX Z W a cls d i c t g σ H fun v H1 => ∃ (q : Pt) (μ1 : Mu) (u : T), p.Le q ∧ SR Z q H1 μ1 ∧ ER Z q σ Γ ∧ XH Z a cls d i c t q σ ∧ RT Z q v u ∧ PostB Z W σ Q q (kk u μ1) := by
  refine ⟨p, μ, Γ, s, e, x, ?_⟩
  match hg : g Γ μ, h with
  | some (.ok u μ1), h =>
    have h : PostB Z W σ Q p (kk u μ1) := h
    exact fun v H' q hl hs hr => ⟨q, μ1, u, hl, hs, e.mono hl, x.mono hl, hr, PostB.le hl h⟩
  | some (.exc c u μ1), h => exact h
theorem tXB_bindS {g : Db} {kk : Bool → Mu → Option Eo} {D : Ends} {p : Pt} {μ : Mu} {Γ : Gam} {σ : L2.St} {H : Hp} (s : SR Z p H μ) (e : ER Z p σ Γ) (x : XH Z a cls d i c t p σ) (h : PostS Z W D p (Ot.bindS (g Γ μ) Γ kk)) :
    tXB Z W a cls d i c t g σ H fun b H1 => ∃ (q : Pt) (μ1 : Mu), p.Le q ∧ SR Z q H1 μ1 ∧ ER Z q σ Γ ∧ XH Z a cls d i c t q σ ∧ PostS Z W D q (kk b μ1) := by
  refine ⟨p, μ, Γ, s, e, x, ?_⟩
  match hg : g Γ μ, h with
  | some (.ok u μ1), h =>
    have h : PostS Z W D p (kk u μ1) := h
    exact fun H' q hl hs => ⟨q, μ1, hl, hs, e.mono hl, x.mono hl, PostS.le hl h⟩
  | some (.exc c u μ1), h => exact h σ p (.refl p) e
variable {Y : Cx} {o ex e1 e2 : Expr} {es : List Expr} {go ge ga : De} {gc : Db} {da : Da} {p p2 pos apos cpos : Pos} {body orelse rest : List Stmt} {g1 g2 : Ds}
theorem oneX {g : Mu → T → Vt} {σ : L2.St} {H : Hp} {Q : VK} (h : tX Z W a cls d i c t (d1 g ga) σ H Q) : tX Z W a cls d i c t ga σ H fun x H1 => rV1 Z g x H1 Q := by
  obtain ⟨p, μ, Γ, s, e, xh, h⟩ := h
  obtain ⟨p', μ', Γ', s', e', x', h'⟩ := tX_bind (a := a) (cls := cls) (d := d) (i := i) (c := c) (t := t) s e xh h
  refine ⟨p', μ', Γ', s', e', x', ?_⟩
  match hg : ga Γ' μ', h' with
  | some (.ok t μ1), h' =>
    intro v H' q hl hs hr
    obtain ⟨q1, μ2, t2, l1, s1, e1, x1, r1, k1⟩ := h' v H' q hl hs hr
    exact ⟨q1, μ2, t2, s1, r1, VPost.post k1⟩
  | some (.exc c t μ1), h' => exact h'
/-- isinstance(e.value, list) -/
theorem xx_isL (hg : Gl Y "isinstance") (hm : Y.mg "isinstance" = none) (hg2 : Gl Y "list") (hm2 : Y.mg "list" = none) (ho : PE Y o (tX Z W a cls d i c t go))
    (he : starEach [o, .Name "list" p2] Y.env = (false, eval o Y.env) :: starEach [.Name "list" p2] Y.env) (he2 : starEach [.Name "list" p2] Y.env = (false, eval (.Name "list" p2) Y.env) :: starEach [] Y.env)
    (hpl : (backTo pos (starEach [.Name "list" p2] Y.env)).any (·.1) = false) : PE Y (.Call (.Name "isinstance" p) [o, .Name "list" p2] [] pos) (tX Z W a cls d i c t (d1 isLV go)) :=
  pe_imp (pe_callB call_isi hg hm (by rfl) (pa_cons ho (pa_cons (pe_bltn (v := .ty "list") hg2 hm2 (by rfl) rfl) pa_nil he2) he) (by decide) (by rfl) he hpl) fun σ H Q h => by
    obtain ⟨p', μ', Γ', s', e', x', h'⟩ := oneX h
    refine ⟨p', μ', Γ', s', e', x', ?_⟩
    match hg : go Γ' μ', h' with
    | some (.exc c t μ1), h' => exact h'
    | some (.ok t μ1), h' =>
      intro v H' q hl hs hr
      obtain ⟨u, b, h1, h2, h3⟩ := isLV_ok (K := Y.K) (h' v H' q hl hs hr)
      exact ⟨v, .ty "list", u, .type "list", b, rfl, .ty "list", h1, h2, h3⟩
theorem xxt_tru (hK : Y.K = Z.K) (ha : PE Y ex (tX Z W a cls d i c t ga)) (he : ∀ whole, isTrue ex Y.env whole = (do let v ← whole; standAt ex.pos; holding [v] (truthy v))) : PT Y ex (tXB Z W a cls d i c t (bTru ga)) :=
  pt_imp (pt_truth ha he) fun σ H Q ⟨p, μ, Γ, s, e, x, h⟩ => by
    obtain ⟨p', μ', Γ', s', e', x', h'⟩ := tX_bindB (a := a) (cls := cls) (d := d) (i := i) (c := c) (t := t) s e x h
    refine ⟨p', μ', Γ', s', e', x', ?_⟩
    match hg : ga Γ' μ', h' with
    | some (.ok t μ1), h' =>
      intro v H' q hl hs hr
      obtain ⟨q1, μ2, t2, l1, s1, e1, x1, r1, k1⟩ := h' v H' q hl hs hr
      split at k1
      · rename_i k hk
        exact ⟨k, truT_ok hK s1 r1 hk, k1 H' q1 (Pt.Le.refl q1) s1⟩
      · exact k1.elim
    | some (.exc c t μ1), h' => exact h'
theorem xxs_if (hc : PT Y ex (tXB Z W a cls d i c t gc)) (ha : PSs Y body (tXS Z W a cls d i c t g1)) (hb : PSs Y orelse (tXS Z W a cls d i c t g2)) : PS Y (.If ex body orelse pos) (tXS Z W a cls d i c t (sIf gc g1 g2)) :=
  ps_imp (ps_if hc ha hb) fun D σ H ⟨p, μ, Γ, s, e, x, h⟩ => by
    obtain ⟨p', μ', Γ', s', e', x', h'⟩ := tXB_bindS (a := a) (cls := cls) (d := d) (i := i) (c := c) (t := t) s e x h
    refine ⟨p', μ', Γ', s', e', x', ?_⟩
    match hg : gc Γ' μ', h' with
    | some (.ok b μ1), h' =>
      intro H' q hl hs
      obtain ⟨q1, μ2, l1, s1, e1, x1, k1⟩ := h' H' q hl hs
      cases b
      · exact ⟨q1, μ2, Γ, s1, e1, x1, k1⟩
      · exact ⟨q1, μ2, Γ, s1, e1, x1, k1⟩
    | some (.exc c t μ1), h' => exact h'
theorem xxs_nil : PSs Y [] (tXS Z W a cls d i c t sNil) :=
  pss_imp (xss_nil (X := Y) (Z := Z) (W := W)) fun D σ H ⟨p, μ, Γ, s, e, x, h⟩ => ⟨p, μ, Γ, s, e, h⟩
/-- a call, then the rest -/
theorem xxs_expc (he : PE Y ex (tX Z W a cls d i c t ge)) (hs : swapsWith ex none pos.line Y.env = pure false) (hr : PSs Y rest (tXS Z W a cls d i c t g2)) : PSs Y (.Expr ex pos :: rest) (tXS Z W a cls d i c t (sSeq (sExp ge) g2)) :=
  pss_imp (pss_cons (ps_expr he hs) hr) fun D σ H ⟨p, μ, Γ, s, er, xh, h⟩ => by
    have h2 : PostS Z W D p (Ot.bindS (ge Γ μ) Γ fun u μ1 => g2 Γ μ1) := by
      unfold sSeq sExp at h
      cases hg : ge Γ μ with
      | none => rw [hg] at h; exact h
      | some r =>
        rw [hg] at h
        cases r with
        | ok u μ1 => exact h
        | exc c u μ1 => exact h
    obtain ⟨p', μ', Γ', s', e', x', h'⟩ := tX_bindS (a := a) (cls := cls) (d := d) (i := i) (c := c) (t := t) s er xh h2
    refine ⟨p', μ', Γ', s', e', x', ?_⟩
    match hg : ge Γ' μ', h' with
    | some (.ok u μ1), h' =>
      intro v H' q hl hs hr
      obtain ⟨q1, μ2, t2, l1, s1, e1, x1, r1, k1⟩ := h' v H' q hl hs hr
      exact ⟨q1, μ2, _, s1, e1, x1, k1⟩
    | some (.exc c t μ1), h' => exact h'
theorem xx_mt {name : Str} {id : String} {g : Mv} (hK : Y.K = Z.K) (slot : Slot "list" name id) (hty : typeOf (.builtin id) = pure (.type "method_descriptor")) (hm : MtR Y id (rMt Z g)) (ho : PE Y o (tX Z W a cls d i c t go)) (ha : PA Y (ex :: es) (tDA Z W da))
    (hbase : attributeBase o name Y.env (eval o Y.env) = eval o Y.env) (hline : (apos.endLine == cpos.line) = true) (hs : starEach (ex :: es) Y.env = (false, eval ex Y.env) :: starEach es Y.env)
    (hfew : ((backTo cpos (starEach (ex :: es) Y.env)).all (fun x => !x.1) && (backToKw cpos (keywordEach [] Y.env)).all (fun x => x.1.isSome)
      && decide ((ex :: es).length + ([] : List Keyword).length + (if ([] : List Keyword).isEmpty then 0 else 1) < 30)) = true)
    (hplain : (backTo cpos (starEach es Y.env)).any (·.1) = false) : PE Y (.Call (.Attribute o name apos) (ex :: es) [] cpos) (tX Z W a cls d i c t (dMt g go da)) :=
  pe_imp (pe_bm PySem.F.plainAttrs_list slot hty hm ho ha hbase hfew hline hs hplain) fun σ H Q ⟨p, μ, Γ, s, er, xh, h⟩ => by
    obtain ⟨p', μ', Γ', s', e', x', h'⟩ := tX_bind (a := a) (cls := cls) (d := d) (i := i) (c := c) (t := t) s er xh h
    refine ⟨p', μ', Γ', s', e', x', ?_⟩
    match hg : go Γ' μ', h' with
    | some (.ok t μ1), h' =>
      intro v H' q hl hs hr
      obtain ⟨q1, μ2, t2, l1, s1, e1, x1, r1, k1⟩ := h' v H' q hl hs hr
      split at k1
      · rename_i hlst
        refine ⟨tyV_list hK s1 r1 hlst, ?_⟩
        obtain ⟨p3, μ3, Γ3, s3, e3, h3⟩ := tDA_bind s1 e1 k1
        refine ⟨p3, μ3, Γ3, s3, e3, ?_⟩
        match hg3 : da Γ3 μ3, h3 with
        | some (.ok t4 μ4), h3 =>
          intro v4 H4 q4 hl4 hs4 hr4
          obtain ⟨q5, μ5, t5, l5, s5, e5, r5, k5⟩ := h3 v4 H4 q4 hl4 hs4 hr4
          exact ⟨q5, μ5, t2, t5, s5, r1.mono l5, r5, VPost.post k5⟩
        | some (.exc c4 t4 μ4), h3 => exact h3
      · exact k1.elim
    | some (.exc c t μ1), h' => exact h'
theorem xx_sl (hK : Y.K = Z.K) (live : Bool) {lo hi : Option Expr} {gl gh : Dp3} (ha : PE Y o (tX Z W a cls d i c t go)) (hl : PoD Y Z W lo gl) (hh : PoD Y Z W hi gh) : PE Y (.Subscript o (.Slice lo hi none p2) pos) (tX Z W a cls d i c t (dSl live go gl gh)) := by
  obtain ⟨t1, o1, r1⟩ := po_run hl
  obtain ⟨t2, o2, r2⟩ := po_run hh
  refine pe_imp (pe_slice (sl_V hK live) ha o1 o2) fun σ H Q ⟨p, μ, Γ, s, e, xh, h⟩ => ?_
  obtain ⟨p', μ', Γ', s', e', x', h'⟩ := tX_bind (a := a) (cls := cls) (d := d) (i := i) (c := c) (t := t) s e xh h
  refine ⟨p', μ', Γ', s', e', x', ?_⟩
  match hg : go Γ' μ', h' with
  | some (.ok t μ1), h' =>
    intro v H' q hl hs hr
    obtain ⟨q1, μ2, t2, l1, s1, e1, x1, rt, k1⟩ := h' v H' q hl hs hr
    refine r1 σ H' q1 μ2 Γ Q _ _ s1 e1 k1 fun l H1 q2 μ3 l2 s2 e2 k2 => ?_
    refine r2 σ H1 q2 μ3 Γ Q _ _ s2 e2 k2 fun u H2 q3 μ4 l3 s3 e3 k3 => ?_
    exact ⟨q3, μ4, t2, s3, (rt.mono l2).mono l3, VPost.post k3⟩
  | some (.exc c t μ1), h' => exact h'
theorem xxs_put {pos' : Pos} {ie value : Expr} {gi gv : De} (ho : PE Y o (tD Z W go)) (hi : PE Y ie (tD Z W gi)) (hv : PE Y value (tX Z W a cls d i c t gv))
    (ha : ∀ v, assign (.Subscript o ie pos') Y.env v = (do
      let ov ← holding [v] (eval o Y.env)
      let iv ← holding [v, ov] (eval ie Y.env)
      standAt pos'
      holding [v, ov, iv] (setItem ov iv v)
      release [v, ov, iv] []))
    (hs : swapsWithSole [.Subscript o ie pos'] value pos.line Y.env = pure false) (hw : swappedStores [.Subscript o ie pos'] value Y.env = pure none) (h1 : (assignEach [.Subscript o ie pos'] Y.env).map (·.2) = [assign (.Subscript o ie pos') Y.env]) :
    PS Y (.Assign [.Subscript o ie pos'] value pos) (tXS Z W a cls d i c t (sPutD go gi gv)) :=
  ps_imp (ps_asg hv (pg_sub ho hi set_list ha) hs hw h1) fun D σ H ⟨p, μ, Γ, s, er, xh, h⟩ => by
    obtain ⟨p', μ', Γ', s', e', x', h'⟩ := tX_bindS (a := a) (cls := cls) (d := d) (i := i) (c := c) (t := t) s er xh h
    refine ⟨p', μ', Γ', s', e', x', ?_⟩
    match hg : gv Γ' μ', h' with
    | some (.exc c t μ1), h' => exact h'
    | some (.ok t μ1), h' =>
      intro v H1 q hl hs hr
      obtain ⟨q1, μ2, t2, l1, s1, e1, x1, r1, k1⟩ := h' v H1 q hl hs hr
      obtain ⟨p3, μ3, Γ3, s3, e3, h3⟩ := tD_bindS s1 e1 k1
      refine ⟨p3, μ3, Γ3, s3, e3, ?_⟩
      match hg3 : go Γ3 μ3, h3 with
      | some (.exc c4 t4 μ4), h3 => exact h3
      | some (.ok t4 μ4), h3 =>
        intro v4 H4 q4 hl4 hs4 hr4
        obtain ⟨q5, μ5, t5, l5, s5, e5, r5, k5⟩ := h3 v4 H4 q4 hl4 hs4 hr4
        obtain ⟨p6, μ6, Γ6, s6, e6, h6⟩ := tD_bindS s5 e5 k5
        refine ⟨p6, μ6, Γ6, s6, e6, ?_⟩
        match hg6 : gi Γ6 μ6, h6 with
        | some (.exc c4 t4 μ4), h6 => exact h6
        | some (.ok t7 μ7), h6 =>
          intro v8 H8 q8 hl8 hs8 hr8
          obtain ⟨q9, μ9, t9, l9, s9, e9, r9, k9⟩ := h6 v8 H8 q8 hl8 hs8 hr8
          cases t5 with
          | v _ _ => exact k9.elim
          | m j =>
            have r5' := r5.mono l9
            obtain ⟨b, hb, rfl⟩ := r5'
            simp only [putIxV] at k9
            cases t9 with
            | m _ => exact k9.elim
            | v fl dd =>
              cases dd with
              | int z =>
                cases r9.int
                dsimp only at k9
                cases hc : μ9[j]? with
                | none => rw [hc] at k9; exact k9.elim
                | some cc =>
                  rw [hc] at k9
                  cases cc with
                  | lst ts =>
                    dsimp only at k9
                    cases hx : ixN ts.length z with
                    | none => rw [hx] at k9; exact k9.elim
                    | some kk =>
                      rw [hx] at k9
                      obtain ⟨vs, h1, h2⟩ := s9.cell j b _ hb hc
                      exact ⟨b, vs, z, kk, rfl, rfl, h1, by rw [h2.length]; exact hx, k9 _ _ q9 (.refl _) (s9.write hb hc rfl rfl (c' := .lst (ts.set kk t2)) ⟨_, upd_same, RTs.set ((r1.mono l5).mono l9) kk h2⟩) e9⟩
                  | obj _ _ => exact k9.elim
                  | dT _ _ => exact k9.elim
                  | dK _ _ => exact k9.elim
                  | frz _ _ => exact k9.elim
                  | hid => exact k9.elim
                  | tup _ => exact k9.elim
              | _ => exact k9.elim
end
section
variable {X : Cx} {Z : Ent} {W : Wish} {a : Addr} {oe : Obj} {pn : List (Addr × Obj)} {cls : Value} {d : Option Addr} {i c : Nat} {t : T} {o ex : Expr} {es : List Expr} {go ga : De} {da : Da} {p2 pos apos cpos : Pos}
theorem xxt_truS (hK : X.K = Z.K) (ha : PE (X.suite a ((a, oe) :: pn)) ex (tX Z W a cls d i c t ga)) (he : ∀ whole, isTrue ex X.env whole = (do let v ← whole; standAt ex.pos; holding [v] (truthy v))) : PT (X.suite a ((a, oe) :: pn)) ex (tXB Z W a cls d i c t (bTru ga)) :=
  xxt_tru (Y := X.suite a ((a, oe) :: pn)) hK ha he
theorem xx_mtS {name : Str} {id : String} {g : Mv} (hK : X.K = Z.K) (slot : Slot "list" name id) (hty : typeOf (.builtin id) = pure (.type "method_descriptor")) (hm : MtR (X.suite a ((a, oe) :: pn)) id (rMt Z g)) (ho : PE (X.suite a ((a, oe) :: pn)) o (tX Z W a cls d i c t go)) (ha : PA (X.suite a ((a, oe) :: pn)) (ex :: es) (tDA Z W da))
    (hbase : attributeBase o name X.env (eval o X.env) = eval o X.env) (hline : (apos.endLine == cpos.line) = true) (hs : starEach (ex :: es) X.env = (false, eval ex X.env) :: starEach es X.env)
    (hfew : ((backTo cpos (starEach (ex :: es) X.env)).all (fun x => !x.1) && (backToKw cpos (keywordEach [] X.env)).all (fun x => x.1.isSome)
      && decide ((ex :: es).length + ([] : List Keyword).length + (if ([] : List Keyword).isEmpty then 0 else 1) < 30)) = true)
    (hplain : (backTo cpos (starEach es X.env)).any (·.1) = false) : PE (X.suite a ((a, oe) :: pn)) (.Call (.Attribute o name apos) (ex :: es) [] cpos) (tX Z W a cls d i c t (dMt g go da)) :=
  xx_mt (Y := X.suite a ((a, oe) :: pn)) hK slot hty hm ho ha hbase hline hs hfew hplain
theorem xx_slS (hK : X.K = Z.K) (live : Bool) {lo hi : Option Expr} {gl gh : Dp3} (ha : PE (X.suite a ((a, oe) :: pn)) o (tX Z W a cls d i c t go)) (hl : PoD (X.suite a ((a, oe) :: pn)) Z W lo gl) (hh : PoD (X.suite a ((a, oe) :: pn)) Z W hi gh) : PE (X.suite a ((a, oe) :: pn)) (.Subscript o (.Slice lo hi none p2) pos) (tX Z W a cls d i c t (dSl live go gl gh)) :=
  xx_sl (Y := X.suite a ((a, oe) :: pn)) hK live ha hl hh
end
end L3

set_option Elab.async false
set_option linter.all false
set_option maxRecDepth 100000
set_option maxHeartbeats 1000000
/-! what is never asked -/
namespace L3
open PySem PySem.Spec PyProof.Rows L2
section
variable {X : Cx} {Z : Ent} {W : Wish} {e : Expr}
theorem xe_no : PE X e (tD Z W dNo) := by
  constructor
  all_goals
    intros
    rename_i h
    obtain ⟨p, μ, Γ, s, er, h⟩ := h
    exact h.elim
def bNo : Db := fun _ _ => none
theorem xt_no : PT X e (tDB Z W bNo) := by
  constructor
  all_goals
    intros
    rename_i h
    obtain ⟨p, μ, Γ, s, er, h⟩ := h
    exact h.elim
end
end L3

set_option Elab.async false
set_option linter.all false
set_option maxRecDepth 100000
set_option maxHeartbeats 4000000
/-! L3: sorted(set(xs)) of whole numbers. -/
namespace L3
open PySem PySem.Spec PyProof.Rows L2

/-! the members, once each, upwards -/
def ssetI (ns : List Int) : List Int := ns.eraseDups.mergeSort (fun a b => decide (a ≤ b))
theorem ssetI_mem {ns : List Int} {k : Int} : k ∈ ssetI ns ↔ k ∈ ns := by
  unfold ssetI
  rw [(List.mergeSort_perm _ _).mem_iff, List.mem_eraseDups]
theorem nodup_eraseDupsI : ∀ (n : Nat) (l : List Int), l.length ≤ n → l.eraseDups.Nodup
  | 0, l, h => by
    have : l = [] := List.length_eq_zero_iff.mp (by omega)
    subst this
    simp
  | n + 1, [], _ => by simp
  | n + 1, a :: l, h => by
    rw [List.eraseDups_cons]
    refine List.nodup_cons.mpr ⟨fun hm => ?_, nodup_eraseDupsI n _ ?_⟩
    · rw [List.mem_eraseDups] at hm
      simpa using (List.mem_filter.mp hm).2
    · have := List.length_filter_le (fun b => !b == a) l
      simp at h
      omega
theorem ssetI_nodup (ns : List Int) : (ssetI ns).Nodup := by
  unfold ssetI
  rw [(List.mergeSort_perm _ _).nodup_iff]
  exact nodup_eraseDupsI _ _ (Nat.le_refl _)
theorem ssetI_le (ns : List Int) : (ssetI ns).Pairwise (· ≤ ·) := by
  have := List.pairwise_mergeSort (le := fun (a b : Int) => decide (a ≤ b)) (fun a b c h1 h2 => by simp at *; omega) (fun a b => by simp; omega) ns.eraseDups
  unfold ssetI
  exact this.imp (fun h => by simpa using h)
theorem ssetI_lt (ns : List Int) : (ssetI ns).Pairwise (· < ·) := by
  have h1 := ssetI_le ns
  have h2 := ssetI_nodup ns
  unfold List.Nodup at h2
  exact (h1.and h2).imp fun ⟨a, b⟩ => by omega
/-- one rising list alone has given members -/
theorem rising_eq : ∀ {xs ys : List Int}, xs.Pairwise (· < ·) → ys.Pairwise (· < ·) → (∀ k, k ∈ xs ↔ k ∈ ys) → xs = ys
  | [], [], _, _, _ => rfl
  | [], y :: ys, _, _, h => by have := (h y).mpr List.mem_cons_self; simp at this
  | x :: xs, [], _, _, h => by have := (h x).mp List.mem_cons_self; simp at this
  | x :: xs, y :: ys, hx, hy, h => by
    obtain ⟨x1, x2⟩ := List.pairwise_cons.mp hx
    obtain ⟨y1, y2⟩ := List.pairwise_cons.mp hy
    have e : x = y := by
      rcases List.mem_cons.mp ((h x).mp List.mem_cons_self) with e | e
      · exact e
      · rcases List.mem_cons.mp ((h y).mpr List.mem_cons_self) with e2 | e2
        · exact e2.symm
        · have := y1 x e; have := x1 y e2; omega
    subst e
    refine congrArg _ (rising_eq x2 y2 fun k => ?_)
    constructor
    · intro hk
      have := x1 k hk
      rcases List.mem_cons.mp ((h k).mp (List.mem_cons_of_mem _ hk)) with e | e
      · omega
      · exact e
    · intro hk
      have := y1 k hk
      rcases List.mem_cons.mp ((h k).mpr (List.mem_cons_of_mem _ hk)) with e | e
      · omega
      · exact e
theorem ssetI_eq {ns ys : List Int} (hy : ys.Pairwise (· < ·)) (h : ∀ k, k ∈ ys ↔ k ∈ ns) : ys = ssetI ns :=
  rising_eq hy (ssetI_lt ns) fun k => (h k).trans ssetI_mem.symm
/-- as many as there are -/
theorem nodup_len {xs ys : List Int} (hx : xs.Nodup) (hy : ys.Nodup) (h : ∀ k, k ∈ xs ↔ k ∈ ys) : xs.length = ys.length :=
  ((List.perm_ext_iff_of_nodup hx hy).mpr h).length_eq
theorem nodup_sub_len : ∀ {xs ys : List Int}, xs.Nodup → (∀ k ∈ xs, k ∈ ys) → xs.length ≤ ys.length
  | [], _, _, _ => Nat.zero_le _
  | x :: xs, ys, h, m => by
    obtain ⟨h1, h2⟩ := List.nodup_cons.mp h
    have hx : x ∈ ys := m x List.mem_cons_self
    have := nodup_sub_len (ys := ys.erase x) h2 fun k hk => (List.mem_erase_of_ne (show k ≠ x from fun e => h1 (e ▸ hk))).mpr (m k (List.mem_cons_of_mem _ hk))
    rw [List.length_erase_of_mem hx] at this
    have := List.length_pos_of_mem hx
    simp only [List.length_cons]
    omega
theorem ssetI_take_le (ns : List Int) (i : Nat) : (ssetI (ns.take i)).length ≤ (ssetI ns).length :=
  nodup_sub_len (ssetI_nodup (ns.take i)) fun k hk => ssetI_mem.mpr (List.mem_of_mem_take (ssetI_mem.mp hk))

/-! a set that holds just some whole numbers: how many -/
theorem setR_many {w : World} {h : Heap} {a : Addr} {ns : List Int} {c : Nat} (R : SetR w h a (fun j => decide (j ∈ ns)) c) : c = (ssetI ns).length := by
  obtain ⟨o, es, ep, t, ho, hx, hd, g, nd, hm, hb, hf, hn, _⟩ := R
  have e := nodup_len nd (ssetI_nodup ns) fun k => by
    rw [ssetI_mem, ← hm k]
    simp
  rw [List.length_map, Array.length_toList] at e
  omega
end L3

set_option Elab.async false
set_option linter.all false
set_option maxRecDepth 100000
set_option maxHeartbeats 4000000
/-! L3: set(xs) of a list of whole numbers, as the machine does it. -/
namespace L3
open PySem PySem.Spec PyProof.Rows L2
section
variable {P : Program} {w : World} {A : Around} {E : Value → Shared → Prop} {s : Shared}
/-- a set just made -/
abbrev setObj0 (w : World) : Obj := ⟨.type "set", none, .set #[] 0 (.fresh 0 0 (!w.params.followText "set-order")), #[]⟩
/-- the set fills, item by item -/
theorem set_fill {I : Addr} {fp wr : List Addr} {G : Array GenState → Array GenState → Prop} {n : Nat} {Pv : Nat → Value → Prop} {St : Nat → Shared → Prop} {R : Result → Shared → Prop}
    (W : WalksS P w A.in1 I fp wr G n Pv St) (D : Addr) (hD : D ∉ fp) (ns : List Int) (en : n = ns.length) (room : (ssetI ns).length + 1 < scanBound) (val : ∀ i v, Pv i v → ∃ k t, ns[i]? = some k ∧ v = .int k t) :
    ∀ (m i : Nat) (s : Shared), i + m = n → St i s → (∃ c, SetR w s.heap D (fun j => decide (j ∈ ns.take i)) c) →
      (∀ s' c, Moved (D :: wr) G s s' → SetR w s'.heap D (fun j => decide (j ∈ ns)) c → R (.ok (.ret .none)) s') →
      codeAny (model P w) A (.builtin "set.update.loop" ⟨[.ref D, .ref I], []⟩) R s
  | 0, i, s, hi, st, ⟨c, r⟩, hR => by
    have hi : i = n := by omega
    subst hi
    have nwr : D ∉ wr := fun z => hD (W.sub _ z)
    refine codeAny_builtin PyProof.Rows.F.entry_set_update_loop ?_
    rw [Around.under_plainId PyProof.Rows.F.plain_set_update_loop _]
    show wpAny _ A.in1 (pyNext (.ref I) >>= fun _ => _) _ _ s
    refine wpAny_bind (W.done s _ _ st fun s1 mv => ?_)
    rw [List.take_of_length_le (Nat.le_of_eq en.symm)] at r
    show wpAny _ A.in1 (ret .none) _ _ s1
    exact wpAny_pure (hR s1 c (mv.mono fun b hb => List.mem_cons_of_mem _ hb) (r.at fun o e => mv.heap D o nwr e))
  | m + 1, i, s, hi, st, ⟨c, r⟩, hR => by
    have nwr : D ∉ wr := fun z => hD (W.sub _ z)
    have lt : i < n := by omega
    refine codeAny_builtin PyProof.Rows.F.entry_set_update_loop ?_
    rw [Around.under_plainId PyProof.Rows.F.plain_set_update_loop _]
    show wpAny _ A.in1 (pyNext (.ref I) >>= fun _ => _) _ _ s
    refine wpAny_bind (W.item i s _ _ lt st fun v s1 pv st1 mv => ?_)
    obtain ⟨z, t, ez, rfl⟩ := val i v pv
    have r1 : SetR w s1.heap D (fun j => decide (j ∈ ns.take i)) c := r.at fun o e => mv.heap D o nwr e
    have hc : c + 1 < scanBound := by
      rw [setR_many r1]
      exact Nat.lt_of_le_of_lt (Nat.succ_le_succ (ssetI_take_le ns i)) room
    show wpAny _ A.in1 (holding [.int z t] (setAdd D (.int z t)) >>= fun _ => _) _ _ s1
    refine wpAny_bind (wpAny_holding ?_)
    unfold setAdd
    refine wpAny_holding (wpAny_bind ((intKind P w).pyHash (k := z) (intKind_is _ _ _ _) ?_))
    refine setR_add_hashed (s := ⟨s1.heap, s1.gens, s1.drawn, s1.toks + 1, s1.os⟩) r1 hc fun h2 sb r2 => ?_
    have r3 : SetR w h2 D (fun j => decide (j ∈ ns.take (i + 1))) _ := r2.congr fun j => by
      rw [List.take_add_one, ez]
      simp [List.mem_append]
    refine wpAny_pure ⟨plainId_quiet PyProof.Rows.F.plain_set_update_loop _, set_fill W D hD ns en room val m (i + 1) _ (by omega) (W.frame _ s1 _ _ st1 (Nat.le_succ _) fun b hb o e => ?_) ⟨_, r3⟩ fun s4 c4 mv4 r4 => ?_⟩
    · have nb : b ≠ D := fun z => hD (z ▸ hb)
      rw [sb.2 b nb]
      exact e
    · refine hR s4 c4 (Moved.trans W.gtrans ((mv.mono fun b hb => List.mem_cons_of_mem _ hb).then_heap (Nat.le_succ _) fun b o nb e => ?_) mv4) r4
      have nb : b ≠ D := fun z => nb (z ▸ List.mem_cons_self)
      rw [sb.2 b nb]
      exact e
end
end L3

set_option Elab.async false
set_option linter.all false
set_option maxRecDepth 100000
set_option maxHeartbeats 4000000
/-! L3: set(xs), the call. -/
namespace L3
open PySem PySem.Spec PyProof.Rows L2
section
variable {P : Program} {w : World} {A : Around} {E : Value → Shared → Prop} {s : Shared}
theorem set_of_ints {l : Addr} {its : Array Value} (ns : List Int) {Q : Value → Shared → Prop} (calm : A.handled = none) (L : s.heap.IsList l its) (J : IntsAre its.toList ns) (room : (ssetI ns).length + 1 < scanBound)
    (k : ∀ (g : Heap) (tk c : Nat), SetR w g s.heap.objs.size (fun j => decide (j ∈ ns)) c → (∀ b o, s.heap.get? b = some o → g.get? b = some o) → Q (.ref s.heap.objs.size) { s with heap := g, toks := tk }) :
    wpAny (model P w) A (call (.type "set") [.ref l]) Q E s := by
  have many : its.size = ns.length := by
    have e := IntsAre.length J
    rwa [Array.length_toList] at e
  obtain ⟨c0, rest0, mro0⟩ := PySem.F.called_set.mro
  have x1 := PySem.F.called_set.made
  have x2 := PySem.F.called_set.sub
  have x3 := PySem.F.called_set.notType
  have x4 := PySem.F.called_set.canCreate
  have x5 := PySem.F.typeCall_set_1 (.ref l)
  refine wpAny_call (codeAny_of_tree ?_)
  show wpAny (model P w) _ (callAny (.type "set") _) _ _ s
  refine wpAny_pure ⟨Code.quiet_builtin _ (by decide +kernel), codeAny_builtin PySem.F.entry_type_call ?_⟩
  rw [Around.under_plain (weight_type_call_type "set" [.ref l] []) rfl]
  repeat (any_goals (first | assumption | wp_step))
  refine codeAny_mono (code_set_led1 (.ref l) (E := E) (Q₁ := fun obj s1 => obj = .ref s.heap.objs.size ∧ s1 = { s with heap := s.heap.push (setObj0 w) }) ⟨rfl, rfl⟩) fun r s1 hr => ?_
  match r, hr with
  | .error e, hr => exact hr
  | .ok .next, hr => exact hr.elim
  | .ok .brk, hr => exact hr.elim
  | .ok .cont, hr => exact hr.elim
  | .ok (.ret obj), hr =>
    obtain ⟨rfl, rfl⟩ := hr
    have atD : (s.heap.push (setObj0 w)).get? s.heap.objs.size = some (setObj0 w) := Heap.get?_push_size _ rfl
    have tyD : Shared.TypeIs { s with heap := s.heap.push (setObj0 w) } (.ref s.heap.objs.size) "set" := ⟨_, atD, rfl⟩
    have x6 := PySem.F.called_set.init.lookup
    have x7 := PySem.F.called_set.init.bind (.ref s.heap.objs.size)
    repeat (any_goals (first | assumption | wp_step))
    refine codeAny_mono (codeAny_call_builtin (R := wants (fun r s2 => r = .none ∧ ∃ g tk c, s2 = { s with heap := g, toks := tk } ∧ SetR w g s.heap.objs.size (fun j => decide (j ∈ ns)) c ∧
        (∀ b o, s.heap.get? b = some o → g.get? b = some o)) E) PySem.F.called_set.init.plain PySem.F.entry_set_init (check_set_init_1 tyD ?_)) fun r2 s2 hr2 => ?_
    · obtain ⟨⟨oc, od, odt, osl⟩, ho, hc, ep, hd⟩ := L
      simp only at hc hd
      subst hc
      subst hd
      have ho1 : (s.heap.push (setObj0 w)).get? l = some ⟨.type "list", od, .seq its ep, osl⟩ := Heap.get?_push_of_some _ ho
      have y1 := PySem.F.sub_list_set
      have y2 := PySem.F.sub_list_frozenset
      have y3 : (Value.type "list" == Value.type "dict") = false := by decide
      have L1 : (s.heap.push (setObj0 w)).IsList l its := ⟨_, ho1, rfl, ep, rfl⟩
      unfold Builtin.«set.__init__» noKeywords Builtin.Frozenset.updateFrom
      generalize ePI : pyIter = PI
      wp_walk
      subst ePI
      refine wpAny_pyIter_list L1 (wpAny_bind (wpAny_runValue ?_))
      have ll : l < s.heap.objs.size := Heap.lt_size ho
      have sz : (s.heap.push (setObj0 w)).objs.size = s.heap.objs.size + 1 := by rw [Heap.size_push]
      have calm3 : A.in1.in1.in1.handled = none := by simp [calm]
      have ne1 : l ≠ (s.heap.push (setObj0 w)).objs.size := by
        rw [sz]
        exact Nat.ne_of_lt (Nat.lt_succ_of_lt ll)
      have nfp : s.heap.objs.size ∉ [(s.heap.push (setObj0 w)).objs.size, l] := by
        rw [sz]
        simp only [List.mem_cons, List.not_mem_nil, or_false, not_or]
        exact ⟨by omega, Nat.ne_of_gt ll⟩
      have draw : ∀ (i : Nat) (v : Value), its[i]? = some v → ∃ z t, ns[i]? = some z ∧ v = .int z t := fun i v hv => by
        have lt : i < ns.length := by rw [← many]; exact (Array.getElem?_eq_some_iff.mp hv).1
        obtain ⟨t, ht⟩ := J.int_at i v (by rw [Array.getElem?_toList]; exact hv)
        refine ⟨ns[i], t, List.getElem?_eq_getElem lt, ?_⟩
        rw [ht, List.getD_eq_getElem?_getD, List.getElem?_eq_getElem lt]
        rfl
      refine set_fill (Walks.list calm3 _ l ne1 its).toS s.heap.objs.size nfp ns many room draw its.size 0 _ (by omega) ⟨⟨_, Heap.get?_push_size _ rfl, rfl, rfl⟩, L1.push _⟩ ⟨0, ?_⟩ ?_
      · exact setR_new_at (Heap.get?_push_of_some _ atD)
      · intro s3 c mv r3
        obtain ⟨g3, gn3, dr3, tk3, os3⟩ := s3
        obtain rfl : gn3 = s.gens := mv.gens
        obtain rfl : dr3 = s.drawn := mv.drawn
        obtain rfl : os3 = s.os := mv.os
        show wpAny _ _ _ _ _ _
        refine wpAny_pure ?_
        show wpAny _ _ (ret .none) _ _ _
        refine wpAny_pure ⟨rfl, g3, tk3, c, rfl, r3, fun b o e => ?_⟩
        have lb : b < s.heap.objs.size := Heap.lt_size e
        refine mv.heap b o ?_ (Heap.get?_push_of_some _ (Heap.get?_push_of_some _ e))
        rw [sz]
        simp only [List.mem_cons, List.not_mem_nil, or_false, not_or]
        exact ⟨Nat.ne_of_lt lb, Nat.ne_of_lt (Nat.lt_succ_of_lt lb)⟩
    · match r2, hr2 with
      | .error e, hr2 => exact hr2
      | .ok .next, hr2 => exact hr2.elim
      | .ok .brk, hr2 => exact hr2.elim
      | .ok .cont, hr2 => exact hr2.elim
      | .ok (.ret v), hr2 =>
        obtain ⟨rfl, g, tk, c, rfl, r3, keep⟩ := hr2
        repeat (any_goals (first | assumption | wp_step))
        exact k g tk c r3 keep
end
/-- set(xs), xs a list of whole numbers -/
def rSetI (K : PySem.W.Frag) (w : World) : List V → Hp → VK → Prop := fun xs H Q => ∃ (l : Addr) (ns : List Int), xs = [.ref l] ∧ SqL K H l (ns.map V.int) ∧ (ssetI ns).length + 1 < scanBound ∧
  ∀ a, H a = none → Q (.ref a) (upd H a (SetO w a (fun j => decide (j ∈ ns)) (ssetI ns).length))
section
variable {X : Cx}
theorem cr_setI (hc : X.calm = true) : CallR X (.type "set") (rSetI X.K X.w) := by
  intro pins s σ H xs us Q I r h
  obtain ⟨l, ns, rfl, hs, room, q⟩ := h
  obtain ⟨its, rv, pl, hz⟩ := I.list hs
  obtain ⟨u, rfl, ru⟩ := vals1 r
  obtain rfl : u = Value.ref l := ru
  refine set_of_ints ns (I.ok.hd hc) pl.isList (by simpa using ints_of_vals rv) room fun g tk c r3 keep => ?_
  have ec := setR_many r3
  subst ec
  exact ⟨.ref _, _, I.laid (t' := tk) keep (Nat.le_refl _) (setO_new r3), rfl, q _ (I.hok.fresh (Nat.le_refl _))⟩
end
end L3

set_option Elab.async false
set_option linter.all false
set_option maxRecDepth 100000
set_option maxHeartbeats 4000000
/-! L3: sorted(set(xs)); reversed(range(n)); isinstance of a built-in type. -/
namespace L3
open PySem PySem.Spec PyProof.Rows L2
def ssetV (live : Bool) (μ : Mu) (t : T) : Vt := match items μ t with
  | some (true, ts) => match intsOf ts with
    | some ns => if (ssetI ns).length < 64 then newL live μ ((ssetI ns).map fun n => .v true (.int n)) else none
    | none => none
  | _ => none
section
variable {X : Cx} {Z : Ent} {W : Wish} {k : Nat} {e tg : Expr} {ge : De} {p p2 pos pos2 : Pos}
theorem xe_sset (B : Be X Z W k) (live : Bool) (hg : Gl X "sorted") (hm : X.mg "sorted" = none) (hg2 : Gl X "set") (hm2 : X.mg "set" = none) (ha : PE X e (tD Z W ge))
    (he : starEach [.Call (.Name "set" p2) [e] [] pos2] X.env = (false, eval (.Call (.Name "set" p2) [e] [] pos2) X.env) :: starEach [] X.env)
    (hpl : (backTo pos (starEach [] X.env)).any (·.1) = false) (he2 : starEach [e] X.env = (false, eval e X.env) :: starEach [] X.env) (hpl2 : (backTo pos2 (starEach [] X.env)).any (·.1) = false) :
    PE X (.Call (.Name "sorted" p) [.Call (.Name "set" p2) [e] [] pos2] [] pos) (tD Z W (d1 (ssetV live) ge)) :=
  pe_imp (pe_callB (cr_sortedSet B.calm) hg hm (by rfl) (pa_cons (pe_callTy (cr_setI B.calm) hg2 hm2 (by rfl) (pa_cons ha pa_nil he2) (by decide) (by rfl) he2 hpl2) pa_nil he) (by decide) (by rfl) he hpl) fun σ H Q h => by
    obtain ⟨p', μ', Γ', s', e', h'⟩ := one h
    refine ⟨p', μ', Γ', s', e', ?_⟩
    match hg : ge Γ' μ', h' with
    | some (.exc c t μ1), h' => exact h'
    | some (.ok t μ1), h' =>
      intro v H' q hl hs hr
      obtain ⟨q1, μ2, t2, s1, r1, k1⟩ := h' v H' q hl hs hr
      unfold ssetV at k1
      split at k1
      · rename_i ts hi
        split at k1
        · rename_i ns hn
          split at k1
          · rename_i h64
            obtain ⟨a, vs, rfl, h1, h2⟩ := items_ok s1 r1 hi
            have ev := intsOf_ok hn h2
            subst ev
            refine ⟨a, ns, rfl, by rw [B.hK]; exact h1, by unfold scanBound; omega, fun d hd => ?_⟩
            refine ⟨d, _, _, rfl, upd_same, h64, fun ns' b hp hmem hlen hb => ?_⟩
            obtain rfl : ns' = ssetI ns := ssetI_eq hp fun k => by rw [hmem k]; simp
            have s2 := s1.add (f := false) (o := SetO X.w d (fun j => decide (j ∈ ns)) (ssetI ns).length) hd
            have l2 := s1.add_le (f := false) (o := SetO X.w d (fun j => decide (j ∈ ns)) (ssetI ns).length) hd
            exact newL_ok s2 (rts_ints _) (by
              match hr : newL live μ2 ((ssetI ns).map fun n => .v true (.int n)), k1 with
              | some (t, μ), k1 => exact fun v H' r hl' => k1 v H' r (l2.trans hl')) hb
          · exact k1.elim
        · exact k1.elim
      · exact k1.elim
/-! reversed(range(n)) -/
def iRevR1D (g : De) : Di := fun Γ μ => Ot.bind (g Γ μ) fun t μ1 => match t with
  | .v _ (.int n) => if -(2 ^ 62) ≤ n ∧ n < 2 ^ 62 then some (.ok (.rngR 0 n.toNat) μ1) else none
  | _ => none
theorem xi_revR1 (hg : Gl X "reversed") (hm : X.mg "reversed" = none) (hg2 : Gl X "range") (hm2 : X.mg "range" = none) (ha : PE X e (tD Z W ge))
    (he : starEach [.Call (.Name "range" p2) [e] [] pos2] X.env = (false, eval (.Call (.Name "range" p2) [e] [] pos2) X.env) :: starEach [] X.env) (he2 : starEach [e] X.env = (false, eval e X.env) :: starEach [] X.env) :
    PI X tg (.Call (.Name "reversed" p) [.Call (.Name "range" p2) [e] [] pos2] [] pos) (tI Z W (iRevR1D ge)) :=
  pi_imp (pi_revR hg hm (prg_1 hg2 hm2 ha he2) he) fun σ H Q ⟨p, μ, Γ, s, er, h⟩ => by
    obtain ⟨p', μ', Γ', s', e', h'⟩ := tD_bindI s er h
    refine ⟨p', μ', Γ', s', e', ?_⟩
    match hg : ge Γ' μ', h' with
    | some (.exc c t μ1), h' => exact h'
    | some (.ok t μ1), h' =>
      intro v H' q hl hs hr
      obtain ⟨q1, μ2, t2, l1, s1, e1, r1, k1⟩ := h' v H' q hl hs hr
      split at k1
      · rename_i f n
        split at k1
        · rename_i hn
          cases r1.int
          refine ⟨n, rfl, by decide, by decide, hn.1, hn.2, ?_⟩
          have e0 : (n - 0).toNat = n.toNat := by rw [Int.sub_zero]
          rw [e0]
          exact k1 _ _ _ (.refl _) s1 itOk_rngR
        · exact k1.elim
      · exact k1.elim
/-! isinstance of a built-in type -/
inductive Bt where
  | int | bool | tuple | list
def Bt.nm : Bt → Str
  | .int => "int"
  | .bool => "bool"
  | .tuple => "tuple"
  | .list => "list"
def Bt.st : Bt → String
  | .int => "int"
  | .bool => "bool"
  | .tuple => "tuple"
  | .list => "list"
/-- the type of a value -/
inductive Ty where
  | non | bool | int | str | list | tuple
def Ty.st : Ty → String
  | .non => "NoneType"
  | .bool => "bool"
  | .int => "int"
  | .str => "str"
  | .list => "list"
  | .tuple => "tuple"
def tyD : D → Option Ty
  | .non => some .non
  | .bl _ => some .bool
  | .int _ => some .int
  | .str _ => some .str
  | .lst _ => some .list
  | .tup _ => some .tuple
  | _ => none
def tyC : Cell → Option Ty
  | .lst _ => some .list
  | .tup _ => some .tuple
  | .frz _ d => tyD d
  | _ => none
def tyT (μ : Mu) : T → Option Ty
  | .v _ d => tyD d
  | .m j => match μ[j]? with
    | some c => tyC c
    | none => none
def isTy : Ty → Bt → Bool
  | .int, .int => true
  | .bool, .int => true
  | .bool, .bool => true
  | .tuple, .tuple => true
  | .list, .list => true
  | _, _ => false
def isTV (b : Bt) (μ : Mu) (t : T) : Vt := match tyT μ t with
  | some u => some (.v true (.bl (isTy u b)), μ)
  | none => none
theorem kit_ty2 (K : PySem.W.Frag) (u : Ty) (b : Bt) : PySem.W.kitOne K (.type u.st) (.type b.st) = some (isTy u b) := by
  cases u <;> cases b <;> with_unfolding_all rfl
theorem tyD_ok {K : PySem.W.Frag} {pt : Pt} {H : Hp} {μ : Mu} {f : Bool} {d : D} {v : V} {u : Ty} (s : SR Z pt H μ) (r : RT Z pt v (.v f d)) (h : tyD d = some u) : TyX K H v (.type u.st) := by
  match d, h with
  | .non, h => cases h; cases r.non; exact .base .non
  | .bl b, h => cases h; cases r.bl; exact .base (.bl b)
  | .int i, h => cases h; cases r.int; exact .base (.int i)
  | .str x, h => cases h; cases r.str; exact .base (.str x)
  | .lst ds, h =>
    cases h
    cases RT.up s f r with
    | lst hs ha => exact .base (.lst hs)
  | .tup ds, h =>
    cases h
    cases RT.up s f r with
    | tup hs ha => exact .base (.tup hs)
theorem tyT_ok {K : PySem.W.Frag} {pt : Pt} {H : Hp} {μ : Mu} {t : T} {v : V} {u : Ty} (s : SR Z pt H μ) (r : RT Z pt v t) (h : tyT μ t = some u) : TyX K H v (.type u.st) := by
  cases t with
  | v f d => exact tyD_ok s r h
  | m j =>
    obtain ⟨b, hb, rfl⟩ := r
    replace h : (match μ[j]? with | some c => tyC c | none => none) = some u := h
    cases hc : μ[j]? with
    | none => rw [hc] at h; cases h
    | some c =>
      rw [hc] at h
      have q := s.cell j b _ hb hc
      match c, h, q with
      | .lst ts, h, q =>
        cases h
        obtain ⟨vs, h1, h2⟩ := q
        exact .base (.lst h1)
      | .tup ts, h, q =>
        cases h
        obtain ⟨vs, h1, h2⟩ := q
        exact .base (.tup h1)
      | .frz f d, h, q => exact tyD_ok s q h
theorem xe_isT (b : Bt) (hg : Gl X "isinstance") (hm : X.mg "isinstance" = none) (hg2 : Gl X b.nm) (hm2 : X.mg b.nm = none) (hv2 : bootBuiltins b.nm = some (.type b.st)) (ho : PE X e (tD Z W ge))
    (he : starEach [e, .Name b.nm p2] X.env = (false, eval e X.env) :: starEach [.Name b.nm p2] X.env) (he2 : starEach [.Name b.nm p2] X.env = (false, eval (.Name b.nm p2) X.env) :: starEach [] X.env)
    (hpl : (backTo pos (starEach [.Name b.nm p2] X.env)).any (·.1) = false) : PE X (.Call (.Name "isinstance" p) [e, .Name b.nm p2] [] pos) (tD Z W (d1 (isTV b) ge)) :=
  pe_imp (pe_callB call_isi hg hm (by rfl) (pa_cons ho (pa_cons (pe_bltn (v := .ty b.st) hg2 hm2 hv2 rfl (by cases b <;> decide) (by cases b <;> rfl)) pa_nil he2) he) (by decide) (by rfl) he hpl) fun σ H Q h => by
    obtain ⟨p', μ', Γ', s', e', h'⟩ := one h
    refine ⟨p', μ', Γ', s', e', ?_⟩
    match hg : ge Γ' μ', h' with
    | some (.exc c t μ1), h' => exact h'
    | some (.ok t μ1), h' =>
      intro v H' q hl hs hr
      obtain ⟨q1, μ2, t2, s1, r1, k1⟩ := h' v H' q hl hs hr
      unfold isTV at k1
      split at k1
      · rename_i u hu
        exact ⟨v, .ty b.st, .type u.st, .type b.st, isTy u b, rfl, .ty _, tyT_ok s1 r1 hu, kit_ty2 X.K u b, k1 _ _ q1 (.refl _) s1 (Dx.bl _ : Dx Z.K Z.TB q1.N _ _)⟩
      · exact k1.elim
end
end L3

set_option Elab.async false
set_option linter.all false
set_option maxRecDepth 100000
set_option maxHeartbeats 4000000
/-! L3: zip of a tuple and a list. -/
namespace L3
open PySem PySem.Spec PyProof.Rows L2
/-- what comes out of a tuple and a list, side by side -/
def ItM (K : PySem.W.Frag) (a b : Addr) : It where
  go i H := ∃ xs ys x y, SqT K H a xs ∧ SqL K H b ys ∧ xs[i]? = some x ∧ ys[i]? = some y
  yld i H v H' := ∃ D x y, v = V.ref D ∧ H D = none ∧ H' = upd H D (.tup [x, y]) ∧ (∀ xs, SqT K H a xs → xs[i]? = some x) ∧ (∀ ys, SqL K H b ys → ys[i]? = some y)
  stop i H := ∃ xs ys, SqT K H a xs ∧ SqL K H b ys ∧ i = min xs.length ys.length
section
variable {P : Program} {w : World} {K : PySem.W.Frag} {elts : List Expr} {kk : Nat} {tpos : Pos} {a b z TI TO i1 i2 : Addr}
/-- the five cells of the walk, at turn i -/
def zmSt (z TI TO i1 i2 a b : Addr) (i : Nat) (h : Heap) : Prop :=
  IsZip h z TI TO .none ∧ IsTupOf2 h TI (.ref i1) (.ref i2) ∧ (∃ x y, IsTupOf2 h TO x y) ∧ h.IsTupleIter i1 a i ∧ h.IsListIter i2 b i
theorem zmSt.keep {i : Nat} {h g : Heap} (st : zmSt z TI TO i1 i2 a b i h) (k : ∀ c ∈ [z, TI, TO, i1, i2], ∀ o, h.get? c = some o → g.get? c = some o) : zmSt z TI TO i1 i2 a b i g := by
  obtain ⟨s1, s2, ⟨x, y, s3⟩, s4, s5⟩ := st
  exact ⟨k z (by simp) _ s1, k TI (by simp) _ s2, ⟨x, y, k TO (by simp) _ s3⟩, s4.at (k i1 (by simp)), s5.at (k i2 (by simp))⟩
theorem turn_zm (S : ZipSep2 z TI TO i1 i2 [i1, a] [i2, b]) (na : a ≠ i1) (nb : b ≠ i2) : Turn P w K (.Tuple elts kk tpos) (ItM K a b) [z, TI, TO, i1, i2] z (zmSt z TI TO i1 i2 a b) where
  mem := List.mem_cons_self
  obj := fun i h st c hc => by
    obtain ⟨s1, s2, ⟨x, y, s3⟩, ⟨o4, s4, _, d4⟩, ⟨o5, s5, _, d5⟩⟩ := st
    simp only [List.mem_cons, List.not_mem_nil, or_false] at hc
    rcases hc with rfl | rfl | rfl | rfl | rfl
    · exact ⟨_, s1, fun v => nofun⟩
    · exact ⟨_, s2, fun v => nofun⟩
    · exact ⟨_, s3, fun v => nofun⟩
    · exact ⟨_, s4, fun v e => by rw [d4] at e; cases e⟩
    · exact ⟨_, s5, fun v e => by rw [d5] at e; cases e⟩
  keep := fun i h g st k => st.keep k
  item := by
    rintro X rfl rfl rfl hc i pins s σ H E I hf ⟨s1, s2, ⟨x0, y0, s3⟩, s4, s5⟩ ⟨xs, ys, x, y, q1, q2, hx, hy⟩
    obtain ⟨its, rv, p1, _⟩ := I.tuple q1
    obtain ⟨jts, rw', p2, _⟩ := I.list q2
    obtain ⟨u, hu, ru⟩ := rv.get hx
    obtain ⟨v, hv, rv2⟩ := rw'.get hy
    have calm : X.A.in1.handled = none := by simp [I.ok.hd hc]
    have D1 := Draws.tuple (prog := X.prog) (w := X.w) calm i1 a na its.toArray
    have D2 := Draws.list (prog := X.prog) (w := X.w) calm i2 b nb jts.toArray
    have zl : z < s.heap.objs.size := Heap.lt_size s1
    refine wpAny_pyNext_zipD2_item S D1 D2 s1 s2 s3 ⟨s4, p1⟩ ⟨s5, p2.isList⟩ (by simpa using (List.getElem?_eq_some_iff.mp hu).1) (by simpa using (List.getElem?_eq_some_iff.mp hv).1) ?_
    intro u' v' g tk hu' hv' z1 t1 n1 n2 tp sz keep
    have eu : u' = u := by
      have e : its[i]? = some u' := by simpa using hu'
      rw [hu] at e
      exact (Option.some.inj e).symm
    have ev : v' = v := by
      have e : jts[i]? = some v' := by simpa using hv'
      rw [hv] at e
      exact (Option.some.inj e).symm
    subst eu ev
    refine ⟨_, rfl, wpAny_letOwnedTupleGo_zip (s := { s with heap := g, toks := tk }) z1 fun g2 z2 sb => ?_⟩
    have nz : s.heap.objs.size ≠ z := Nat.ne_of_gt zl
    have tp2 : IsTupOf2 g2 s.heap.objs.size u' v' := (sb.2 _ nz).trans tp
    have ok : ObjOk X.prog X.w (upd H s.heap.objs.size (.tup [x, y])) g2 s.heap.objs.size (.tup [x, y]) := ⟨by rw [sizeLine_eq, List.length_cons, List.length_cons, List.length_nil]; omega, [u', v'], .cons ru (.cons rv2 .nil), ⟨_, tp2, rfl, _, rfl⟩⟩
    have J : Inv X pins σ (upd H s.heap.objs.size (.tup [x, y])) { s with heap := g2, toks := tk } := by
      refine I.turnedNew (t' := tk) (ch := [z, TI, TO, i1, i2]) (fun c o hb e => ?_) hf (Nat.le_refl _) ok
      simp only [List.mem_cons, List.not_mem_nil, or_false, not_or] at hb
      obtain ⟨h1, h2, h3, h4, h5⟩ := hb
      exact (sb.2 c h1).trans (keep c o h1 h3 h4 h5 e)
    refine ⟨.ref s.heap.objs.size, _, J, rfl, ⟨_, x, y, rfl, I.hok.fresh (Nat.le_refl _), rfl, fun l hl => ?_, fun l hl => ?_⟩, ⟨z2, (sb.2 _ S.TIz).trans (keep _ _ S.TIz S.TITO S.TIi1 S.TIi2 s2), ⟨_, _, (sb.2 _ S.TOz).trans t1⟩, n1.1.at fun o e => (sb.2 _ S.zi1.symm).trans e, n2.1.at fun o e => (sb.2 _ S.zi2.symm).trans e⟩, fun c hc' => ?_⟩
    · rw [I.tuple_inj hl q1]; exact hx
    · rw [I.list_inj hl q2]; exact hy
    · have lt : c < s.heap.objs.size := by
        simp only [List.mem_cons, List.not_mem_nil, or_false] at hc'
        rcases hc' with rfl | rfl | rfl | rfl | rfl
        · exact zl
        · exact Heap.lt_size s2
        · exact Heap.lt_size s3
        · exact Heap.lt_size s4.choose_spec.1
        · exact Heap.lt_size s5.choose_spec.1
      rw [upd_ne (Nat.ne_of_lt lt)]
      exact (hf c hc').1
  done := by
    rintro X rfl rfl rfl hc i pins s σ H E I hf ⟨s1, s2, ⟨x0, y0, s3⟩, s4, s5⟩ ⟨xs, ys, q1, q2, hi⟩
    obtain ⟨its, rv, p1, _⟩ := I.tuple q1
    obtain ⟨jts, rw', p2, _⟩ := I.list q2
    have e1 := rv.length
    have e2 := rw'.length
    have calm : X.A.in1.handled = none := by simp [I.ok.hd hc]
    have D1 := Draws.tuple (prog := X.prog) (w := X.w) calm i1 a na its.toArray
    have D2 := Draws.list (prog := X.prog) (w := X.w) calm i2 b nb jts.toArray
    refine wpAny_pyNext_zipD2_end (i := i) S D1 D2 s1 s2 s3 ⟨s4, p1⟩ ⟨s5, p2.isList⟩ (by simp; omega) (by simp; omega) (by simp; omega) fun g tk keep => ⟨rfl, ?_⟩
    refine I.turnedL (t' := tk) (ch := [z, TI, TO, i1, i2]) (fun c o hb e => ?_) hf
    simp only [List.mem_cons, List.not_mem_nil, or_false, not_or] at hb
    obtain ⟨h1, h2, h3, h4, h5⟩ := hb
    exact keep c o h1 h3 h4 h5 e
  self := fun A i s Q E st q => wpAny_pyIter_zip st.1 q
end
def iZM (K : PySem.W.Frag) (ta : TA) : TI := fun σ H R => ta σ H fun vs H1 => ∃ a b xs ys, vs = [V.ref a, .ref b] ∧ SqT K H1 a xs ∧ SqL K H1 b ys ∧ R (ItM K a b) H1
theorem pi_zm {X : Cx} {e e2 : Expr} {ta : TA} {p pos tpos : Pos} {elts : List Expr} {kk : Nat} (hg : Gl X "zip") (hm : X.mg "zip" = none) (ha : PA X [e, e2] ta) (hs : starEach [e, e2] X.env = (false, eval e X.env) :: starEach [e2] X.env)
    (hpl : (backTo pos (starEach [e2] X.env)).any (·.1) = false) : PI X (.Tuple elts kk tpos) (.Call (.Name "zip" p) [e, e2] [] pos) (iZM X.K ta) := by
  refine ⟨fun pins s σ H R I h => Call_ (ld_blt I hg hm PyProof.Rows.boot_zip (PyProof.Rows.callWith_type1 (thn (ha.run pos pins s σ H _ I h) ?_) hs hpl))⟩
  rintro us s1 ⟨vs, H1, I1, r1, a, b, xs, ys, rfl, q1, q2, q⟩
  obtain ⟨u1, u2, rfl, r2, r3⟩ := vals2 r1
  obtain rfl : u1 = Value.ref a := r2
  obtain rfl : u2 = Value.ref b := r3
  obtain ⟨its, rv, p1, _⟩ := I1.tuple q1
  obtain ⟨jts, rw', p2, _⟩ := I1.list q2
  have la : a < s1.heap.objs.size := by obtain ⟨o, e, _⟩ := id p1; exact Heap.lt_size e
  have lb : b < s1.heap.objs.size := p2.lt
  refine zip_begins2 (begins_tuple a its.toArray) (begins_list b jts.toArray) p1 p2.isList fun g z1 z2 z3 z4 z5 sz keep => wpAny_pyIter_zip z1 ?_
  have S := zip_sep2 (N := s1.heap.objs.size) (fp1 := [a]) (fp2 := [b]) (by simpa using la) (by simpa using lb)
  refine ⟨_, _, _, _, H1, rfl, I1.kept (t' := s1.toks) keep, turn_zm S (Nat.ne_of_lt la) (Nat.ne_of_lt (Nat.lt_succ_of_lt lb)), ⟨z1, z2, ⟨_, _, z3⟩, ⟨_, z4, rfl, rfl⟩, ⟨_, z5, rfl, rfl⟩⟩, fun c hc => ?_, q⟩
  have le : s1.heap.objs.size ≤ c := by
    simp only [List.mem_cons, List.not_mem_nil, or_false] at hc
    rcases hc with rfl | rfl | rfl | rfl | rfl
    · exact Nat.le_add_right _ 4
    · exact Nat.le_add_right _ 2
    · exact Nat.le_add_right _ 3
    · exact Nat.le_refl _
    · exact Nat.le_add_right _ 1
  have J : Inv X pins σ H1 { s1 with heap := g } := I1.kept (t' := s1.toks) keep
  exact I1.fpOk le (I1.hok.fresh le)
section
variable {X : Cx} {Z : Ent} {W : Wish} {p : Pt} {a b : Expr} {da : Da} {nm pos tpos : Pos}
theorem itOk_zm {K : PySem.W.Frag} (hK : K = Z.K) {t u : T} {n m : Nat} {c d : Addr} (r : RT Z p (.ref c) t) (r2 : RT Z p (.ref d) u) : ItOk Z p (ItM K c d) (.zipM t u n m) := by
  subst hK
  have both : ∀ {q : Pt} {H : Hp} {μ : Mu} {ts us : List T}, p.Le q → SR Z q H μ → itemsN false n μ t = some ts → itemsN true m μ u = some us → ∃ vs ws, SqT Z.K H c vs ∧ SqL Z.K H d ws ∧ RTs Z q vs ts ∧ RTs Z q ws us ∧ vs.length = n ∧ ws.length = m := fun l s g1 g2 => by
    obtain ⟨c', vs, e, h1, h2, h3⟩ := itemsN_ok s (r.mono l) g1
    obtain ⟨d', ws, e', k1, k2, k3⟩ := itemsN_ok s (r2.mono l) g2
    cases e; cases e'
    exact ⟨vs, ws, h1, k1, h2, k2, h2.length.trans h3, k2.length.trans k3⟩
  have some2 : ∀ {μ : Mu}, (ItV.zipM t u n m).ok μ = true → ∃ ts us, itemsN false n μ t = some ts ∧ itemsN true m μ u = some us := fun {μ} h => by
    simp only [ItV.ok, Bool.and_eq_true_iff] at h
    obtain ⟨ts, h1⟩ := isSome_get h.1
    obtain ⟨us, h2⟩ := isSome_get h.2
    exact ⟨ts, us, h1, h2⟩
  refine ⟨fun q H μ i l s h hi => ?_, fun q H μ l s h => ?_, fun q H μ i x H' y l s h j => ?_⟩
  · obtain ⟨ts, us, g1, g2⟩ := some2 h
    obtain ⟨vs, ws, h1, h2, _, _, e1, e2⟩ := both l s g1 g2
    have hi : i < min n m := hi
    exact ⟨vs, ws, vs[i]'(by omega), ws[i]'(by omega), h1, h2, List.getElem?_eq_getElem _, List.getElem?_eq_getElem _⟩
  · obtain ⟨ts, us, g1, g2⟩ := some2 h
    obtain ⟨vs, ws, h1, h2, _, _, e1, e2⟩ := both l s g1 g2
    exact ⟨vs, ws, h1, h2, by rw [e1, e2]; rfl⟩
  · simp only [ItV.at] at h
    split at h
    · rename_i ts us g1 g2
      split at h
      · rename_i t1 u1 ht hu
        cases h
        obtain ⟨vs, ws, h1, h2, h3, h4, _, _⟩ := both l s g1 g2
        obtain ⟨v1, x1, x2⟩ := h3.get ht
        obtain ⟨w1, y1, y2⟩ := h4.get hu
        obtain ⟨A, c', d', rfl, hn, rfl, f1, f2⟩ := j
        cases (f1 vs h1).symm.trans x1
        cases (f2 ws h2).symm.trans y1
        exact yl_two s hn x2 y2
      · cases h
    · cases h
def iZipM (da : Da) : Di := fun Γ μ => Ot.bind (da Γ μ) fun ts μ1 => match ts with
  | [t, u] => match items μ1 t, items μ1 u with
    | some (false, xs), some (true, ys) => some (.ok (.zipM t u xs.length ys.length) μ1)
    | _, _ => none
  | _ => none
theorem xi_zipM {elts : List Expr} {kk : Nat} (hK : X.K = Z.K) (hg : Gl X "zip") (hm : X.mg "zip" = none) (ha : PA X [a, b] (tDA Z W da)) (hs : starEach [a, b] X.env = (false, eval a X.env) :: starEach [b] X.env)
    (hpl : (backTo pos (starEach [b] X.env)).any (·.1) = false) : PI X (.Tuple elts kk tpos) (.Call (.Name "zip" nm) [a, b] [] pos) (tI Z W (iZipM da)) :=
  pi_imp (pi_zm hg hm ha hs hpl) fun σ H Q ⟨p, μ, Γ, s, er, h⟩ => by
    obtain ⟨p', μ', Γ', s', e', h'⟩ := tDA_bindI s er h
    refine ⟨p', μ', Γ', s', e', ?_⟩
    match hg : da Γ' μ', h' with
    | some (.exc c t μ1), h' => exact h'
    | some (.ok t μ1), h' =>
      intro v H' q hl hs hr
      obtain ⟨q1, μ2, t2, l1, s1, e1, r1, k1⟩ := h' v H' q hl hs hr
      split at k1
      · rename_i t3 u3
        split at k1
        · rename_i xs ys hi hj
          obtain ⟨w, w2, rfl, hw, hw2⟩ := r1.two
          obtain ⟨c, vs, rfl, h1, h2⟩ := items_ok s1 hw hi
          obtain ⟨d, ws, rfl, g1, g2⟩ := items_ok s1 hw2 hj
          exact ⟨c, d, vs, ws, rfl, by rw [hK]; exact h1, by rw [hK]; exact g1, k1 _ _ _ (.refl _) s1 (itOk_zm hK hw hw2)⟩
        · exact k1.elim
      · exact k1.elim
end
theorem fnG_none {P : Program} {w : World} {K : PySem.W.Frag} {TB : Tab} {mg : Str → Option Value} {base : Heap} {k : Nat} {f : Addr} {fd : FuncData} {ps : List Str} {n : Nat} : FnG P w K mg base k f fd ps (spD K TB (fun _ _ => none) n) :=
  ⟨fun vs H Q E ⟨_, _, _, _, _, _, _, h⟩ => h.elim, fun A outer s H args us vs Q E _ _ _ _ _ ⟨_, _, _, _, _, _, _, h⟩ => h.elim⟩
end L3

set_option Elab.async false
set_option linter.all false
set_option maxRecDepth 100000
set_option maxHeartbeats 4000000
/-! L3: what pieces come to, one lemma a piece (no cell changes). -/
namespace L3
open PySem PySem.Spec PyProof.Rows L2
abbrev intT (i : Int) : T := .v true (.int i)
abbrev blT (b : Bool) : T := .v true (.bl b)
section
variable {Γ : Gam} {μ μ1 μ2 : Mu} {ga gb gc : De} {ta tb : Db} {da : Da} {t u : T} {f g : Bool}
theorem ev_var {i : Nat} (h : Γ[i]? = some (some t)) : dVar i Γ μ = some (.ok t μ) := by unfold dVar; rw [h]
theorem ev_atm {d : D} : dAtm d Γ μ = some (.ok (.v true d) μ) := rfl
theorem ev_nil : aNil Γ μ = some (.ok [] μ) := rfl
theorem ev_cons {ts : List T} (ha : ga Γ μ = some (.ok t μ1)) (hd : da Γ μ1 = some (.ok ts μ2)) : aCons ga da Γ μ = some (.ok (t :: ts) μ2) := by unfold aCons; rw [ha]; show Ot.bind (da Γ μ1) _ = _; rw [hd]; rfl
theorem ev_d1 {h : Mu → T → Vt} (ha : ga Γ μ = some (.ok t μ1)) (e : h μ1 t = some (u, μ2)) : d1 h ga Γ μ = some (.ok u μ2) := by unfold d1; rw [ha]; show (h μ1 t).ot = _; rw [e]; rfl
theorem ev_d2 {h : Mu → T → T → Vt} {v : T} {μ3 : Mu} (ha : ga Γ μ = some (.ok t μ1)) (hb : gb Γ μ1 = some (.ok u μ2)) (e : h μ2 t u = some (v, μ3)) : d2 h ga gb Γ μ = some (.ok v μ3) := by
  unfold d2; rw [ha]; show Ot.bind (gb Γ μ1) _ = _; rw [hb]; show (h μ2 t u).ot = _; rw [e]; rfl
theorem ev_bin {l : Bool} {op : Operator} {i j k : Int} (ha : ga Γ μ = some (.ok (.v f (.int i)) μ1)) (hb : gb Γ μ1 = some (.ok (.v g (.int j)) μ2)) (e : L3.binI op i j = some k) : d2 (binV l op) ga gb Γ μ = some (.ok (intT k) μ2) :=
  ev_d2 ha hb (by show (match L3.binI op i j with | some k => some (T.v true (.int k), μ2) | none => none) = _; rw [e])
theorem ev_cmp {op : CmpOp} {b : Bool} (ha : ga Γ μ = some (.ok t μ1)) (hb : gb Γ μ1 = some (.ok u μ2)) (e : cmpV op μ2 t u = some b) : d2 (cmpVt op) ga gb Γ μ = some (.ok (blT b) μ2) :=
  ev_d2 ha hb (by unfold cmpVt; rw [e])
theorem ev_bOf {b : Bool} (ha : ga Γ μ = some (.ok (.v f (.bl b)) μ1)) : bOf ga Γ μ = some (.ok b μ1) := by unfold bOf; rw [ha]; rfl
theorem ev_tst {op : CmpOp} {b : Bool} (ha : ga Γ μ = some (.ok t μ1)) (hb : gb Γ μ1 = some (.ok u μ2)) (e : cmpV op μ2 t u = some b) : bOf (d2 (cmpVt op) ga gb) Γ μ = some (.ok b μ2) := ev_bOf (ev_cmp ha hb e)
theorem ev_tru {b : Bool} (ha : ga Γ μ = some (.ok t μ1)) (e : truT μ1 t = some b) : bTru ga Γ μ = some (.ok b μ1) := by unfold bTru; rw [ha]; show (match truT μ1 t with | some k => some (Rs.ok k μ1) | none => none) = _; rw [e]
theorem ev_not {b : Bool} (h : ta Γ μ = some (.ok b μ1)) : bNot ta Γ μ = some (.ok (!b) μ1) := by unfold bNot; rw [h]; rfl
theorem ev_and {b c : Bool} (h : ta Γ μ = some (.ok b μ1)) (h2 : b = true → tb Γ μ1 = some (.ok c μ1)) : bAnd ta tb Γ μ = some (.ok (b && c) μ1) := by
  unfold bAnd; rw [h]
  cases b with
  | true => exact h2 rfl
  | false => rfl
theorem ev_or {b c : Bool} (h : ta Γ μ = some (.ok b μ1)) (h2 : b = false → tb Γ μ1 = some (.ok c μ1)) : bOr ta tb Γ μ = some (.ok (b || c) μ1) := by
  unfold bOr; rw [h]
  cases b with
  | true => rfl
  | false => exact h2 rfl
theorem ev_dAnd {b : Bool} {r : Bool} (h : ga Γ μ = some (.ok (.v f (.bl b)) μ1)) (h2 : b = true → gb Γ μ1 = some (.ok (blT r) μ1)) : dAnd ga gb Γ μ = some (.ok (blT (b && r)) μ1) := by
  unfold dAnd; rw [h]
  cases b with
  | true => exact h2 rfl
  | false => rfl
theorem ev_dOr {b : Bool} {r : Bool} (h : ga Γ μ = some (.ok (.v f (.bl b)) μ1)) (h2 : b = false → gb Γ μ1 = some (.ok (blT r) μ1)) : dOr ga gb Γ μ = some (.ok (blT (b || r)) μ1) := by
  unfold dOr; rw [h]
  cases b with
  | true => rfl
  | false => exact h2 rfl
theorem ev_dNot {b : Bool} (h : ga Γ μ = some (.ok (.v f (.bl b)) μ1)) : dNot ga Γ μ = some (.ok (blT (!b)) μ1) := by unfold dNot; exact ev_d1 h rfl
theorem ev_ite {b : Bool} (h : ta Γ μ = some (.ok b μ1)) (h2 : (if b then ga Γ μ1 else gb Γ μ1) = some (.ok t μ2)) : dIf ta ga gb Γ μ = some (.ok t μ2) := by unfold dIf; rw [h]; exact h2
theorem ev_yes (h : ta Γ μ = some (.ok true μ1)) (h2 : ga Γ μ1 = some (.ok t μ2)) : dIf ta ga gb Γ μ = some (.ok t μ2) := by unfold dIf; rw [h]; exact h2
theorem ev_no (h : ta Γ μ = some (.ok false μ1)) (h2 : gb Γ μ1 = some (.ok t μ2)) : dIf ta ga gb Γ μ = some (.ok t μ2) := by unfold dIf; rw [h]; exact h2
theorem ev_bi {h : Mu → List T → Vt} {ts : List T} (ha : da Γ μ = some (.ok ts μ1)) (e : h μ1 ts = some (t, μ2)) : dBi h da Γ μ = some (.ok t μ2) := by unfold dBi; rw [ha]; show (h μ1 ts).ot = _; rw [e]; rfl
/-- len -/
theorem ev_len {b : Bool} {ts : List T} (ha : ga Γ μ = some (.ok t μ1)) (hs : ∀ fl z, t ≠ .v fl (.str z)) (hi : items μ1 t = some (b, ts)) : dBi lenV (aCons ga aNil) Γ μ = some (.ok (intT ts.length) μ1) :=
  ev_bi (ev_cons ha ev_nil) (by
    unfold lenV
    split
    · rename_i fl z e; cases e; exact absurd rfl (hs _ _)
    · rename_i t' e; cases e; rw [hi]
    · rename_i h1 h2; exact absurd rfl (h2 t))
theorem notStr_lst {xs : List D} : ∀ fl z, T.v f (.lst xs) ≠ .v fl (.str z) := fun _ _ h => by cases h
theorem notStr_tup {xs : List D} : ∀ fl z, T.v f (.tup xs) ≠ .v fl (.str z) := fun _ _ h => by cases h
theorem notStr_m {j : Nat} : ∀ fl z, T.m j ≠ .v fl (.str z) := fun _ _ h => by cases h
theorem ev_lenL {xs : List D} (ha : ga Γ μ = some (.ok (.v f (.lst xs)) μ1)) : dBi lenV (aCons ga aNil) Γ μ = some (.ok (intT xs.length) μ1) := by
  have := ev_len ha notStr_lst (items_lst μ1 f xs)
  rwa [List.length_map] at this
theorem ev_lenT {xs : List D} (ha : ga Γ μ = some (.ok (.v f (.tup xs)) μ1)) : dBi lenV (aCons ga aNil) Γ μ = some (.ok (intT xs.length) μ1) := by
  have := ev_len ha notStr_tup (items_tup μ1 f xs)
  rwa [List.length_map] at this
/-- a place of a list, of a tuple -/
theorem ev_ixL {xs : List D} {n : Nat} {i : Int} {x : D} (ha : ga Γ μ = some (.ok (.v f (.lst xs)) μ1)) (hb : gb Γ μ1 = some (.ok (.v g (.int i)) μ2)) (hi : i = n) (h : xs[n]? = some x) : d2 ixV ga gb Γ μ = some (.ok (mkT f x) μ2) :=
  ev_d2 ha hb (ix_ev (b := true) notStr_lst (items_lst μ2 f xs) (by omega) (by subst hi; simp [h]))
theorem ev_ixT {xs : List D} {n : Nat} {i : Int} {x : D} (ha : ga Γ μ = some (.ok (.v f (.tup xs)) μ1)) (hb : gb Γ μ1 = some (.ok (.v g (.int i)) μ2)) (hi : i = n) (h : xs[n]? = some x) : d2 ixV ga gb Γ μ = some (.ok (mkT f x) μ2) :=
  ev_d2 ha hb (ix_ev (b := false) notStr_tup (items_tup μ2 f xs) (by omega) (by subst hi; simp [h]))
theorem mkT_atom {x : D} (h : x.atom = true) : mkT f x = .v true x := by simp [mkT, h]
theorem mkT_lst {xs : List D} : mkT f (.lst xs) = .v f (.lst xs) := by simp [mkT, D.atom]
theorem mkT_tup {xs : List D} : mkT f (.tup xs) = .v f (.tup xs) := by simp [mkT, D.atom]
theorem ev_ixLA {xs : List D} {n : Nat} {i : Int} {x : D} (ha : ga Γ μ = some (.ok (.v f (.lst xs)) μ1)) (hb : gb Γ μ1 = some (.ok (.v g (.int i)) μ2)) (hi : i = n) (h : xs[n]? = some x) (h0 : x.atom = true) : d2 ixV ga gb Γ μ = some (.ok (.v true x) μ2) := by
  rw [← mkT_atom (f := f) h0]; exact ev_ixL ha hb hi h
theorem ev_ixTA {xs : List D} {n : Nat} {i : Int} {x : D} (ha : ga Γ μ = some (.ok (.v f (.tup xs)) μ1)) (hb : gb Γ μ1 = some (.ok (.v g (.int i)) μ2)) (hi : i = n) (h : xs[n]? = some x) (h0 : x.atom = true) : d2 ixV ga gb Γ μ = some (.ok (.v true x) μ2) := by
  rw [← mkT_atom (f := f) h0]; exact ev_ixT ha hb hi h
theorem ev_ixM {j : Nat} {ts : List T} {n : Nat} {i : Int} {x : T} (ha : ga Γ μ = some (.ok (.m j) μ1)) (hb : gb Γ μ1 = some (.ok (.v g (.int i)) μ2)) (hj : μ2[j]? = some (.lst ts)) (hi : i = n) (h : ts[n]? = some x) : d2 ixV ga gb Γ μ = some (.ok x μ2) :=
  ev_d2 ha hb (ix_ev (b := true) notStr_m (items_m hj) (by omega) (by subst hi; simp [h]))
theorem ev_lst {ts : List T} {ds : List D} (h : da Γ μ = some (.ok ts μ1)) (hp : pack ts = some (f, ds)) (hz : ts.length ≤ 64) : dLst false da Γ μ = some (.ok (.v f (.lst ds)) μ1) := by
  unfold dLst; rw [h]
  show (if ts.length ≤ 64 then (newL false μ1 ts).ot else none) = _
  rw [if_pos hz]
  simp [newL, hp, Vt.ot]
theorem ev_lstL {ts : List T} (h : da Γ μ = some (.ok ts μ1)) (hz : ts.length ≤ 64) : dLst true da Γ μ = some (.ok (.m μ1.length) (μ1 ++ [.lst ts])) := by
  unfold dLst; rw [h]
  show (if ts.length ≤ 64 then (newL true μ1 ts).ot else none) = _
  rw [if_pos hz]
  rfl
theorem ev_tup {ts : List T} {ds : List D} (h : da Γ μ = some (.ok ts μ1)) (hp : pack ts = some (f, ds)) (hz : ts.length ≤ 64) : dTup da Γ μ = some (.ok (.v f (.tup ds)) μ1) := by
  unfold dTup; rw [h]
  show (if ts.length ≤ 64 then (newU μ1 ts).ot else none) = _
  rw [if_pos hz]
  simp [newU, hp, Vt.ot]
/-- list + list, both still -/
theorem pack_mk (f : Bool) : ∀ ds : List D, ∃ q, pack (ds.map (mkT f)) = some (q, ds) ∧ (f = true → q = true)
  | [] => ⟨true, rfl, fun _ => rfl⟩
  | d :: ds => by
    obtain ⟨q, h, h2⟩ := pack_mk f ds
    refine ⟨(f || d.atom) && q, by rw [List.map_cons, mkT, pack, h], fun e => by rw [e, h2 e]; rfl⟩
theorem pack_app : ∀ {ts us : List T} {p q : Bool} {ds es : List D}, pack ts = some (p, ds) → pack us = some (q, es) → pack (ts ++ us) = some (p && q, ds ++ es)
  | [], us, p, q, ds, es, h, h2 => by
    cases h
    rw [List.nil_append, h2]
    rfl
  | .m _ :: _, _, _, _, _, _, h, _ => by cases h
  | .v g d :: ts, us, p, q, ds, es, h, h2 => by
    unfold pack at h
    match hp : pack ts, h with
    | some (p', ds'), h =>
      cases h
      have := pack_app hp h2
      show pack (.v g d :: (ts ++ us)) = _
      rw [pack, this]
      simp [Bool.and_assoc]
theorem itemsP_lst {xs : List D} : itemsP μ (.v f (.lst xs)) = some (true, xs.map (mkT f)) := rfl
theorem itemsP_tup {xs : List D} : itemsP μ (.v f (.tup xs)) = some (false, xs.map (mkT f)) := rfl
theorem binV_catL {l : Bool} {xs ys : List D} : binV l .Add μ (.v f (.lst xs)) (.v g (.lst ys)) = if (xs.map (mkT f)).length + (ys.map (mkT g)).length ≤ sizeLine then newL l μ (xs.map (mkT f) ++ ys.map (mkT g)) else none := rfl
theorem ev_catL {xs ys : List D} (ha : ga Γ μ = some (.ok (.v f (.lst xs)) μ1)) (hb : gb Γ μ1 = some (.ok (.v g (.lst ys)) μ2)) (hz : xs.length + ys.length ≤ sizeLine) : ∃ q, d2 (binV false .Add) ga gb Γ μ = some (.ok (.v q (.lst (xs ++ ys))) μ2) ∧ (f = true → g = true → q = true) := by
  obtain ⟨p, h1, h2⟩ := pack_mk f xs
  obtain ⟨q, h3, h4⟩ := pack_mk g ys
  refine ⟨p && q, ev_d2 ha hb ?_, fun e1 e2 => by rw [h2 e1, h4 e2]; rfl⟩
  rw [binV_catL, List.length_map, List.length_map, if_pos hz]
  unfold newL
  rw [if_neg Bool.false_ne_true, pack_app h1 h3]
theorem ev_catLL {xs ys : List D} (ha : ga Γ μ = some (.ok (.v f (.lst xs)) μ1)) (hb : gb Γ μ1 = some (.ok (.v g (.lst ys)) μ2)) (hz : xs.length + ys.length ≤ sizeLine) :
    d2 (binV true .Add) ga gb Γ μ = some (.ok (.m μ2.length) (μ2 ++ [.lst (xs.map (mkT f) ++ ys.map (mkT g))])) :=
  ev_d2 ha hb (by rw [binV_catL, List.length_map, List.length_map, if_pos hz]; rfl)
theorem ev_catT {xs ys : List D} (ha : ga Γ μ = some (.ok (.v true (.tup xs)) μ1)) (hb : gb Γ μ1 = some (.ok (.v true (.tup ys)) μ2)) (e : catTV μ2 (.v true (.tup xs)) (.v true (.tup ys)) = some (.v true (.tup (xs ++ ys)), μ2)) : d2 catTV ga gb Γ μ = some (.ok (.v true (.tup (xs ++ ys))) μ2) := ev_d2 ha hb e
/-! statements -/
theorem st_set {i : Nat} (h : ga Γ μ = some (.ok t μ1)) : sSet i ga Γ μ = some (.nx (Γ.set i (some t)) μ1) := by unfold sSet; rw [h]; rfl
theorem st_ret (h : ga Γ μ = some (.ok t μ1)) : sRet ga Γ μ = some (.rt t μ1) := by unfold sRet; rw [h]; rfl
theorem st_exp (h : ga Γ μ = some (.ok t μ1)) : sExp ga Γ μ = some (.nx Γ μ1) := by unfold sExp; rw [h]; rfl
theorem st_seq {a b : Ds} {Γ1 : Gam} {r : Option Eo} (h : a Γ μ = some (.nx Γ1 μ1)) (h2 : b Γ1 μ1 = r) : sSeq a b Γ μ = r := by unfold sSeq; rw [h]; exact h2
theorem st_rt {a b : Ds} (h : a Γ μ = some (.rt t μ1)) : sSeq a b Γ μ = some (.rt t μ1) := by unfold sSeq; rw [h]
theorem st_bk {a b : Ds} {Γ1 : Gam} (h : a Γ μ = some (.bk Γ1 μ1)) : sSeq a b Γ μ = some (.bk Γ1 μ1) := by unfold sSeq; rw [h]
theorem st_ex {a b : Ds} {Γ1 : Gam} {c : Nat} (h : a Γ μ = some (.ex Γ1 c t μ1)) : sSeq a b Γ μ = some (.ex Γ1 c t μ1) := by unfold sSeq; rw [h]
theorem st_if {b : Bool} {a c : Ds} {r : Option Eo} (h : ta Γ μ = some (.ok b μ1)) (h2 : (if b then a Γ μ1 else c Γ μ1) = r) : sIf ta a c Γ μ = r := by unfold sIf; rw [h]; exact h2
theorem st_yes {a c : Ds} {r : Option Eo} (h : ta Γ μ = some (.ok true μ1)) (h2 : a Γ μ1 = r) : sIf ta a c Γ μ = r := st_if h h2
theorem st_no {a c : Ds} {r : Option Eo} (h : ta Γ μ = some (.ok false μ1)) (h2 : c Γ μ1 = r) : sIf ta a c Γ μ = r := st_if h h2
theorem st_nil : L3.sNil Γ μ = some (.nx Γ μ) := rfl
theorem st_asg {h : Dg} {Γ1 : Gam} (ha : ga Γ μ = some (.ok t μ1)) (e : h (.one t) Γ μ1 = some Γ1) : sAsg ga h Γ μ = some (.nx Γ1 μ1) := by unfold sAsg; rw [ha]; show (match h (.one t) Γ μ1 with | some Γ' => some (Eo.nx Γ' μ1) | none => none) = _; rw [e]
theorem rt_ev {m0 : Nat} {x : Option Eo} {r : Ot T} (h : x = some (.rt t μ)) (h2 : retD m0 (some (.rt t μ)) = r) : retD m0 x = r := by rw [h]; exact h2
theorem nx_ev {m0 : Nat} {x : Option Eo} {r : Ot T} {Γ1 : Gam} (h : x = some (.nx Γ1 μ)) (h2 : retD m0 (some (.nx Γ1 μ)) = r) : retD m0 x = r := by rw [h]; exact h2
/-! calls of defs that change nothing -/
theorem ev_call {gd : List T → Mu → Ot T} {n : Nat} {rf : List Bool} {ts us : List T} {d : D} (h : da Γ μ = some (.ok ts μ1)) (hn : ts.length = n) (hrf : refsOf rf ts = []) (ha : argsIn μ1 false rf ts 0 = some us) (hg : gd us [] = some (.ok (.v f d) [])) : dCall gd n false rf da Γ μ = some (.ok (.v f d) μ1) := by
  unfold dCall; rw [h]
  show (if ts.length = n then callD gd false rf ts μ1 else none) = _
  rw [if_pos hn, call_v hrf ha hg rfl]
theorem ev_callL {gd : List T → Mu → Ot T} {n m0 : Nat} {rf : List Bool} {ts us : List T} {ds : List D} (h : da Γ μ = some (.ok ts μ)) (hn : ts.length = n) (hrf : refsOf rf ts = []) (ha : argsIn μ false rf ts 0 = some us) (hg : gd us [] = some (.ok (.m 0) [.lst (ds.map (T.v true))])) (hm : m0 ≤ μ.length) (hl : μ.all (Cell.low μ.length) = true) :
    dFrz m0 (dCall gd n false rf da) Γ μ = some (.ok (.v true (.lst ds)) μ) := by
  refine frz_l ?_ hm hl
  unfold dCall; rw [h]
  show (if ts.length = n then callD gd false rf ts μ else none) = _
  rw [if_pos hn, call_l hrf ha hg]
theorem ev_callV {gd : List T → Mu → Ot T} {n m0 : Nat} {rf : List Bool} {ts us : List T} {d : D} (h : da Γ μ = some (.ok ts μ)) (hn : ts.length = n) (hrf : refsOf rf ts = []) (ha : argsIn μ false rf ts 0 = some us) (hg : gd us [] = some (.ok (.v f d) [])) (hl : μ.all (Cell.low μ.length) = true) :
    dFrz m0 (dCall gd n false rf da) Γ μ = some (.ok (.v f d) μ) := frz_v (ev_call h hn hrf ha hg) hl
end
/-! comprehensions, by a list of what comes -/
def atP {α : Type} (l : List α) (P : α → Bool) (i : Nat) : Bool := match l[i]? with
  | some x => P x
  | none => false
def atE {α : Type} (l : List α) (E : α → D) (i : Nat) : T := match l[i]? with
  | some x => .v true (E x)
  | none => .v true .non
section
variable {α : Type} {l : List α} {it : Di} {v : ItV} {g : Dg} {c : Db} {e : De} {own : List Nat} {Γ : Gam} {μ μ1 : Mu} {m0 : Nat} {y : α → Yl} {P : α → Bool} {E : α → D}
theorem gen_lc (h0 : ∀ (i : Nat) (h : i < l.length) (acc : List T), v.at (μ1 ++ [.lst acc]) i = some (y l[i]))
    (hb : ∀ x ∈ l, ∀ acc : List T, acc.all (T.low 0) = true → ∃ Γ1, g (y x) (wipeG Γ own) (μ1 ++ [.lst acc]) = some Γ1 ∧ c Γ1 (μ1 ++ [.lst acc]) = some (.ok (P x) (μ1 ++ [.lst acc])) ∧ (P x = true → e Γ1 (μ1 ++ [.lst acc]) = some (.ok (.v true (E x)) (μ1 ++ [.lst acc])))) :
    ∀ (i : Nat) (acc : List T), i < l.length → acc.all (T.low 0) = true → ∃ z Γ1, v.at (μ1 ++ [.lst acc]) i = some z ∧ g z (wipeG Γ own) (μ1 ++ [.lst acc]) = some Γ1 ∧ c Γ1 (μ1 ++ [.lst acc]) = some (.ok (atP l P i) (μ1 ++ [.lst acc])) ∧
      (atP l P i = true → e Γ1 (μ1 ++ [.lst acc]) = some (.ok (atE l E i) (μ1 ++ [.lst acc]))) := by
  intro i acc hi ha
  obtain ⟨Γ1, h1, h2, h3⟩ := hb l[i] (List.getElem_mem hi) acc ha
  have hg : l[i]? = some l[i] := by simp [hi]
  refine ⟨_, Γ1, h0 i hi acc, h1, ?_, fun hp => ?_⟩
  · unfold atP; rw [hg]; exact h2
  · unfold atP at hp
    unfold atE
    rw [hg] at hp ⊢
    exact h3 hp
theorem lcOut_at (l : List α) (P : α → Bool) (E : α → D) : lcOut (atP l P) (atE l E) l.length 0 = ((l.filter P).map E).map (T.v true) :=
  (lcOut_of l P (fun x => .v true (E x)) (.v true .non)).trans (by rw [List.map_map]; rfl)
theorem atE_low (i : Nat) : (atE l E i).low 0 = true := by unfold atE; split <;> rfl
theorem dlc_genF (hit : it Γ μ = some (.ok v μ1)) (hn : v.len = l.length) (hz : l.length ≤ sizeLine) (hok : ∀ acc : List T, v.ok (μ1 ++ [.lst acc]) = true) (h0 : ∀ (i : Nat) (h : i < l.length) (acc : List T), v.at (μ1 ++ [.lst acc]) i = some (y l[i]))
    (hb : ∀ x ∈ l, ∀ acc : List T, acc.all (T.low 0) = true → ∃ Γ1, g (y x) (wipeG Γ own) (μ1 ++ [.lst acc]) = some Γ1 ∧ c Γ1 (μ1 ++ [.lst acc]) = some (.ok (P x) (μ1 ++ [.lst acc])) ∧ (P x = true → e Γ1 (μ1 ++ [.lst acc]) = some (.ok (.v true (E x)) (μ1 ++ [.lst acc]))))
    (hm : m0 ≤ μ1.length) (hl : μ1.all (Cell.low μ1.length) = true) : dLc false m0 it g c e own Γ μ = some (.ok (.v true (.lst ((l.filter P).map E))) μ1) :=
  dlc_evP (n := l.length) hit hn hz atE_low hok (gen_lc h0 hb) (by rw [lcOut_at]; exact pack_vs _) hm hl
theorem dlc_genL (hit : it Γ μ = some (.ok v μ1)) (hn : v.len = l.length) (hz : l.length ≤ sizeLine) (hok : ∀ acc : List T, v.ok (μ1 ++ [.lst acc]) = true) (h0 : ∀ (i : Nat) (h : i < l.length) (acc : List T), v.at (μ1 ++ [.lst acc]) i = some (y l[i]))
    (hb : ∀ x ∈ l, ∀ acc : List T, acc.all (T.low 0) = true → ∃ Γ1, g (y x) (wipeG Γ own) (μ1 ++ [.lst acc]) = some Γ1 ∧ c Γ1 (μ1 ++ [.lst acc]) = some (.ok (P x) (μ1 ++ [.lst acc])) ∧ (P x = true → e Γ1 (μ1 ++ [.lst acc]) = some (.ok (.v true (E x)) (μ1 ++ [.lst acc])))) :
    dLc true m0 it g c e own Γ μ = some (.ok (.m μ1.length) (μ1 ++ [.lst (((l.filter P).map E).map (T.v true))])) := by
  have q := dlc_evLP (m0 := m0) (n := l.length) hit hn hz atE_low hok (gen_lc h0 hb)
  rw [q, lcOut_at]
theorem filter_yes (l : List α) : l.filter (fun _ => true) = l := by rw [List.filter_eq_self]; intros; rfl
/-- a for, by a list of what comes -/
theorem for_gen {b : Ds} (J : Nat → Gam → Mu → Prop) (hit : it Γ μ = some (.ok v μ1)) (hn : v.len = l.length) (hok : ∀ i Γ μ, i ≤ l.length → J i Γ μ → v.ok μ = true) (h0 : J 0 Γ μ1)
    (step : ∀ (i : Nat) (h : i < l.length) Γ μ, J i Γ μ → ∃ Γ1 Γ2 μ2, v.at μ i = some (y l[i]) ∧ g (y l[i]) Γ μ = some Γ1 ∧ (b Γ1 μ = some (.nx Γ2 μ2) ∨ b Γ1 μ = some (.ct Γ2 μ2)) ∧ J (i + 1) Γ2 μ2) :
    ∃ Γ' μ', sFor it g b Γ μ = some (.nx Γ' μ') ∧ J l.length Γ' μ' := by
  obtain ⟨Γ', μ', h1, h2⟩ := for_inv (v := v) (g := g) (b := b) (n := l.length) J hok (fun i Γ μ hi hj => by
    obtain ⟨Γ1, Γ2, μ2, q1, q2, q3, q4⟩ := step i hi Γ μ hj
    exact ⟨_, Γ1, Γ2, μ2, q1, q2, q3, q4⟩) l.length 0 Γ μ1 (by omega) h0
  exact ⟨Γ', μ', for_ev hit (by rw [hn]; exact h1), h2⟩
end
/-! what is walked -/
section
variable {Γ : Gam} {μ μ1 : Mu} {f : Bool} {ge : De} {da : Da}
theorem it_lst {xs : List D} (h : ge Γ μ = some (.ok (.v f (.lst xs)) μ1)) : iSeq true ge Γ μ = some (.ok (.seq true (.v f (.lst xs)) xs.length) μ1) := iSeq_ev (b := true) h
theorem it_tup {xs : List D} (h : ge Γ μ = some (.ok (.v f (.tup xs)) μ1)) : iSeq false ge Γ μ = some (.ok (.seq false (.v f (.tup xs)) xs.length) μ1) := iSeq_ev (b := false) h
theorem at_lst {α : Type} {l : List α} {Dx : α → D} (i : Nat) (h : i < l.length) : (ItV.seq true (.v f (.lst (l.map Dx))) (l.map Dx).length).at μ i = some (.one (mkT f (Dx l[i]))) := by
  rw [seq_at (by simpa using h), List.getElem_map]
theorem at_tup {α : Type} {l : List α} {Dx : α → D} (i : Nat) (h : i < l.length) : (ItV.seq false (.v f (.tup (l.map Dx))) (l.map Dx).length).at μ i = some (.one (mkT f (Dx l[i]))) := by
  rw [seq_atT (by simpa using h), List.getElem_map]
theorem it_rng2 {i j : Int} {f g : Bool} (h : da Γ μ = some (.ok [.v f (.int i), .v g (.int j)] μ1)) (hb : -(2 ^ 62) ≤ i ∧ i < 2 ^ 62 ∧ -(2 ^ 62) ≤ j ∧ j < 2 ^ 62) : iRng2D da Γ μ = some (.ok (.rng i (j - i).toNat) μ1) := by
  unfold iRng2D; rw [h]; exact if_pos hb
theorem at_rng {lo : Int} {n i : Nat} : (ItV.rng lo n).at μ i = some (.one (intT (lo + i))) := rfl
theorem it_revR1 {n : Int} {f : Bool} (h : ge Γ μ = some (.ok (.v f (.int n)) μ1)) (hb : -(2 ^ 62) ≤ n ∧ n < 2 ^ 62) : iRevR1D ge Γ μ = some (.ok (.rngR 0 n.toNat) μ1) := by
  unfold iRevR1D; rw [h]; exact if_pos hb
theorem it_enum {xs : List D} (h : da Γ μ = some (.ok [.v f (.lst xs)] μ1)) : iEnumD da Γ μ = some (.ok (.enum (.v f (.lst xs)) xs.length) μ1) := by
  unfold iEnumD; rw [h]
  show (match items μ1 (.v f (.lst xs)) with | some (true, us) => some (Rs.ok (ItV.enum (.v f (.lst xs)) us.length) μ1) | _ => none) = _
  rw [items_lst]
  simp
theorem ok_enum {xs : List D} : (ItV.enum (.v f (.lst xs)) xs.length).ok μ = true := by simp [ItV.ok, itemsN]
theorem at_enum {α : Type} {l : List α} {Dx : α → D} (i : Nat) (h : i < l.length) : (ItV.enum (.v f (.lst (l.map Dx))) (l.map Dx).length).at μ i = some (.two (intT i) (mkT f (Dx l[i]))) := by
  simp [ItV.at, itemsN, h]
theorem it_zipM {xs ys : List D} {g : Bool} (h : da Γ μ = some (.ok [.v f (.tup xs), .v g (.lst ys)] μ1)) : iZipM da Γ μ = some (.ok (.zipM (.v f (.tup xs)) (.v g (.lst ys)) xs.length ys.length) μ1) := by
  unfold iZipM; rw [h]
  show (match items μ1 (.v f (.tup xs)), items μ1 (.v g (.lst ys)) with | some (false, as), some (true, bs) => some (Rs.ok (ItV.zipM (.v f (.tup xs)) (.v g (.lst ys)) as.length bs.length) μ1) | _, _ => none) = _
  rw [items_tup, items_lst]
  simp
theorem ok_zipM {xs ys : List D} {g : Bool} : (ItV.zipM (.v f (.tup xs)) (.v g (.lst ys)) xs.length ys.length).ok μ = true := by simp [ItV.ok, itemsN]
theorem at_zipM {xs ys : List D} {g : Bool} (i : Nat) (h : i < xs.length) (h2 : i < ys.length) : (ItV.zipM (.v f (.tup xs)) (.v g (.lst ys)) xs.length ys.length).at μ i = some (.two (mkT f xs[i]) (mkT g ys[i])) := by
  simp [ItV.at, itemsN, h, h2]
end
/-! places of a number in a list of numbers -/
theorem pys_ints : ∀ ns : List Int, D.pys (ns.map D.int) = some (ns.map PyData.int)
  | [] => rfl
  | n :: ns => by rw [List.map_cons, D.pys, pys_ints ns]; rfl
theorem firstEq_int (n : Int) : ∀ ns : List Int, n ∈ ns → firstEq (.int n) (ns.map PyData.int) = some (ns.idxOf n)
  | [], h => by cases h
  | m :: ns, h => by
    rw [List.map_cons, firstEq]
    by_cases e : m = n
    · subst e
      simp [PyData.eqv]
    · have hm : n ∈ ns := (List.mem_cons.mp h).resolve_left fun z => e z.symm
      have ih := firstEq_int n ns hm
      rw [List.idxOf_cons]
      have e' : (m == n) = false := by simpa using e
      simp [PyData.eqv, e', ih]
theorem intsOf_ev (q : Bool) : ∀ ns : List Int, intsOf ((ns.map D.int).map (mkT q)) = some ns
  | [] => rfl
  | n :: ns => by rw [List.map_cons, List.map_cons, mkT_int, intsOf, intsOf_ev q ns]
theorem intsOf_ev' : ∀ ns : List Int, intsOf (ns.map fun n => T.v true (.int n)) = some ns
  | [] => rfl
  | n :: ns => by rw [List.map_cons, intsOf, intsOf_ev' ns]
theorem sset_ev {μ : Mu} {q : Bool} {ns : List Int} (h : (ssetI ns).length < 64) : ssetV false μ (.v q (.lst (ns.map D.int))) = some (.v true (.lst ((ssetI ns).map D.int)), μ) := by
  unfold ssetV
  rw [items_lst]
  simp only [intsOf_ev, if_pos h]
  unfold newL
  rw [if_neg Bool.false_ne_true]
  have := pack_vs ((ssetI ns).map D.int)
  rw [List.map_map] at this
  rw [show ((ssetI ns).map fun n => T.v true (.int n)) = (ssetI ns).map (T.v true ∘ D.int) from rfl, this]
theorem it_rng1 {da : Da} {Γ : Gam} {μ μ1 : Mu} {n : Nat} {f : Bool} (h : da Γ μ = some (.ok [.v f (.int n)] μ1)) (hb : n < 2 ^ 62) : iRng1D da Γ μ = some (.ok (.rng 0 n) μ1) := by
  have := rng1_ev h ⟨by omega, by omega⟩
  rwa [Int.toNat_natCast] at this
theorem at_rng0 {μ : Mu} {n m i : Nat} (h : i < (List.range m).length) : (ItV.rng 0 n).at μ i = some (.one (intT ((List.range m)[i] : Nat))) := by
  rw [List.getElem_range]
  show some (Yl.one (intT (0 + (i : Int)))) = _
  rw [Int.zero_add]
theorem low1 {acc : List T} (h : acc.all (T.low 0) = true) {n : Nat} : ([] ++ [Cell.lst acc] : Mu).all (Cell.low n) = true := low_app (μ := []) rfl h
theorem lay_intsP : ∀ ns : List Int, PyData.canLayAll0 (ns.map PyData.int) = true
  | [] => by simp [PyData.canLayAll0]
  | _ :: l => by simp [PyData.canLayAll0, PyData.canLay0, lay_intsP l]
theorem shape_ints (ns : List Int) : SeqAt.shaped (.list (ns.map PyData.int)) = true := by
  have : PyData.depthAll (ns.map PyData.int) = 0 := PySem.W.depth_ints ns
  simp [SeqAt.shaped, PyData.canLay0, lay_intsP, PyData.depth, this]
theorem idx_evI {μ : Mu} {f g : Bool} {ns : List Int} {n : Int} (h : n ∈ ns) : idxV μ (.v f (.lst (ns.map D.int))) [.v g (.int n)] = some (intT (ns.idxOf n : Nat), μ) := by
  have h1 : deep DEEP μ (.v f (.lst (ns.map D.int))) = some (.lst (ns.map D.int)) := by unfold deep; rfl
  have h2 : deep DEEP μ (.v g (.int n)) = some (.int n) := by unfold deep; rfl
  have h3 : D.py (.int n) = some (.int n) := by simp [D.py]
  have h4 : SeqAt.shaped (.int n) = true := by simp [SeqAt.shaped, PyData.canLay0, PyData.depth]
  unfold idxV
  simp only [h1, h2, h3, pys_ints, shape_ints, h4, Bool.and_self, if_true, firstEq_int n ns h]
theorem ev_mt {g : Mv} {go : De} {da : Da} {Γ : Gam} {μ μ1 μ2 μ3 : Mu} {t u : T} {ts us : List T} (ho : go Γ μ = some (.ok t μ1)) (hi : items μ1 t = some (true, us)) (ha : da Γ μ1 = some (.ok ts μ2)) (e : g μ2 t ts = some (u, μ3)) : dMt g go da Γ μ = some (.ok u μ3) := by
  unfold dMt; rw [ho]
  show (if (items μ1 t).any (·.1) then Ot.bind (da Γ μ1) fun ts μ2 => (g μ2 t ts).ot else none) = _
  have h0 : (Option.any (fun x : Bool × List T => x.1) (some (true, us))) = true := rfl
  rw [hi, if_pos h0, ha]
  show (g μ2 t ts).ot = _
  rw [e]; rfl
theorem sum_ev {μ : Mu} {q : Bool} {ns : List Int} : onInts (fun ns => some ns.sum) μ [.v q (.lst (ns.map D.int))] = some (intT ns.sum, μ) := by
  unfold onInts
  simp only [items_lst, intsOf_ev]
/-- (x, y) = (..), the items of a new living tuple -/
theorem st_asgL {da : Da} {h : Dg} {Γ Γ1 : Gam} {μ μ1 : Mu} {ts : List T} (hd : da Γ μ = some (.ok ts μ1)) (hz : ts.length ≤ 64) (e : h (.one (.m μ1.length)) Γ (μ1 ++ [.tup ts]) = some Γ1) : sAsg (dTupL da) h Γ μ = some (.nx Γ1 (μ1 ++ [.tup ts])) := by
  refine st_asg (t := .m μ1.length) ?_ e
  unfold dTupL; rw [hd]
  show (if ts.length ≤ 64 then some (Rs.ok (T.m μ1.length) (μ1 ++ [Cell.tup ts])) else none) = _
  rw [if_pos hz]
theorem sIx_nn (n d i : Nat) : HT.sIx n d (some (i : Int)) = min i n := by
  rw [HT.sIx_nat]
theorem sIx_no (n d : Nat) : HT.sIx n d none = d := HT.sIx_none _ _
/-- xs[a:] -/
theorem cutT_from (ts : List T) (a : Nat) : cutT ts (some (a : Int)) none = ts.drop a := by
  unfold cutT
  rw [sIx_nn, sIx_no]
  by_cases h : a ≤ ts.length
  · rw [Nat.min_eq_left h, List.take_of_length_le (by rw [List.length_drop]; exact Nat.le_refl _)]
  · rw [Nat.min_eq_right (by omega), Nat.sub_self, List.take_zero, List.drop_of_length_le (by omega)]
/-- xs[:a] -/
theorem cutT_to (ts : List T) (a : Nat) : cutT ts none (some (a : Int)) = ts.take a := by
  unfold cutT
  rw [sIx_nn, sIx_no, Nat.sub_zero, List.drop_zero]
  by_cases h : a ≤ ts.length
  · rw [Nat.min_eq_left h]
  · rw [Nat.min_eq_right (by omega), List.take_of_length_le (Nat.le_refl _), List.take_of_length_le (by omega)]
section
variable {Γ : Gam} {μ μ1 μ2 : Mu} {ga gb : De} {f g : Bool} {xs : List D}
theorem slV_lst (l : Bool) (lo hi : Option Int) : slV l μ (.v f (.lst xs)) lo hi = newL l μ (cutT (xs.map (mkT f)) lo hi) := rfl
theorem ev_from {a : Nat} (ha : ga Γ μ = some (.ok (.v f (.lst xs)) μ1)) (hb : gb Γ μ1 = some (.ok (.v g (.int (a : Nat))) μ2)) : ∃ q, dSl false ga (some gb) none Γ μ = some (.ok (.v q (.lst (xs.drop a))) μ2) ∧ (f = true → q = true) := by
  obtain ⟨q, h1, h2⟩ := pack_mk f (xs.drop a)
  refine ⟨q, ?_, h2⟩
  unfold dSl
  rw [ha]
  show Ot.bind (Ot.bind (gb Γ μ1) _) _ = _
  rw [hb]
  show (slV false μ2 (.v f (.lst xs)) (some (a : Int)) none).ot = _
  rw [slV_lst, cutT_from, ← List.map_drop]
  unfold newL
  rw [if_neg Bool.false_ne_true, h1]
  rfl
theorem ev_to {a : Nat} (ha : ga Γ μ = some (.ok (.v f (.lst xs)) μ1)) (hb : gb Γ μ1 = some (.ok (.v g (.int (a : Nat))) μ2)) : ∃ q, dSl false ga none (some gb) Γ μ = some (.ok (.v q (.lst (xs.take a))) μ2) ∧ (f = true → q = true) := by
  obtain ⟨q, h1, h2⟩ := pack_mk f (xs.take a)
  refine ⟨q, ?_, h2⟩
  unfold dSl
  rw [ha]
  show Ot.bind (Ot.bind (gb Γ μ1) _) _ = _
  rw [hb]
  show (slV false μ2 (.v f (.lst xs)) none (some (a : Int))).ot = _
  rw [slV_lst, cutT_to, ← List.map_take]
  unfold newL
  rw [if_neg Bool.false_ne_true, h1]
  rfl
end
section
variable {v : ItV} {g : Dg} {b : Ds} {k i : Nat} {Γ Γ1 Γ2 : Gam} {μ μ1 μ2 μ3 : Mu} {y : Yl} {t u : T} {c : Nat}
theorem forD_nx (hok : v.ok μ = true) (hat : v.at μ i = some y) (hg : g y Γ μ = some Γ1) (hb : b Γ1 μ = some (.nx Γ2 μ2)) : forD v g b (k + 1) i Γ μ = forD v g b k (i + 1) Γ2 μ2 := by
  rw [forD, if_pos hok, hat]
  simp only [hg, hb]
theorem forD_ex (hok : v.ok μ = true) (hat : v.at μ i = some y) (hg : g y Γ μ = some Γ1) (hb : b Γ1 μ = some (.ex Γ2 c t μ2)) : forD v g b (k + 1) i Γ μ = some (.ex Γ2 c t μ2) := by
  rw [forD, if_pos hok, hat]
  simp only [hg, hb]
theorem forD_rt (hok : v.ok μ = true) (hat : v.at μ i = some y) (hg : g y Γ μ = some Γ1) (hb : b Γ1 μ = some (.rt t μ2)) : forD v g b (k + 1) i Γ μ = some (.rt t μ2) := by
  rw [forD, if_pos hok, hat]
  simp only [hg, hb]
theorem forD_0 (hok : v.ok μ = true) : forD v g b 0 i Γ μ = some (.nx Γ μ) := by rw [forD, if_pos hok]
theorem st_fld {c i : Nat} {go ge : De} (he : ge Γ μ = some (.ok t μ1)) (ho : go Γ μ1 = some (.ok u μ2)) (e : putFldV c i μ2 u t = some μ3) : sFldD c i go ge Γ μ = some (.nx Γ μ3) := by
  unfold sFldD
  rw [he]
  show Ot.bindS (go Γ μ1) Γ _ = _
  rw [ho]
  show (match putFldV c i μ2 u t with | some μ4 => some (Eo.nx Γ μ4) | none => none) = _
  rw [e]
theorem st_raise {c : Nat} {ge : De} (he : ge Γ μ = some (.ok t μ1)) : sRaise c ge Γ μ = some (.ex Γ c t μ1) := by
  unfold sRaise
  rw [he]
  rfl
end
/-! an object is made -/
section
variable {g : List T → Mu → Ot T} {c ar m0 : Nat} {rf : List Bool} {ts us : List T} {μ : Mu}
theorem setAll_last (μ : Mu) (a b : Cell) : setAll (μ ++ [a]) [μ.length] [b] = μ ++ [b] := by
  show setAll ((μ ++ [a]).set μ.length b) [] [] = _
  simp [setAll]
theorem cells_last (μ : Mu) (c : Nat) : cellsAt (μ ++ [Cell.obj c []]) [μ.length] = some [Cell.obj c []] := by
  have e : (μ ++ [Cell.obj c []])[μ.length]? = some (.obj c []) := by simp
  show (match (μ ++ [Cell.obj c []])[μ.length]?, some [] with | some c, some cs => if c.flat then some (c :: cs) else none | _, _ => none) = _
  rw [e]
  rfl
theorem mk_call (hrf : refsOf rf ts = []) (ha : argsIn (μ ++ [Cell.obj c []]) false rf ts 1 = some us) : callD g false (true :: rf) (.m μ.length :: ts) (μ ++ [Cell.obj c []]) = back false [μ.length] (μ ++ [Cell.obj c []]) (g (.m 0 :: us) [.obj c []]) := by
  have e1 : refsOf (true :: rf) (.m μ.length :: ts) = [μ.length] := by show μ.length :: refsOf rf ts = _; rw [hrf]
  have e2 : argsIn (μ ++ [Cell.obj c []]) false (true :: rf) (.m μ.length :: ts) 0 = some (.m 0 :: us) := by
    show (match argsIn (μ ++ [Cell.obj c []]) false rf ts 1 with | some us => some (T.m 0 :: us) | none => none) = _
    rw [ha]
  unfold callD
  rw [e1]
  show (match argsIn (μ ++ [Cell.obj c []]) false (true :: rf) (.m μ.length :: ts) 0 with | some us => if [μ.length].Nodup then match cellsAt (μ ++ [Cell.obj c []]) [μ.length] with | some cs => back false [μ.length] (μ ++ [Cell.obj c []]) (g us cs) | none => none else none | none => none) = _
  rw [e2]
  simp only [cells_last]
  rw [if_pos (by simp)]
theorem mk_ev {ds : List D} (hrf : refsOf rf ts = []) (ha : argsIn (μ ++ [Cell.obj c []]) false rf ts 1 = some us) (hg : g (.m 0 :: us) [.obj c []] = some (.ok (.v true .non) [.obj c (ds.map (T.v true))])) (hn : ds.length = ar) (hm : m0 ≤ μ.length) (hl : μ.all (Cell.low μ.length) = true) :
    mkD g c ar false false rf m0 ts μ = some (.ok (.v true (.obj c ds)) μ) := by
  have e0 : (ds.map (T.v true)).map (ren [μ.length] (μ ++ [Cell.obj c []]).length) = ds.map (T.v true) := by
    rw [List.map_map]
    rfl
  have e : callD g false (true :: rf) (.m μ.length :: ts) (μ ++ [Cell.obj c []]) = some (.ok (.v true .non) (μ ++ [Cell.obj c (ds.map (T.v true))])) := by
    rw [mk_call hrf ha, hg]
    show some (Rs.ok (T.v true D.non) (setAll (μ ++ [Cell.obj c []]) [μ.length] [renC [μ.length] (μ ++ [Cell.obj c []]).length (.obj c (ds.map (T.v true)))] ++ [])) = _
    rw [setAll_last, List.append_nil]
    show some (Rs.ok (T.v true D.non) (μ ++ [Cell.obj c ((ds.map (T.v true)).map (ren [μ.length] (μ ++ [Cell.obj c []]).length))])) = _
    rw [e0]
  have e1 : (μ ++ [Cell.obj c (ds.map (T.v true))])[μ.length]? = some (.obj c (ds.map (T.v true))) := by simp
  unfold mkD
  rw [e]
  simp only [e1]
  rw [if_pos trivial]
  unfold mkEnd
  rw [if_neg Bool.false_ne_true, e1]
  simp only
  rw [if_pos (by rw [List.length_map]; exact hn), pack_vs]
  simp only
  rw [if_pos ⟨hm, by simpa using hl⟩]
  simp [Vt.ot]
theorem mk_exc {x : Nat} {f : Bool} {d : D} (hrf : refsOf rf ts = []) (ha : argsIn (μ ++ [Cell.obj c []]) false rf ts 1 = some us) (hg : g (.m 0 :: us) [.obj c []] = some (.exc x (.v f d) [.obj c []])) :
    mkD g c ar false false rf m0 ts μ = some (.exc x (.v f d) (μ ++ [Cell.obj c []])) := by
  have e : callD g false (true :: rf) (.m μ.length :: ts) (μ ++ [Cell.obj c []]) = some (.exc x (.v f d) (μ ++ [Cell.obj c []])) := by
    rw [mk_call hrf ha, hg]
    show some (Rs.exc x (T.v f d) (setAll (μ ++ [Cell.obj c []]) [μ.length] [renC [μ.length] (μ ++ [Cell.obj c []]).length (.obj c [])] ++ [])) = _
    rw [setAll_last, List.append_nil]
    rfl
  unfold mkD
  rw [e]
variable {Γ : Gam} {da : Da} {n nk : Nat} {pm : List Nat} {μ1 : Mu} {r : Ot T}
theorem ev_make {live keep : Bool} (h : da Γ μ = some (.ok ts μ1)) (hn : ts.length + 1 = n) (e : mkD g c ar live keep rf m0 ts μ1 = r) : dMake g n c ar live keep rf m0 da Γ μ = r := by
  unfold dMake
  rw [h]
  show (if ts.length + 1 = n then mkD g c ar live keep rf m0 ts μ1 else none) = _
  rw [if_pos hn, e]
theorem ev_makeK {live keep : Bool} {ts' : List T} (h : da Γ μ = some (.ok ts μ1)) (hk : ts.length = nk) (hp : pick pm ts = ts') (hn : ts'.length + 1 = n) (e : mkD g c ar live keep rf m0 ts' μ1 = r) : dMakeK g n c ar live keep rf m0 pm nk da Γ μ = r := by
  unfold dMakeK
  rw [h]
  show (if ts.length = nk then if (pick pm ts).length + 1 = n then mkD g c ar live keep rf m0 (pick pm ts) μ1 else none else none) = _
  rw [if_pos hk, hp, if_pos hn, e]
end
end L3

set_option Elab.async false
set_option linter.all false
set_option maxRecDepth 100000
set_option maxHeartbeats 4000000
/-! L3: calls that draw from a mill of three numbers. -/
namespace L3
open PySem PySem.Spec PyProof.Rows L2
abbrev M3 (a b c : Int) : Cell := .lst [intT a, intT b, intT c]
section
variable {g : List T → Mu → Ot T} {live : Bool} {rf : List Bool} {ts us : List T} {μ : Mu} {j n m0 : Nat} {a b c a' b' c' : Int}
theorem refs1 (hrf : refsOf rf ts = []) : refsOf (true :: rf) (.m j :: ts) = [j] := by show j :: refsOf rf ts = _; rw [hrf]
theorem cells1 (hj : μ[j]? = some (M3 a b c)) : cellsAt μ [j] = some [M3 a b c] := by
  show (match μ[j]?, some [] with | some c, some cs => if c.flat then some (c :: cs) else none | _, _ => none) = _
  rw [hj]
  rfl
theorem callM (hj : μ[j]? = some (M3 a b c)) (hrf : refsOf rf ts = []) (ha : argsIn (if live then hide μ [j] else μ) live rf ts 1 = some us) : callD g live (true :: rf) (.m j :: ts) μ = back live [j] μ (g (.m 0 :: us) [M3 a b c]) := by
  have e2 : argsIn (if live then hide μ [j] else μ) live (true :: rf) (.m j :: ts) 0 = some (.m 0 :: us) := by
    show (match argsIn (if live then hide μ [j] else μ) live rf ts 1 with | some us => some (T.m 0 :: us) | none => none) = _
    rw [ha]
  unfold callD
  rw [refs1 hrf]
  show (match argsIn (if live then hide μ [j] else μ) live (true :: rf) (.m j :: ts) 0 with | some us => if [j].Nodup then match cellsAt μ [j] with | some cs => back live [j] μ (g us cs) | none => none else none | none => none) = _
  rw [e2]
  simp only [cells1 hj]
  rw [if_pos (by simp)]
theorem setAll1 (x : Cell) : setAll μ [j] [x] = μ.set j x := rfl
theorem callM_v {f : Bool} {d : D} (hj : μ[j]? = some (M3 a b c)) (hrf : refsOf rf ts = []) (ha : argsIn (if live then hide μ [j] else μ) live rf ts 1 = some us) (hg : g (.m 0 :: us) [M3 a b c] = some (.ok (.v f d) [M3 a' b' c'])) (hn : (!live || (f || d.atom)) = true) :
    callD g live (true :: rf) (.m j :: ts) μ = some (.ok (.v f d) (μ.set j (M3 a' b' c'))) := by
  rw [callM hj hrf ha, hg]
  have e : (!live || ((T.v f d).news && List.all [M3 a' b' c'] Cell.news)) = true := by
    show (!live || ((f || d.atom) && true)) = true
    rw [Bool.and_true]
    exact hn
  refine (if_pos e).trans ?_
  show some (Rs.ok (T.v f d) (setAll μ [j] [M3 a' b' c'] ++ [])) = _
  rw [setAll1, List.append_nil]
theorem news_all (ds : List D) : (ds.map (T.v true)).all T.news = true := by
  rw [List.all_eq_true]
  intro t ht
  obtain ⟨d, _, rfl⟩ := List.mem_map.mp ht
  rfl
theorem callM_l {ds : List D} (hj : μ[j]? = some (M3 a b c)) (hrf : refsOf rf ts = []) (ha : argsIn (if live then hide μ [j] else μ) live rf ts 1 = some us) (hg : g (.m 0 :: us) [M3 a b c] = some (.ok (.m 1) [M3 a' b' c', .lst (ds.map (T.v true))])) :
    callD g live (true :: rf) (.m j :: ts) μ = some (.ok (.m μ.length) (μ.set j (M3 a' b' c') ++ [.lst (ds.map (T.v true))])) := by
  rw [callM hj hrf ha, hg]
  have e : (!live || ((T.m 1).news && List.all [M3 a' b' c', .lst (ds.map (T.v true))] Cell.news)) = true := by
    have : List.all [M3 a' b' c', Cell.lst (ds.map (T.v true))] Cell.news = true := by
      show (true && ((ds.map (T.v true)).all T.news && true)) = true
      rw [news_all]
      rfl
    rw [this]
    simp [T.news]
  have e2 : (ds.map (T.v true)).map (ren [j] μ.length) = ds.map (T.v true) := by
    rw [List.map_map]
    rfl
  refine (if_pos e).trans ?_
  show some (Rs.ok (T.m (μ.length + 0)) (setAll μ [j] [M3 a' b' c'] ++ [Cell.lst ((ds.map (T.v true)).map (ren [j] μ.length))])) = _
  rw [setAll1, e2]
  rfl
variable {Γ : Gam} {da : Da} {i : Nat}
theorem dCallM {r : Ot T} (hi : Γ[i]? = some (some (.m j))) (hd : da Γ μ = some (.ok ts μ)) (hn : ts.length + 1 = n) (e : callD g live (true :: rf) (.m j :: ts) μ = r) : dCall g n live (true :: rf) (aCons (dVar i) da) Γ μ = r := by
  unfold dCall
  rw [ev_cons (ev_var hi) hd]
  have hn' : (T.m j :: ts).length = n := hn
  exact (if_pos hn').trans e
theorem all_set {k : Nat} {x : Cell} (h : μ.all (Cell.low k) = true) (hx : x.low k = true) : (μ.set j x).all (Cell.low k) = true := by
  rw [List.all_eq_true] at h ⊢
  intro y hy
  rcases List.mem_or_eq_of_mem_set hy with hy | rfl
  · exact h y hy
  · exact hx
theorem m3_low {k : Nat} : (M3 a b c).low k = true := rfl
theorem frzM_v {ge : De} {f : Bool} {d : D} (h : ge Γ μ = some (.ok (.v f d) (μ.set j (M3 a' b' c')))) (hl : μ.all (Cell.low μ.length) = true) : dFrz m0 ge Γ μ = some (.ok (.v f d) (μ.set j (M3 a' b' c'))) := by
  have e : (μ.set j (M3 a' b' c')).take μ.length = μ.set j (M3 a' b' c') := List.take_of_length_le (by rw [List.length_set]; exact Nat.le_refl _)
  unfold dFrz
  rw [h]
  show Vt.ot (if ((μ.set j (M3 a' b' c')).take μ.length).all (Cell.low μ.length) = true then some (T.v f d, (μ.set j (M3 a' b' c')).take μ.length) else none) = _
  rw [e, if_pos (all_set hl m3_low)]
  rfl
theorem frzM_l {ge : De} {ds : List D} (h : ge Γ μ = some (.ok (.m μ.length) (μ.set j (M3 a' b' c') ++ [.lst (ds.map (T.v true))]))) (hm : m0 ≤ μ.length) (hl : μ.all (Cell.low μ.length) = true) : dFrz m0 ge Γ μ = some (.ok (.v true (.lst ds)) (μ.set j (M3 a' b' c'))) := by
  have e0 : (μ.set j (M3 a' b' c')).length = μ.length := List.length_set ..
  have e : (μ.set j (M3 a' b' c') ++ [Cell.lst (ds.map (T.v true))]).take μ.length = μ.set j (M3 a' b' c') := by rw [← e0, List.take_left]
  have e1 : (μ.set j (M3 a' b' c') ++ [Cell.lst (ds.map (T.v true))])[μ.length]? = some (.lst (ds.map (T.v true))) := by rw [← e0]; simp
  unfold dFrz
  rw [h]
  show (frzV μ.length m0 (.m μ.length) (μ.set j (M3 a' b' c') ++ [Cell.lst (ds.map (T.v true))])).ot = _
  unfold frzV
  simp only [e1, pack_vs, e]
  rw [if_pos ⟨hm, Nat.le_refl _, all_set hl m3_low⟩]
  rfl
end
section
variable {Γ : Gam} {μ μ1 μ2 μ3 μ4 : Mu} {go gi ge : De} {o i t : T}
theorem st_put (he : ge Γ μ = some (.ok t μ1)) (ho : go Γ μ1 = some (.ok o μ2)) (hi : gi Γ μ2 = some (.ok i μ3)) (e : putIxV μ3 o i t = some μ4) : sPutD go gi ge Γ μ = some (.nx Γ μ4) := by
  unfold sPutD
  rw [he]
  show Ot.bindS (go Γ μ1) Γ _ = _
  rw [ho]
  show Ot.bindS (gi Γ μ2) Γ _ = _
  rw [hi]
  show (match putIxV μ3 o i t with | some μ4 => some (Eo.nx Γ μ4) | none => none) = _
  rw [e]
theorem pow_ev {i : Int} {n : Nat} (h : (bitsI i + 1) * n ≤ 100000000) : L3.binI .Pow i (n : Nat) = some (i ^ n) := by
  show (if 0 ≤ ((n : Nat) : Int) ∧ (bitsI i + 1) * ((n : Nat) : Int).toNat ≤ 100000000 then some (i ^ ((n : Nat) : Int).toNat) else none) = _
  rw [Int.toNat_natCast, if_pos ⟨Int.natCast_nonneg _, h⟩]
/-- (x, y) = .. -/
theorem st_par {i j : Nat} {da : Da} {t u : T} (h : da Γ μ = some (.ok [t, u] μ1)) : sPar i j da Γ μ = some (.nx ((Γ.set i (some t)).set j (some u)) μ1) := by
  unfold sPar
  rw [h]
  rfl
theorem st_par3 {i j l : Nat} {da : Da} {t u v : T} (h : da Γ μ = some (.ok [t, u, v] μ1)) : sPar3 i j l da Γ μ = some (.nx (((Γ.set i (some t)).set j (some u)).set l (some v)) μ1) := by
  unfold sPar3
  rw [h]
  rfl
end
end L3
namespace L3
open PySem PySem.Spec PyProof.Rows L2
/-! lists whose items stand still, whatever their flags -/
theorem pack_len : ∀ {ts : List T} {q : Bool} {ds : List D}, pack ts = some (q, ds) → ts.length = ds.length
  | [], _, _, h => by cases h; rfl
  | .m _ :: _, _, _, h => by cases h
  | .v g d :: ts, q, ds, h => by
    unfold pack at h
    match hp : pack ts, h with
    | some (p', ds'), h =>
      cases h
      rw [List.length_cons, List.length_cons, pack_len hp]
theorem pack_get : ∀ {ts : List T} {q : Bool} {ds : List D} {i : Nat} {d : D}, pack ts = some (q, ds) → ds[i]? = some d → ∃ p, ts[i]? = some (.v p d)
  | [], _, _, _, _, h, e => by cases h; simp at e
  | .m _ :: _, _, _, _, _, h, _ => by cases h
  | .v g d0 :: ts, q, ds, i, d, h, e => by
    unfold pack at h
    match hp : pack ts, h with
    | some (p', ds'), h =>
      cases h
      cases i with
      | zero => simp at e; subst e; exact ⟨g, rfl⟩
      | succ i =>
        obtain ⟨p, hq⟩ := pack_get (i := i) hp (by simpa using e)
        exact ⟨p, by simpa using hq⟩
theorem pack_ren {js : List Nat} {b : Nat} : ∀ {ts : List T} {q : Bool} {ds : List D}, pack ts = some (q, ds) → ts.map (ren js b) = ts
  | [], _, _, _ => rfl
  | .m _ :: _, _, _, h => by cases h
  | .v g d :: ts, q, ds, h => by
    unfold pack at h
    match hp : pack ts, h with
    | some (p', ds'), h =>
      rw [List.map_cons, pack_ren hp]
      rfl
theorem pack_low {k : Nat} : ∀ {ts : List T} {q : Bool} {ds : List D}, pack ts = some (q, ds) → ts.all (T.low k) = true
  | [], _, _, _ => rfl
  | .m _ :: _, _, _, h => by cases h
  | .v g d :: ts, q, ds, h => by
    unfold pack at h
    match hp : pack ts, h with
    | some (p', ds'), h =>
      rw [List.all_cons, pack_low hp]
      rfl
section
variable {g : List T → Mu → Ot T} {rf : List Bool} {ts us xs : List T} {μ : Mu} {j n m0 : Nat} {a b c a' b' c' : Int} {q : Bool} {ds : List D}
theorem callM_p (hj : μ[j]? = some (M3 a b c)) (hrf : refsOf rf ts = []) (ha : argsIn μ false rf ts 1 = some us) (hg : g (.m 0 :: us) [M3 a b c] = some (.ok (.m 1) [M3 a' b' c', .lst xs])) (hp : pack xs = some (q, ds)) :
    callD g false (true :: rf) (.m j :: ts) μ = some (.ok (.m μ.length) (μ.set j (M3 a' b' c') ++ [.lst xs])) := by
  rw [callM (live := false) hj hrf ha, hg]
  show some (Rs.ok (T.m (μ.length + 0)) (setAll μ [j] [M3 a' b' c'] ++ [Cell.lst (xs.map (ren [j] μ.length))])) = _
  rw [setAll1, pack_ren hp]
  rfl
theorem frzM_p {Γ : Gam} {ge : De} (h : ge Γ μ = some (.ok (.m μ.length) (μ.set j (M3 a' b' c') ++ [.lst xs]))) (hp : pack xs = some (q, ds)) (hm : m0 ≤ μ.length) (hl : μ.all (Cell.low μ.length) = true) : dFrz m0 ge Γ μ = some (.ok (.v q (.lst ds)) (μ.set j (M3 a' b' c'))) := by
  have e0 : (μ.set j (M3 a' b' c')).length = μ.length := List.length_set ..
  have e : (μ.set j (M3 a' b' c') ++ [Cell.lst xs]).take μ.length = μ.set j (M3 a' b' c') := by rw [← e0, List.take_left]
  have e1 : (μ.set j (M3 a' b' c') ++ [Cell.lst xs])[μ.length]? = some (.lst xs) := by rw [← e0]; simp
  unfold dFrz
  rw [h]
  show (frzV μ.length m0 (.m μ.length) (μ.set j (M3 a' b' c') ++ [Cell.lst xs])).ot = _
  unfold frzV
  simp only [e1, hp, e]
  rw [if_pos ⟨hm, Nat.le_refl _, all_set hl m3_low⟩]
  rfl
end
section
variable {Γ : Gam} {μ μ1 : Mu} {ga : De} {f : Bool}
theorem ev_lenS {ns : List Int} (ha : ga Γ μ = some (.ok (.v f (.scr ns)) μ1)) : dBi lenV (aCons ga aNil) Γ μ = some (.ok (intT ns.length) μ1) := by
  have := ev_len ha (fun _ _ h => by cases h) (items_scr μ1 f ns)
  rwa [List.length_map] at this
theorem ev_lenM {j : Nat} {ts : List T} (ha : ga Γ μ = some (.ok (.m j) μ1)) (hj : μ1[j]? = some (.lst ts)) : dBi lenV (aCons ga aNil) Γ μ = some (.ok (intT ts.length) μ1) := ev_len ha notStr_m (items_m hj)
end
theorem ret_m1 {c0 c1 : Cell} (h0 : c0.low 1 = true) (h1 : c1.low 1 = true) : retD 1 (some (.rt (.m 1) [c0, c1])) = some (.ok (.m 1) [c0, c1]) := by simp [retD, retV, T.low, h0, h1]
theorem dCallG {g : List T → Mu → Ot T} {live : Bool} {rf : List Bool} {n : Nat} {da : Da} {Γ : Gam} {μ μ1 : Mu} {ts : List T} {r : Ot T} (hd : da Γ μ = some (.ok ts μ1)) (hn : ts.length = n) (e : callD g live rf ts μ1 = r) : dCall g n live rf da Γ μ = r := by
  unfold dCall
  rw [hd]
  exact (if_pos hn).trans e
end L3

set_option Elab.async false
set_option linter.all false
set_option maxRecDepth 100000
set_option maxHeartbeats 4000000
/-! L3: plain data: none, truth values, whole numbers that are not too great, lists and tuples of these. -/
namespace L3
open PySem PySem.Spec PyProof.Rows L2
mutual
def D.plain : D → Bool
  | .non => true
  | .bl _ => true
  | .int i => decide (i.natAbs < 10 ^ 40)
  | .lst xs => D.plains xs
  | .tup xs => D.plains xs
  | _ => false
def D.plains : List D → Bool
  | [] => true
  | x :: xs => D.plain x && D.plains xs
end
mutual
def D.pyd : D → PyData
  | .non => .none
  | .bl b => .bool b
  | .int i => .int i
  | .lst xs => .list (D.pyds xs)
  | .tup xs => .tuple (D.pyds xs)
  | _ => .none
def D.pyds : List D → List PyData
  | [] => []
  | x :: xs => D.pyd x :: D.pyds xs
end
mutual
/-- how many items in all -/
def D.many : D → Nat
  | .lst xs => D.manys xs
  | .tup xs => D.manys xs
  | _ => 0
def D.manys : List D → Nat
  | [] => 0
  | x :: xs => D.many x + 1 + D.manys xs
end
mutual
def D.dep : D → Nat
  | .lst xs => D.deps xs + 1
  | .tup xs => D.deps xs + 1
  | _ => 0
def D.deps : List D → Nat
  | [] => 0
  | x :: xs => max (D.dep x) (D.deps xs)
end
mutual
theorem py_plain : ∀ d : D, d.plain = true → d.py = some d.pyd
  | .non, _ => by simp [D.py, D.pyd]
  | .bl _, _ => by simp [D.py, D.pyd]
  | .int _, _ => by simp [D.py, D.pyd]
  | .lst xs, h => by
    simp only [D.plain] at h
    simp only [D.py, D.pyd, pys_plain xs h]
  | .tup xs, h => by
    simp only [D.plain] at h
    simp only [D.py, D.pyd, pys_plain xs h]
  | .str _, h => by simp [D.plain] at h
  | .obj _ _, h => by simp [D.plain] at h
  | .dT _ _, h => by simp [D.plain] at h
  | .scr _, h => by simp [D.plain] at h
theorem pys_plain : ∀ ds : List D, D.plains ds = true → D.pys ds = some (D.pyds ds)
  | [], _ => by simp [D.pys, D.pyds]
  | d :: ds, h => by
    simp only [D.plains, Bool.and_eq_true_iff] at h
    simp only [D.pys, D.pyds, py_plain d h.1, pys_plain ds h.2]
end
mutual
theorem lay_plain : ∀ d : D, d.plain = true → d.pyd.canLay0 = true
  | .non, _ => by simp [D.pyd, PyData.canLay0]
  | .bl _, _ => by simp [D.pyd, PyData.canLay0]
  | .int _, _ => by simp [D.pyd, PyData.canLay0]
  | .lst xs, h => by
    simp only [D.plain] at h
    simp only [D.pyd, PyData.canLay0, lays_plain xs h]
  | .tup xs, h => by
    simp only [D.plain] at h
    simp only [D.pyd, PyData.canLay0, lays_plain xs h]
  | .str _, h => by simp [D.plain] at h
  | .obj _ _, h => by simp [D.plain] at h
  | .dT _ _, h => by simp [D.plain] at h
  | .scr _, h => by simp [D.plain] at h
theorem lays_plain : ∀ ds : List D, D.plains ds = true → PyData.canLayAll0 (D.pyds ds) = true
  | [], _ => by simp [D.pyds, PyData.canLayAll0]
  | d :: ds, h => by
    simp only [D.plains, Bool.and_eq_true_iff] at h
    simp only [D.pyds, PyData.canLayAll0, lay_plain d h.1, lays_plain ds h.2, Bool.and_self]
end
mutual
theorem dep_plain : ∀ d : D, d.plain = true → d.pyd.depth = d.dep
  | .non, _ => by simp [D.pyd, PyData.depth, D.dep]
  | .bl _, _ => by simp [D.pyd, PyData.depth, D.dep]
  | .int _, _ => by simp [D.pyd, PyData.depth, D.dep]
  | .lst xs, h => by
    simp only [D.plain] at h
    simp only [D.pyd, PyData.depth, D.dep, deps_plain xs h]
  | .tup xs, h => by
    simp only [D.plain] at h
    simp only [D.pyd, PyData.depth, D.dep, deps_plain xs h]
  | .str _, h => by simp [D.plain] at h
  | .obj _ _, h => by simp [D.plain] at h
  | .dT _ _, h => by simp [D.plain] at h
  | .scr _, h => by simp [D.plain] at h
theorem deps_plain : ∀ ds : List D, D.plains ds = true → PyData.depthAll (D.pyds ds) = D.deps ds
  | [], _ => by simp [D.pyds, PyData.depthAll, D.deps]
  | d :: ds, h => by
    simp only [D.plains, Bool.and_eq_true_iff] at h
    simp only [D.pyds, PyData.depthAll, D.deps, dep_plain d h.1, deps_plain ds h.2]
end
mutual
theorem many_plain : ∀ d : D, d.plain = true → d.pyd.bulk = d.many
  | .non, _ => by simp [D.pyd, PyData.bulk, D.many]
  | .bl _, _ => by simp [D.pyd, PyData.bulk, D.many]
  | .int _, _ => by simp [D.pyd, PyData.bulk, D.many]
  | .lst xs, h => by
    simp only [D.plain] at h
    simp only [D.pyd, PyData.bulk, D.many, manys_plain xs h]
  | .tup xs, h => by
    simp only [D.plain] at h
    simp only [D.pyd, PyData.bulk, D.many, manys_plain xs h]
  | .str _, h => by simp [D.plain] at h
  | .obj _ _, h => by simp [D.plain] at h
  | .dT _ _, h => by simp [D.plain] at h
  | .scr _, h => by simp [D.plain] at h
theorem manys_plain : ∀ ds : List D, D.plains ds = true → PyData.bulkAll (D.pyds ds) = D.manys ds
  | [], _ => by simp [D.pyds, PyData.bulkAll, D.manys]
  | d :: ds, h => by
    simp only [D.plains, Bool.and_eq_true_iff] at h
    simp only [D.pyds, PyData.bulkAll, D.manys, many_plain d h.1, manys_plain ds h.2]
end
theorem int_shown {i : Int} (h : i.natAbs < 10 ^ 40) : (PyData.shown (.int i)).length ≤ 41 := by
  have e := int_text_length_le10 (k := 40) (by decide) h
  show (Str.ofString (toString i)).length ≤ 41
  rw [PySem.ofString_length]
  exact e
mutual
theorem short_plain : ∀ d : D, d.plain = true → d.pyd.intsShort 41 = true
  | .non, _ => by simp [D.pyd, PyData.intsShort]
  | .bl _, _ => by simp [D.pyd, PyData.intsShort]
  | .int _, h => by
    simp only [D.plain, decide_eq_true_eq] at h
    simp only [D.pyd, PyData.intsShort, decide_eq_true_eq]
    exact int_shown h
  | .lst xs, h => by
    simp only [D.plain] at h
    simp only [D.pyd, PyData.intsShort, shorts_plain xs h]
  | .tup xs, h => by
    simp only [D.plain] at h
    simp only [D.pyd, PyData.intsShort, shorts_plain xs h]
  | .str _, h => by simp [D.plain] at h
  | .obj _ _, h => by simp [D.plain] at h
  | .dT _ _, h => by simp [D.plain] at h
  | .scr _, h => by simp [D.plain] at h
theorem shorts_plain : ∀ ds : List D, D.plains ds = true → PyData.intsShortAll 41 (D.pyds ds) = true
  | [], _ => by simp [D.pyds, PyData.intsShortAll]
  | d :: ds, h => by
    simp only [D.plains, Bool.and_eq_true_iff] at h
    simp only [D.pyds, PyData.intsShortAll, short_plain d h.1, shorts_plain ds h.2, Bool.and_self]
end
theorem log_small {n : Nat} (h : n < 10 ^ 40) : n.log2 < 1920 := by
  have h1 := log2_le (Nat.le_of_lt h)
  have h2 : Nat.log2 (10 ^ 40) < 1920 := by decide +kernel
  omega
mutual
theorem showable_plain : ∀ d : D, d.plain = true → d.pyd.showable = true
  | .non, _ => by simp [D.pyd, PyData.showable]
  | .bl _, _ => by simp [D.pyd, PyData.showable]
  | .int _, h => by
    simp only [D.plain, decide_eq_true_eq] at h
    simp only [D.pyd, PyData.showable, decide_eq_true_eq]
    exact log_small h
  | .lst xs, h => by
    simp only [D.plain] at h
    simp only [D.pyd, PyData.showable, showables_plain xs h]
  | .tup xs, h => by
    simp only [D.plain] at h
    simp only [D.pyd, PyData.showable, showables_plain xs h]
  | .str _, h => by simp [D.plain] at h
  | .obj _ _, h => by simp [D.plain] at h
  | .dT _ _, h => by simp [D.plain] at h
  | .scr _, h => by simp [D.plain] at h
theorem showables_plain : ∀ ds : List D, D.plains ds = true → PyData.showableAll (D.pyds ds) = true
  | [], _ => by simp [D.pyds, PyData.showableAll]
  | d :: ds, h => by
    simp only [D.plains, Bool.and_eq_true_iff] at h
    simp only [D.pyds, PyData.showableAll, showable_plain d h.1, showables_plain ds h.2, Bool.and_self]
end
theorem shape_plain {d : D} (h : d.plain = true) (hd : d.dep ≤ 64) : SeqAt.shaped d.pyd = true := by
  have := dep_plain d h
  simp [SeqAt.shaped, lay_plain d h, this, hd]
/-- the text of plain data -/
def reprZ (d : D) : Str := (reprS d.pyd).getD Str.empty
theorem repr_plain {d : D} (h : d.plain = true) (hd : d.dep ≤ 64) (hm : d.many ≤ 390000) (hi : ∀ i, d ≠ .int i) : reprS d.pyd = some (reprZ d) := by
  have hz : (PyData.shown d.pyd).length ≤ sizeLine := by
    have := PyData.shown_le_bulk 41 (by decide) d.pyd (PyData.leavesShort_of_canLay0 41 _ (lay_plain d h) (short_plain d h))
    rw [many_plain d h] at this
    rw [sizeLine_eq]
    omega
  have hs := showable_plain d h
  have hdd := dep_plain d h
  unfold reprZ
  cases d with
  | non => rfl
  | bl b => rfl
  | int i => exact absurd rfl (hi i)
  | lst xs =>
    simp only [D.pyd] at hz hs hdd ⊢
    have e : reprS (.list (D.pyds xs)) = some (PyData.shown (.list (D.pyds xs))) := if_pos ⟨hs, by rw [hdd]; exact hd, hz⟩
    rw [e]
    rfl
  | tup xs =>
    simp only [D.pyd] at hz hs hdd ⊢
    have e : reprS (.tuple (D.pyds xs)) = some (PyData.shown (.tuple (D.pyds xs))) := if_pos ⟨hs, by rw [hdd]; exact hd, hz⟩
    rw [e]
    rfl
  | str _ => simp [D.plain] at h
  | obj _ _ => simp [D.plain] at h
  | dT _ _ => simp [D.plain] at h
  | scr _ => simp [D.plain] at h
section
variable {Γ : Gam} {μ μ1 : Mu} {ge : De} {t : T} {d : D}
theorem ev_repr (he : ge Γ μ = some (.ok t μ1)) (hd : deep DEEP μ1 t = some d) (h : d.plain = true) (h1 : d.dep ≤ 64) (h2 : d.many ≤ 390000) (hi : ∀ i, d ≠ .int i) : dBi reprV (aCons ge aNil) Γ μ = some (.ok (.v true (.str (reprZ d))) μ1) :=
  ev_bi (ev_cons he ev_nil) (repr_ev hd (py_plain d h) (repr_plain h h1 h2 hi))
theorem deep_v {n : Nat} {f : Bool} {d : D} : deep n μ (.v f d) = some d := by cases n <;> (unfold deep; rfl)
theorem mapM_pack {n : Nat} : ∀ {ts : List T} {q : Bool} {ds : List D}, pack ts = some (q, ds) → ts.mapM (deep n μ) = some ds
  | [], _, _, h => by cases h; rfl
  | .m _ :: _, _, _, h => by cases h
  | .v g d :: ts, q, ds, h => by
    unfold pack at h
    match hp : pack ts, h with
    | some (p', ds'), h =>
      cases h
      rw [List.mapM_cons, deep_v, mapM_pack hp]
      rfl
theorem deep_m {j : Nat} {ts : List T} {q : Bool} {ds : List D} (hj : μ[j]? = some (.lst ts)) (hp : pack ts = some (q, ds)) : deep DEEP μ (.m j) = some (.lst ds) := by
  show deep 6 μ (.m j) = _
  unfold deep
  simp only [hj, mapM_pack hp]
/-- is it empty -/
theorem eqD_nil {xs : List D} (h : D.plains xs = true) (hd : D.deps xs ≤ 60) : eqD (.lst xs) (.lst []) = some xs.isEmpty := by
  have hp : (D.lst xs).plain = true := by simp only [D.plain]; exact h
  have h1 := py_plain (.lst xs) hp
  have h2 : D.py (.lst []) = some (.list []) := by simp [D.py, D.pys]
  have s1 := shape_plain hp (by simp only [D.dep]; omega)
  have s2 : SeqAt.shaped (.list []) = true := by simp [SeqAt.shaped, PyData.canLay0, PyData.canLayAll0, PyData.depth, PyData.depthAll]
  unfold eqD
  simp only [h1, h2, s1, s2, Bool.and_self, if_true]
  cases xs with
  | nil => simp [D.pyd, D.pyds, PyData.eqv, PyData.eqvAll]
  | cons x xs => simp [D.pyd, D.pyds, PyData.eqv, PyData.eqvAll]
theorem ne_nilL {xs : List D} {f g : Bool} (h : D.plains xs = true) (hd : D.deps xs ≤ 60) : cmpV .NotEq μ (.v f (.lst xs)) (.v g (.lst [])) = some (!xs.isEmpty) := by
  show (L3.eqT μ (.v f (.lst xs)) (.v g (.lst []))).map (!·) = _
  have e : L3.eqT μ (.v f (.lst xs)) (.v g (.lst [])) = eqD (.lst xs) (.lst []) := by
    show (match deep DEEP μ (.v f (.lst xs)), deep DEEP μ (.v g (.lst [])) with | some x, some y => eqD x y | _, _ => none) = _
    rw [deep_v, deep_v]
  rw [e, eqD_nil h hd]
  rfl
theorem eq_nilL {xs : List D} {f g : Bool} (h : D.plains xs = true) (hd : D.deps xs ≤ 60) : cmpV .Eq μ (.v f (.lst xs)) (.v g (.lst [])) = some xs.isEmpty := by
  show L3.eqT μ (.v f (.lst xs)) (.v g (.lst [])) = _
  have e : L3.eqT μ (.v f (.lst xs)) (.v g (.lst [])) = eqD (.lst xs) (.lst []) := by
    show (match deep DEEP μ (.v f (.lst xs)), deep DEEP μ (.v g (.lst [])) with | some x, some y => eqD x y | _, _ => none) = _
    rw [deep_v, deep_v]
  rw [e, eqD_nil h hd]
theorem ne_nilM {j : Nat} {ts : List T} {q : Bool} {xs : List D} {g : Bool} (hj : μ[j]? = some (.lst ts)) (hp : pack ts = some (q, xs)) (h : D.plains xs = true) (hd : D.deps xs ≤ 60) : cmpV .NotEq μ (.m j) (.v g (.lst [])) = some (!xs.isEmpty) := by
  show (L3.eqT μ (.m j) (.v g (.lst []))).map (!·) = _
  have e : L3.eqT μ (.m j) (.v g (.lst [])) = eqD (.lst xs) (.lst []) := by
    show (match deep DEEP μ (.m j), deep DEEP μ (.v g (.lst [])) with | some x, some y => eqD x y | _, _ => none) = _
    rw [deep_m hj hp, deep_v]
  rw [e, eqD_nil h hd]
  rfl
end
/-! plain lists, by their items -/
theorem plains_of : ∀ {xs : List D}, (∀ x ∈ xs, x.plain = true) → D.plains xs = true
  | [], _ => by simp [D.plains]
  | x :: xs, h => by
    simp only [D.plains, Bool.and_eq_true_iff]
    exact ⟨h x List.mem_cons_self, plains_of fun y hy => h y (List.mem_cons_of_mem _ hy)⟩
theorem deps_of {n : Nat} : ∀ {xs : List D}, (∀ x ∈ xs, x.dep ≤ n) → D.deps xs ≤ n
  | [], _ => by simp [D.deps]
  | x :: xs, h => by
    simp only [D.deps]
    exact Nat.max_le.mpr ⟨h x List.mem_cons_self, deps_of fun y hy => h y (List.mem_cons_of_mem _ hy)⟩
theorem manys_of {n : Nat} : ∀ {xs : List D}, (∀ x ∈ xs, x.many ≤ n) → D.manys xs ≤ xs.length * (n + 1)
  | [], _ => by simp [D.manys]
  | x :: xs, h => by
    simp only [D.manys, List.length_cons]
    have h1 := h x List.mem_cons_self
    have h2 := manys_of fun y hy => h y (List.mem_cons_of_mem _ hy)
    have := Nat.add_mul xs.length 1 (n + 1)
    omega
end L3

set_option Elab.async false
set_option linter.all false
set_option maxRecDepth 100000
set_option maxHeartbeats 4000000
/-! L3: own operators of two objects; lists of own objects, all equal. -/
namespace L3
open PySem PySem.Spec PyProof.Rows L2
section
variable {X : Cx} {Z : Ent} {W : Wish} {k : Nat} {f C : Addr} {fd : FuncData} {ps : List Str} {g : List T → Mu → Ot T} {ga gb : De} {a b : Expr} {pos : Pos}
/-- an own operator: what comes is an object, or an exception -/
def bOwn (g : List T → Mu → Ot T) (c : Nat) (live : Bool) (μ : Mu) (tx ty : T) : Ot T := match objOf μ tx, objOf μ ty with
  | some (c1, _), some (c2, _) => if c1 = c ∧ c2 = c then match callD g live [false, false] [tx, ty] μ with
    | some (.ok (.v fl (.obj c3 ds)) μ') => some (.ok (.v fl (.obj c3 ds)) μ')
    | some (.exc e t μ') => some (.exc e t μ')
    | _ => none
    else none
  | _, _ => none
def dBOwn (g : List T → Mu → Ot T) (c : Nat) (live : Bool) (ga gb : De) : De := fun Γ μ => Ot.bind (ga Γ μ) fun ta μ1 => Ot.bind (gb Γ μ1) fun tb μ2 => bOwn g c live μ2 ta tb
theorem run_bOwn {live : Bool} {c : Nat} {names : List Str} {op : Operator} {pins : List (Addr × Obj)} {σ : L2.St} {H : Hp} {s : Shared} {Q : VK} {x y : V} {u v : Value} {q : Pt} {μ : Mu} {tx ty : T} (B : Be X Z W k) (hC : Z.TB.cls c = some (C, names))
    (F : FnG X.prog X.w X.K X.mg X.base k f fd ps (spD X.K Z.TB g 2)) {nm : Str} (hn : PySem.dunder op.info.2 = nm) (hs : PySem.W.findIn X.K (.ref C) nm = some (some (.ref f))) (hf : PySem.W.isFn X.K (.ref f) = true) (hsf : PySem.W.selfFirst X.K C = true)
    (hb : Binds X.K fd ps []) (hps : ps.length = 2) (I : Inv X pins σ H s) (rx : RelV x u) (ry : RelV y v) (sr : SR Z q H μ) (rtx : RT Z q x tx) (rty : RT Z q y ty) (po : Post Z W σ Q q (bOwn g c live μ tx ty)) :
    wpAny (model X.prog X.w) X.A (binaryOp op u v) (EP X pins σ Q) X.xe s := by
  subst hn
  unfold bOwn at po
  cases h1 : objOf μ tx with
  | none => rw [h1] at po; exact po.elim
  | some o1 =>
  cases h2 : objOf μ ty with
  | none => rw [h1, h2] at po; exact po.elim
  | some o2 =>
  obtain ⟨c1, ts1⟩ := o1
  obtain ⟨c2, ts2⟩ := o2
  rw [h1, h2] at po
  simp only at po
  by_cases hcc : c1 = c ∧ c2 = c
  case neg => rw [if_neg hcc] at po; exact po.elim
  rw [if_pos hcc] at po
  obtain ⟨rfl, rfl⟩ := hcc
  obtain ⟨a, C', dx, fs, names', rfl, ha, hc', _, _⟩ := obj_ok sr rtx h1
  rw [hC] at hc'
  cases hc'
  obtain ⟨b, C', dy, gs, names', rfl, hb', hc', _, _⟩ := obj_ok sr rty h2
  rw [hC] at hc'
  cases hc'
  cases rx
  cases ry
  obtain ⟨mA, J, _⟩ := ins_get I.hok ha
  obtain ⟨mB, J', _⟩ := ins_get I.hok hb'
  obtain ⟨od, J, _⟩ := J.look
  obtain ⟨od', J', _⟩ := J'.look
  obtain ⟨m, hF⟩ := I.fr
  have hbb := hb s [.ref a, .ref b] I.kIn (by rw [hps]; rfl)
  have run := run_call (live := live) (rf := [false, false]) (ts := [tx, ty]) (us' := [.ref a, .ref b]) (kw := []) (us := [.ref a, .ref b]) (vs := [V.ref a, V.ref b]) (Q := fun v H' => (∃ a, v = .ref a) ∧ Q v H') (n := 2) B F hbb I (.cons rfl (.cons rfl .nil)) sr (.cons rtx (.cons rty .nil)) (by
    rw [if_pos (show [tx, ty].length = 2 from rfl)]
    cases hg : callD g live [false, false] [tx, ty] μ with
    | none => rw [hg] at po; exact po.elim
    | some rr =>
      rw [hg] at po
      cases rr with
      | exc _ _ _ => exact po
      | ok t μ' =>
        cases t with
        | m _ => exact po.elim
        | v fl d =>
          cases d with
          | obj c3 ds =>
            intro v H' r hl hs' hr
            obtain ⟨a', _, _, _, _, e, _⟩ := obj_ok hs' hr (show objOf μ' (.v fl (.obj c3 ds)) = some (c3, _) from rfl)
            exact ⟨⟨a', e⟩, po v H' r hl hs' hr⟩
          | _ => exact po.elim)
  refine PySem.W.binop_K hF I.ok.mod.kin J J'.type hsf hs hf (wpAny_mono run (fun u' s' hq => ?_) fun _ _ e => e)
  obtain ⟨v', H', I', rv, ⟨a', e⟩, qq⟩ := hq
  subst e
  cases rv
  exact ⟨.ref a', H', I', rfl, qq⟩
theorem xe_bOwn (live : Bool) {c : Nat} {names : List Str} {op : Operator} (B : Be X Z W k) (hC : Z.TB.cls c = some (C, names)) (F : FnG X.prog X.w X.K X.mg X.base k f fd ps (spD X.K Z.TB g 2)) {nm : Str} (hn : PySem.dunder op.info.2 = nm) (hs : PySem.W.findIn X.K (.ref C) nm = some (some (.ref f)))
    (hf : PySem.W.isFn X.K (.ref f) = true) (hsf : PySem.W.selfFirst X.K C = true) (hbd : Binds X.K fd ps []) (hps : ps.length = 2) (ha : PE X a (tD Z W ga)) (hb : PE X b (tD Z W gb)) :
    PE X (.BinOp a op b pos) (tD Z W (dBOwn g c live ga gb)) := by
  refine ⟨fun pins s σ H Q I h => ?_⟩
  obtain ⟨p0, μ, Γ, s0, e0, h⟩ := h
  refine wpAny_BinOp (thn (ha.run pins s σ H _ I (tD_bind s0 e0 h)) fun u s1 ⟨x, H1, I1, rx, q1, μ1, t1, l1, s1', e1, rt1, po⟩ => ?_)
  refine thn (hb.run pins s1 σ H1 _ I1 (tD_bind s1' e1 po)) fun v s2 ⟨y, H2, I2, ry, q2, μ2, t2, l2, s2', e2, rt2, po2⟩ => ?_
  exact run_bOwn B hC F hn hs hf hsf hbd hps I2 rx ry s2' (rt1.mono l2) rt2 po2
/-! lists of own objects -/
def lstOf (μ : Mu) : T → Option (List T)
  | .v f (.lst ds) => some (ds.map (mkT f))
  | .m j => match μ[j]? with
    | some (.lst ts) => some ts
    | _ => none
  | _ => none
theorem lst_ok {p : Pt} {μ : Mu} {H : Hp} {t : T} {v : V} {ts : List T} (s : SR Z p H μ) (h : RT Z p v t) (e : lstOf μ t = some ts) : ∃ a vs, v = .ref a ∧ H a = some (.lst vs) ∧ RTs Z p vs ts := by
  match t, h, e with
  | .v f d, h, e =>
    have up : Same (if f then p.N else p.F) H := by
      cases f
      · exact s.sub
      · exact s.nin.trans s.sub
    have h : Dx Z.K Z.TB (if f then p.N else p.F) v d := by
      cases f
      · exact h
      · exact h
    cases h with
    | lst hs ha =>
      cases e
      exact ⟨_, _, rfl, up _ _ hs, RTs.of_all ha⟩
    | _ => cases e
  | .m j, ⟨a, hj, hv⟩, e =>
    subst hv
    simp only [lstOf] at e
    cases hc : μ[j]? with
    | none => rw [hc] at e; cases e
    | some c =>
      rw [hc] at e
      cases c with
      | lst ts' =>
        cases e
        obtain ⟨vs, h1, h2⟩ := s.cell j a _ hj hc
        exact ⟨a, vs, rfl, h1, h2⟩
      | _ => cases e
/-- two own objects are equal -/
def EqYes (g : List T → Mu → Ot T) (c : Nat) (μ : Mu) (tx ty : T) : Prop := ∃ fl, eqOwn g c false μ tx ty = some (.ok (.v fl (.bl true)) μ)
open Classical in
noncomputable def eqLst (g : List T → Mu → Ot T) (c : Nat) (μ : Mu) (tx ty : T) : Ot T := match lstOf μ tx, lstOf μ ty with
  | some xs, some ys => if xs.length = ys.length ∧ ∀ (i : Nat) (x y : T), xs[i]? = some x → ys[i]? = some y → EqYes g c μ x y then some (.ok (.v true (.bl true)) μ) else none
  | _, _ => none
theorem run_yes {c : Nat} {names : List Str} {pins : List (Addr × Obj)} {σ : L2.St} {H : Hp} {s : Shared} {x y : V} {u v : Value} {q : Pt} {μ : Mu} {tx ty : T} (B : Be X Z W (k + 1)) (hC : Z.TB.cls c = some (C, names)) (F : FnG X.prog X.w X.K X.mg X.base k f fd ps (spD X.K Z.TB g 2))
    (hs : PySem.W.findIn X.K (.ref C) "__eq__" = some (some (.ref f))) (hf : PySem.W.isFn X.K (.ref f) = true) (hb : Binds X.K fd ps []) (hps : ps.length = 2) (I : Inv X pins σ H s) (rx : RelV x u) (ry : RelV y v) (sr : SR Z q H μ) (rtx : RT Z q x tx) (rty : RT Z q y ty) (po : EqYes g c μ tx ty) :
    wpAny (model X.prog X.w) X.A.in1 (eqBool u v) (fun r s' => r = true ∧ ∃ H' q', Inv X pins σ H' s' ∧ q.Le q' ∧ SR Z q' H' μ) X.xe s := by
  obtain ⟨fl, po⟩ := po
  unfold eqOwn at po
  cases h1 : objOf μ tx with
  | none => rw [h1] at po; cases po
  | some o1 =>
  cases h2 : objOf μ ty with
  | none => rw [h1, h2] at po; cases po
  | some o2 =>
  obtain ⟨c1, ts1⟩ := o1
  obtain ⟨c2, ts2⟩ := o2
  rw [h1, h2] at po
  simp only at po
  by_cases hcc : c1 = c ∧ c2 = c
  case neg => rw [if_neg hcc] at po; cases po
  rw [if_pos hcc] at po
  obtain ⟨rfl, rfl⟩ := hcc
  obtain ⟨a, C', dx, fs, names', rfl, ha, hc', _, _⟩ := obj_ok sr rtx h1
  rw [hC] at hc'
  cases hc'
  obtain ⟨b, C', dy, gs, names', rfl, hb', hc', _, _⟩ := obj_ok sr rty h2
  rw [hC] at hc'
  cases hc'
  cases rx
  cases ry
  by_cases hab : a = b
  · subst hab
    exact SeqAt.EqAt.same (A := X.A.in1) (s := s) (.ref a) X.prog X.w X.xe _ ⟨rfl, H, q, I, Pt.Le.refl q, sr⟩
  refine GQ.eqBool_refG hab ?_
  obtain ⟨mA, J, _⟩ := ins_get I.hok ha
  obtain ⟨mB, J', _⟩ := ins_get I.hok hb'
  obtain ⟨od, J, _⟩ := J.look
  obtain ⟨od', J', _⟩ := J'.look
  obtain ⟨m, hF⟩ := I.fr
  have ow : spD Z.K Z.TB g 2 [V.ref a, V.ref b] H (fun v H' => v = .bl true ∧ ∃ q', q.Le q' ∧ SR Z q' H' μ) (fun _ _ _ => False) := by
    refine call_owes (W := W0) (σ := []) (live := false) (rf := [false, false]) (ts := [tx, ty]) sr (.cons rtx (.cons rty .nil)) ?_
    cases hg : callD g false [false, false] [tx, ty] μ with
    | none => rw [hg] at po; cases po
    | some rr =>
      rw [hg] at po
      cases rr with
      | exc _ _ _ => cases po
      | ok t μ' =>
        cases t with
        | m _ => cases po
        | v fl' d =>
          cases d with
          | bl b =>
            cases po
            intro v H' r l s rv
            exact ⟨rv.bl, r, l, s⟩
          | _ => cases po
  rw [← B.hK] at ow
  refine PySem.W.cmp_K (op := .Eq) (tb := .ref C) B.room.in1.units0 hF I.ok.mod.kin J J'.type (by simp [PySem.W.notFirst]) hs hf ?_
  have hbb := hb s [.ref a, .ref b] I.kIn (by rw [hps]; rfl)
  refine wpAny_call (codeAny_mono (F.run X.A.in1 X.stack s H ⟨[.ref a, .ref b], []⟩ [.ref a, .ref b] [.ref a, .ref b] _ (fun _ _ _ => False) B.room.in1 (in1_gd B.gd) I.env0.in1 hbb (.cons rfl (.cons rfl .nil)) ow) fun r s' hq => ?_)
  cases r with
  | error e =>
    obtain ⟨_, _, _, _, _, _, _, _, _, _, _, _, _, _, _, _, w⟩ := XE.of_call (W := W0) I (fun _ _ _ h => h) hq
    exact w.elim
  | ok fl =>
    cases fl with
    | ret w =>
      obtain ⟨z, H', I', rz, ez, q', l, s2⟩ := I.after hq
      subst ez
      cases rz
      exact ⟨true, rfl, rfl, H', q', I', l, s2⟩
    | next => exact False.elim hq
    | brk => exact False.elim hq
    | cont => exact False.elim hq
def rEqLst (Z : Ent) (g : List T → Mu → Ot T) (c : Nat) : R2 := fun x y H Q => ∃ (p : Pt) (μ : Mu) (tx ty : T), SR Z p H μ ∧ RT Z p x tx ∧ RT Z p y ty ∧ Post Z W0 [] Q p (eqLst g c μ tx ty)
theorem op_eqLst {c : Nat} {names : List Str} (B : Be X Z W (k + 1)) (hC : Z.TB.cls c = some (C, names)) (F : FnG X.prog X.w X.K X.mg X.base k f fd ps (spD X.K Z.TB g 2))
    (hs : PySem.W.findIn X.K (.ref C) "__eq__" = some (some (.ref f))) (hf : PySem.W.isFn X.K (.ref f) = true) (hb : Binds X.K fd ps []) (hps : ps.length = 2) : OpR X (compareOp .Eq) (rEqLst Z g c) := by
  intro pins s σ H x y u v Q I rx ry d
  obtain ⟨q, μ, tx, ty, sr, rtx, rty, po⟩ := d
  unfold eqLst at po
  cases h1 : lstOf μ tx with
  | none => rw [h1] at po; exact po.elim
  | some xs =>
  cases h2 : lstOf μ ty with
  | none => rw [h1, h2] at po; exact po.elim
  | some ys =>
  rw [h1, h2] at po
  simp only at po
  split at po
  case isFalse => exact po.elim
  rename_i hyes
  obtain ⟨hlen, hyes⟩ := hyes
  obtain ⟨a, vs0, rfl, _, _⟩ := lst_ok sr rtx h1
  obtain ⟨b, ws0, rfl, _, _⟩ := lst_ok sr rty h2
  cases rx
  cases ry
  show wpAny (model X.prog X.w) X.A (richCompare .Eq (.ref a) (.ref b)) (EP X pins σ Q) X.xe s
  refine GQ.rc_listG (N := xs.length) B.room.units0 (fun _ s' => ∃ H' q', Inv X pins σ H' s' ∧ q.Le q' ∧ SR Z q' H' μ) (fun i s' z => ?_) (fun s' z => ?_) ⟨H, q, I, Pt.Le.refl q, sr⟩
  · obtain ⟨H1, q1, I1, l1, s1⟩ := z
    obtain ⟨a', vs, e, ha, r⟩ := lst_ok s1 (rtx.mono l1) h1
    cases e
    obtain ⟨b', ws, e, hb2, r2⟩ := lst_ok s1 (rty.mono l1) h2
    cases e
    obtain ⟨z, its, kk, rv, e⟩ := I1.hok a _ ha
    obtain ⟨z2, its2, k2, rv2, e2⟩ := I1.hok b _ hb2
    refine ⟨its.toArray, its2.toArray, kk, k2, e, e2, by rw [List.size_toArray, ← rv.length, r.length], by rw [List.size_toArray, ← rv2.length, r2.length, hlen], fun g1 g2 => ?_⟩
    have k1 : i < xs.length := by rw [← r.length, rv.length]; simpa using g1
    have k3 : i < ys.length := by rw [← r2.length, rv2.length]; simpa using g2
    obtain ⟨v1, hv1, rt1⟩ := r.get (List.getElem?_eq_getElem k1)
    obtain ⟨v2, hv2, rt2⟩ := r2.get (List.getElem?_eq_getElem k3)
    obtain ⟨u1, hu1, ru1⟩ := rv.get hv1
    obtain ⟨u2, hu2, ru2⟩ := rv2.get hv2
    have e1 : its.toArray[i] = u1 := by
      have : its[i]? = some (its.toArray[i]) := by simp
      rw [hu1] at this
      exact (Option.some.inj this).symm
    have e3 : its2.toArray[i] = u2 := by
      have : its2[i]? = some (its2.toArray[i]) := by simp
      rw [hu2] at this
      exact (Option.some.inj this).symm
    rw [e1, e3]
    refine wpAny_mono (run_yes B hC F hs hf hb hps I1 ru1 ru2 s1 rt1 rt2 (hyes i _ _ (List.getElem?_eq_getElem k1) (List.getElem?_eq_getElem k3))) (fun r s2 hq => ?_) fun _ _ x => x
    obtain ⟨hr, H2, q2, I2, l2, s2'⟩ := hq
    exact ⟨hr, H2, q2, I2, l1.trans l2, s2'⟩
  · obtain ⟨H1, q1, I1, l1, s1⟩ := z
    exact ⟨.bl true, H1, I1, rfl, po (.bl true) H1 q1 l1 s1 (Dx.bl _ : Dx Z.K Z.TB q1.N _ _)⟩
noncomputable def dEqLst (g : List T → Mu → Ot T) (c : Nat) (ga gb : De) : De := fun Γ μ => Ot.bind (ga Γ μ) fun ta μ1 => Ot.bind (gb Γ μ1) fun tb μ2 => eqLst g c μ2 ta tb
theorem xe_eqLst {c : Nat} {names : List Str} (B : Be X Z W (k + 1)) (hC : Z.TB.cls c = some (C, names)) (F : FnG X.prog X.w X.K X.mg X.base k f fd ps (spD X.K Z.TB g 2)) (hs : PySem.W.findIn X.K (.ref C) "__eq__" = some (some (.ref f)))
    (hf : PySem.W.isFn X.K (.ref f) = true) (hbd : Binds X.K fd ps []) (hps : ps.length = 2) (ha : PE X a (tD Z W ga)) (hb : PE X b (tD Z W gb)) (hm : behindInMarks .Eq b = false) :
    PE X (.Compare a [.Eq] [b] pos) (tD Z W (dEqLst g c ga gb)) :=
  pe_imp (pe_cmpR (op_eqLst B hC F hs hf hbd hps) ha hb hm) fun σ H Q h => by
    obtain ⟨p, μ, Γ, s, e, h⟩ := h
    obtain ⟨p', μ', Γ', s', e', h'⟩ := tD_bind s e h
    refine ⟨p', μ', Γ', s', e', ?_⟩
    match hg : ga Γ' μ', h' with
    | some (.ok t μ1), h' =>
      intro v H' q hl hs hr
      obtain ⟨q1, μ2, t2, l1, s1, e1, r1, k1⟩ := h' v H' q hl hs hr
      obtain ⟨p3, μ3, Γ3, s3, e3, h3⟩ := tD_bind s1 e1 k1
      refine ⟨p3, μ3, Γ3, s3, e3, ?_⟩
      match hg3 : gb Γ3 μ3, h3 with
      | some (.ok t4 μ4), h3 =>
        intro v4 H4 q4 hl4 hs4 hr4
        obtain ⟨q5, μ5, t5, l5, s5, e5, r5, k5⟩ := h3 v4 H4 q4 hl4 hs4 hr4
        refine ⟨q5, μ5, t2, t5, s5, r1.mono l5, r5, ?_⟩
        cases hq : eqLst g c μ5 t2 t5 with
        | none => rw [hq] at k5; exact k5.elim
        | some rr =>
          rw [hq] at k5
          cases rr with
          | ok _ _ => exact k5
          | exc c2 t2' μ2' =>
            unfold eqLst at hq
            split at hq
            · split at hq <;> cases hq
            · cases hq
      | some (.exc c4 t4 μ4), h3 => exact h3
    | some (.exc c t μ1), h' => exact h'
end
end L3

namespace Qk08
open PySem PySem.Spec PyProof.Rows L2 L3
/-- the text by places -/
def top (i : Nat) : Stmt := PySem.Challenge.pw_lookcrowd_k08_unlike_kinds.main.body.getD i (.Pass ⟨0, 0, 0, 0⟩)
abbrev s_law_quern : Stmt := top 28
abbrev s_Family_eq : Stmt := inClass (top 21) 8
abbrev s_edges : Stmt := top 3
abbrev s_cuts_of : Stmt := top 2
abbrev s_pair_of : Stmt := top 11
abbrev s_box_of : Stmt := top 10
abbrev s_volume : Stmt := top 5
abbrev s_repeated : Stmt := top 8
abbrev s_blocks_from : Stmt := top 13
abbrev s_blocks : Stmt := top 12
abbrev s_sizes_of : Stmt := top 4
abbrev s_greatest_boxes : Stmt := top 9
abbrev s_ErrInit : Stmt := inClass (top 15) 0
abbrev s_cells_of_box : Stmt := top 7
abbrev s_cells_of : Stmt := top 6
abbrev s_is_number : Stmt := top 24
abbrev s_is_pair : Stmt := top 23
abbrev s_is_box : Stmt := top 22
abbrev s_Family_init : Stmt := inClass (top 21) 0
abbrev s_law_made : Stmt := top 34
abbrev s_law_grain : Stmt := top 29
abbrev s_law_span : Stmt := top 30
abbrev s_law_near : Stmt := top 31
abbrev s_law_drawn : Stmt := top 32
abbrev s_check_alike : Stmt := top 19
abbrev s_shared_cuts : Stmt := top 26
abbrev s_Family_and : Stmt := inClass (top 21) 9
abbrev s_Family_or : Stmt := inClass (top 21) 10
abbrev s_Family_sub : Stmt := inClass (top 21) 11
abbrev s_lies_within : Stmt := top 25
abbrev s_Family_within : Stmt := inClass (top 21) 6
abbrev s_law_caught : Stmt := top 40
abbrev s_law_right : Stmt := top 41
abbrev s_law : Stmt := top 42
/-- what the top has left -/
structure Tx (K : PySem.W.Frag) (mg : Str → Option Value) where
  a_law_quern : Addr
  f_law_quern : FuncData
  F_law_quern : Fun K "_law_quern" "_law_quern" s_law_quern a_law_quern f_law_quern
  b_law_quern : Binds K f_law_quern ["script", "place"] []
  m_law_quern : mg "_law_quern" = some (.ref a_law_quern)
  k_law_quern : PySem.W.keepIn K (.ref a_law_quern) = true
  a_Family_eq : Addr
  f_Family_eq : FuncData
  F_Family_eq : Fun K "__eq__" "Family.__eq__" s_Family_eq a_Family_eq f_Family_eq
  b_Family_eq : Binds K f_Family_eq ["self", "other"] []
  a_edges : Addr
  f_edges : FuncData
  F_edges : Fun K "edges" "edges" s_edges a_edges f_edges
  b_edges : Binds K f_edges ["boxes", "kind"] []
  m_edges : mg "edges" = some (.ref a_edges)
  k_edges : PySem.W.keepIn K (.ref a_edges) = true
  a_cuts_of : Addr
  f_cuts_of : FuncData
  F_cuts_of : Fun K "cuts_of" "cuts_of" s_cuts_of a_cuts_of f_cuts_of
  b_cuts_of : Binds K f_cuts_of ["kinds", "boxes"] []
  m_cuts_of : mg "cuts_of" = some (.ref a_cuts_of)
  k_cuts_of : PySem.W.keepIn K (.ref a_cuts_of) = true
  a_pair_of : Addr
  f_pair_of : FuncData
  F_pair_of : Fun K "pair_of" "pair_of" s_pair_of a_pair_of f_pair_of
  b_pair_of : Binds K f_pair_of ["low", "end", "row"] []
  m_pair_of : mg "pair_of" = some (.ref a_pair_of)
  k_pair_of : PySem.W.keepIn K (.ref a_pair_of) = true
  a_box_of : Addr
  f_box_of : FuncData
  F_box_of : Fun K "box_of" "box_of" s_box_of a_box_of f_box_of
  b_box_of : Binds K f_box_of ["ranges", "cuts"] []
  m_box_of : mg "box_of" = some (.ref a_box_of)
  k_box_of : PySem.W.keepIn K (.ref a_box_of) = true
  a_volume : Addr
  f_volume : FuncData
  F_volume : Fun K "volume" "volume" s_volume a_volume f_volume
  b_volume : Binds K f_volume ["sizes"] []
  m_volume : mg "volume" = some (.ref a_volume)
  k_volume : PySem.W.keepIn K (.ref a_volume) = true
  a_repeated : Addr
  f_repeated : FuncData
  F_repeated : Fun K "repeated" "repeated" s_repeated a_repeated f_repeated
  b_repeated : Binds K f_repeated ["cells", "width", "low", "end"] []
  m_repeated : mg "repeated" = some (.ref a_repeated)
  k_repeated : PySem.W.keepIn K (.ref a_repeated) = true
  a_blocks_from : Addr
  f_blocks_from : FuncData
  F_blocks_from : Fun K "blocks_from" "blocks_from" s_blocks_from a_blocks_from f_blocks_from
  b_blocks_from : Binds K f_blocks_from ["low", "layers", "width", "sizes"] []
  m_blocks_from : mg "blocks_from" = some (.ref a_blocks_from)
  k_blocks_from : PySem.W.keepIn K (.ref a_blocks_from) = true
  a_blocks : Addr
  f_blocks : FuncData
  F_blocks : Fun K "blocks" "blocks" s_blocks a_blocks f_blocks
  b_blocks : Binds K f_blocks ["cells", "sizes"] []
  m_blocks : mg "blocks" = some (.ref a_blocks)
  k_blocks : PySem.W.keepIn K (.ref a_blocks) = true
  a_sizes_of : Addr
  f_sizes_of : FuncData
  F_sizes_of : Fun K "sizes_of" "sizes_of" s_sizes_of a_sizes_of f_sizes_of
  b_sizes_of : Binds K f_sizes_of ["cuts"] []
  m_sizes_of : mg "sizes_of" = some (.ref a_sizes_of)
  k_sizes_of : PySem.W.keepIn K (.ref a_sizes_of) = true
  a_greatest_boxes : Addr
  f_greatest_boxes : FuncData
  F_greatest_boxes : Fun K "greatest_boxes" "greatest_boxes" s_greatest_boxes a_greatest_boxes f_greatest_boxes
  b_greatest_boxes : Binds K f_greatest_boxes ["cells", "cuts"] []
  m_greatest_boxes : mg "greatest_boxes" = some (.ref a_greatest_boxes)
  k_greatest_boxes : PySem.W.keepIn K (.ref a_greatest_boxes) = true
  a_ErrInit : Addr
  f_ErrInit : FuncData
  F_ErrInit : Fun K "__init__" "CrowdError.__init__" s_ErrInit a_ErrInit f_ErrInit
  b_ErrInit : Binds K f_ErrInit ["self", "value"] []
  a_cells_of_box : Addr
  f_cells_of_box : FuncData
  F_cells_of_box : Fun K "cells_of_box" "cells_of_box" s_cells_of_box a_cells_of_box f_cells_of_box
  b_cells_of_box : Binds K f_cells_of_box ["box", "cuts"] []
  m_cells_of_box : mg "cells_of_box" = some (.ref a_cells_of_box)
  k_cells_of_box : PySem.W.keepIn K (.ref a_cells_of_box) = true
  a_cells_of : Addr
  f_cells_of : FuncData
  F_cells_of : Fun K "cells_of" "cells_of" s_cells_of a_cells_of f_cells_of
  b_cells_of : Binds K f_cells_of ["boxes", "cuts"] []
  m_cells_of : mg "cells_of" = some (.ref a_cells_of)
  k_cells_of : PySem.W.keepIn K (.ref a_cells_of) = true
  a_is_number : Addr
  f_is_number : FuncData
  F_is_number : Fun K "is_number" "is_number" s_is_number a_is_number f_is_number
  b_is_number : Binds K f_is_number ["value"] []
  m_is_number : mg "is_number" = some (.ref a_is_number)
  k_is_number : PySem.W.keepIn K (.ref a_is_number) = true
  a_is_pair : Addr
  f_is_pair : FuncData
  F_is_pair : Fun K "is_pair" "is_pair" s_is_pair a_is_pair f_is_pair
  b_is_pair : Binds K f_is_pair ["pair"] []
  m_is_pair : mg "is_pair" = some (.ref a_is_pair)
  k_is_pair : PySem.W.keepIn K (.ref a_is_pair) = true
  a_is_box : Addr
  f_is_box : FuncData
  F_is_box : Fun K "is_box" "is_box" s_is_box a_is_box f_is_box
  b_is_box : Binds K f_is_box ["box", "kinds"] []
  m_is_box : mg "is_box" = some (.ref a_is_box)
  k_is_box : PySem.W.keepIn K (.ref a_is_box) = true
  a_Family_init : Addr
  f_Family_init : FuncData
  F_Family_init : Fun K "__init__" "Family.__init__" s_Family_init a_Family_init f_Family_init
  b_Family_init : Binds K f_Family_init ["self", "kinds", "boxes"] []
  a_law_made : Addr
  f_law_made : FuncData
  F_law_made : Fun K "_law_made" "_law_made" s_law_made a_law_made f_law_made
  b_law_made : Binds K f_law_made ["many", "crates"] []
  m_law_made : mg "_law_made" = some (.ref a_law_made)
  k_law_made : PySem.W.keepIn K (.ref a_law_made) = true
  a_law_grain : Addr
  f_law_grain : FuncData
  F_law_grain : Fun K "_law_grain" "_law_grain" s_law_grain a_law_grain f_law_grain
  b_law_grain : Binds K f_law_grain ["mill", "many"] []
  m_law_grain : mg "_law_grain" = some (.ref a_law_grain)
  k_law_grain : PySem.W.keepIn K (.ref a_law_grain) = true
  a_law_span : Addr
  f_law_span : FuncData
  F_law_span : Fun K "_law_span" "_law_span" s_law_span a_law_span f_law_span
  b_law_span : Binds K f_law_span ["mill", "top"] []
  m_law_span : mg "_law_span" = some (.ref a_law_span)
  k_law_span : PySem.W.keepIn K (.ref a_law_span) = true
  a_law_near : Addr
  f_law_near : FuncData
  F_law_near : Fun K "_law_near" "_law_near" s_law_near a_law_near f_law_near
  b_law_near : Binds K f_law_near ["mill", "crate", "top"] []
  m_law_near : mg "_law_near" = some (.ref a_law_near)
  k_law_near : PySem.W.keepIn K (.ref a_law_near) = true
  a_law_drawn : Addr
  f_law_drawn : FuncData
  F_law_drawn : Fun K "_law_drawn" "_law_drawn" s_law_drawn a_law_drawn f_law_drawn
  b_law_drawn : Binds K f_law_drawn ["mill", "many", "count", "top"] []
  m_law_drawn : mg "_law_drawn" = some (.ref a_law_drawn)
  k_law_drawn : PySem.W.keepIn K (.ref a_law_drawn) = true
  a_check_alike : Addr
  f_check_alike : FuncData
  F_check_alike : Fun K "check_alike" "check_alike" s_check_alike a_check_alike f_check_alike
  b_check_alike : Binds K f_check_alike ["own", "other"] []
  m_check_alike : mg "check_alike" = some (.ref a_check_alike)
  k_check_alike : PySem.W.keepIn K (.ref a_check_alike) = true
  a_shared_cuts : Addr
  f_shared_cuts : FuncData
  F_shared_cuts : Fun K "shared_cuts" "shared_cuts" s_shared_cuts a_shared_cuts f_shared_cuts
  b_shared_cuts : Binds K f_shared_cuts ["one", "other"] []
  m_shared_cuts : mg "shared_cuts" = some (.ref a_shared_cuts)
  k_shared_cuts : PySem.W.keepIn K (.ref a_shared_cuts) = true
  a_Family_and : Addr
  f_Family_and : FuncData
  F_Family_and : Fun K "__and__" "Family.__and__" s_Family_and a_Family_and f_Family_and
  b_Family_and : Binds K f_Family_and ["self", "other"] []
  a_Family_or : Addr
  f_Family_or : FuncData
  F_Family_or : Fun K "__or__" "Family.__or__" s_Family_or a_Family_or f_Family_or
  b_Family_or : Binds K f_Family_or ["self", "other"] []
  a_Family_sub : Addr
  f_Family_sub : FuncData
  F_Family_sub : Fun K "__sub__" "Family.__sub__" s_Family_sub a_Family_sub f_Family_sub
  b_Family_sub : Binds K f_Family_sub ["self", "other"] []
  a_lies_within : Addr
  f_lies_within : FuncData
  F_lies_within : Fun K "lies_within" "lies_within" s_lies_within a_lies_within f_lies_within
  b_lies_within : Binds K f_lies_within ["box", "wide"] []
  m_lies_within : mg "lies_within" = some (.ref a_lies_within)
  k_lies_within : PySem.W.keepIn K (.ref a_lies_within) = true
  a_Family_within : Addr
  f_Family_within : FuncData
  F_Family_within : Fun K "within" "Family.within" s_Family_within a_Family_within f_Family_within
  b_Family_within : Binds K f_Family_within ["self", "other"] []
  a_law_caught : Addr
  f_law_caught : FuncData
  F_law_caught : Fun K "_law_caught" "_law_caught" s_law_caught a_law_caught f_law_caught
  b_law_caught : Binds K f_law_caught ["way", "made", "mate"] []
  m_law_caught : mg "_law_caught" = some (.ref a_law_caught)
  k_law_caught : PySem.W.keepIn K (.ref a_law_caught) = true
  a_law_right : Addr
  f_law_right : FuncData
  F_law_right : Fun K "_law_right" "_law_right" s_law_right a_law_right f_law_right
  b_law_right : Binds K f_law_right ["mill"] []
  m_law_right : mg "_law_right" = some (.ref a_law_right)
  k_law_right : PySem.W.keepIn K (.ref a_law_right) = true
  a_law : Addr
  f_law : FuncData
  F_law : Fun K "law" "law" s_law a_law f_law
  b_law : Binds K f_law ["script"] []
  m_law : mg "law" = some (.ref a_law)
  k_law : PySem.W.keepIn K (.ref a_law) = true
  a_CrowdError : Addr
  a_InvalidBox : Addr
  a_UnlikeKinds : Addr
  m_CrowdError : mg "CrowdError" = some (.ref a_CrowdError)
  e_CrowdError : ErrC K a_CrowdError
  x_CrowdError : PySem.W.exmOne K (.ref a_CrowdError) (.ref a_CrowdError) = some true
  ic_CrowdError : PySem.W.findIn K (.ref a_CrowdError) "__init__" = some (some (.ref a_ErrInit))
  kit_CrowdError_UnlikeKinds : PySem.W.kitOne K (.ref a_CrowdError) (.ref a_UnlikeKinds) = some false
  m_InvalidBox : mg "InvalidBox" = some (.ref a_InvalidBox)
  e_InvalidBox : ErrC K a_InvalidBox
  x_InvalidBox : PySem.W.exmOne K (.ref a_InvalidBox) (.ref a_CrowdError) = some true
  ic_InvalidBox : PySem.W.findIn K (.ref a_InvalidBox) "__init__" = some (some (.ref a_ErrInit))
  kit_InvalidBox_UnlikeKinds : PySem.W.kitOne K (.ref a_InvalidBox) (.ref a_UnlikeKinds) = some false
  m_UnlikeKinds : mg "UnlikeKinds" = some (.ref a_UnlikeKinds)
  e_UnlikeKinds : ErrC K a_UnlikeKinds
  x_UnlikeKinds : PySem.W.exmOne K (.ref a_UnlikeKinds) (.ref a_CrowdError) = some true
  ic_UnlikeKinds : PySem.W.findIn K (.ref a_UnlikeKinds) "__init__" = some (some (.ref a_ErrInit))
  kit_UnlikeKinds_UnlikeKinds : PySem.W.kitOne K (.ref a_UnlikeKinds) (.ref a_UnlikeKinds) = some true
  ti_ErrInit : PySem.W.typeIn K (.ref a_ErrInit) = some (.type "function")
  a_Family : Addr
  m_Family : mg "Family" = some (.ref a_Family)
  c_Family : Cls K a_Family
  i_Family : IsC K a_Family
  mk_Family : Mk K a_Family a_Family_init
  n_Family_kinds : NoAttr K a_Family "_kinds"
  n_Family_boxes : NoAttr K a_Family "_boxes"
  e_Family_within : Meth K a_Family "within" a_Family_within
  e_Family_and : Meth K a_Family "__and__" a_Family_and
  e_Family_or : Meth K a_Family "__or__" a_Family_or
  e_Family_sub : Meth K a_Family "__sub__" a_Family_sub
  og_Family_and : PySem.W.findIn K (.ref a_Family) "__and__" = some (some (.ref a_Family_and))
  oi_Family_and : PySem.W.isFn K (.ref a_Family_and) = true
  og_Family_or : PySem.W.findIn K (.ref a_Family) "__or__" = some (some (.ref a_Family_or))
  oi_Family_or : PySem.W.isFn K (.ref a_Family_or) = true
  og_Family_sub : PySem.W.findIn K (.ref a_Family) "__sub__" = some (some (.ref a_Family_sub))
  oi_Family_sub : PySem.W.isFn K (.ref a_Family_sub) = true
  sf_Family : PySem.W.selfFirst K a_Family = true
  q_Family : PySem.W.findIn K (.ref a_Family) "__eq__" = some (some (.ref a_Family_eq))
  q1_Family : PySem.W.isFn K (.ref a_Family_eq) = true
  z_abs : mg "abs" = none
  z_all : mg "all" = none
  z_any : mg "any" = none
  z_bool : mg "bool" = none
  z_enumerate : mg "enumerate" = none
  z_int : mg "int" = none
  z_isinstance : mg "isinstance" = none
  z_len : mg "len" = none
  z_list : mg "list" = none
  z_max : mg "max" = none
  z_min : mg "min" = none
  z_range : mg "range" = none
  z_repr : mg "repr" = none
  z_reversed : mg "reversed" = none
  z_set : mg "set" = none
  z_sorted : mg "sorted" = none
  z_sum : mg "sum" = none
  z_tuple : mg "tuple" = none
  z_zip : mg "zip" = none
  kb_Family_within_0 : KB K f_Family_within ["self", "other"] ["other"] 1 [0]
section
variable {P : Program} {w : World} {K : PySem.W.Frag} {mg : Str → Option Value} {base : Heap}
def Tx.tab (T : Tx K mg) : Tab := ⟨fun c => match c with
  | 0 => some (T.a_Family, ["_kinds", "_boxes"])
  | _ => none, fun c => match c with
  | 0 => some T.a_CrowdError
  | 1 => some T.a_InvalidBox
  | 2 => some T.a_UnlikeKinds
  | _ => none⟩
theorem Tx.errs (T : Tx K mg) : ∀ (c : Nat) (C : Addr), T.tab.exc c = some C → ErrC K C := fun c C h => match c, h with
  | 0, h => by cases h; exact T.e_CrowdError
  | 1, h => by cases h; exact T.e_InvalidBox
  | 2, h => by cases h; exact T.e_UnlikeKinds
  | _ + 3, h => nomatch h
theorem Tx.exm (T : Tx K mg) : ∀ (c : Nat) (C : Addr), T.tab.exc c = some C → PySem.W.exmOne K (.ref C) (.ref T.a_CrowdError) = some true := fun c C h => match c, h with
  | 0, h => by cases h; exact T.x_CrowdError
  | 1, h => by cases h; exact T.x_InvalidBox
  | 2, h => by cases h; exact T.x_UnlikeKinds
  | _ + 3, h => nomatch h
theorem Tx.kit_UnlikeKinds (T : Tx K mg) : ∀ (c : Nat) (C : Addr), T.tab.exc c = some C → PySem.W.kitOne K (.ref C) (.ref T.a_UnlikeKinds) = some (exIs c 2) := fun c C h => match c, h with
  | 0, h => by cases h; exact T.kit_CrowdError_UnlikeKinds
  | 1, h => by cases h; exact T.kit_InvalidBox_UnlikeKinds
  | 2, h => by cases h; exact T.kit_UnlikeKinds_UnlikeKinds
  | _ + 3, h => nomatch h
theorem sc_ErrInit : FnScope ["self", "value"] ["self", "value"] (defScope s_ErrInit) := ⟨rfl, rfl, rfl, by decide +kernel, rfl, by decide +kernel, by decide +kernel⟩
/-- _law_quern -/
noncomputable def b_law_quern (m0 : Nat) : Ds := (sSeq (sSet 2 (dAtm (.int 0))) (sSeq (sIf (bOf (d2 (cmpVt .Lt) (dVar 1) (dBi lenV (aCons (dVar 0) aNil)))) (sSet 2 (d2 ixV (dVar 0) (dVar 1))) sNil) (sSeq (sSet 3 (d2 (binV false .Sub) (dBi absV (aCons (dVar 2) aNil)) (d2 (binV false .Pow) (dAtm (.int 10)) (dAtm (.int 17))))) (sRet (dLst true (aCons (dIf (bOf (d2 (cmpVt .Gt) (dVar 3) (dAtm (.int 0)))) (dVar 3) (dAtm (.int 0))) (aCons (d2 (binV false .Mod) (dBi intV (aCons (d2 (binV false .Add) (d2 (binV false .Add) (d2 (binV false .Mult) (dAtm (.int 5)) (dVar 2)) (d2 (binV false .Mult) (dAtm (.int 67867979)) (dVar 1))) (dAtm (.int 49979693))) aNil)) (d2 (binV false .Add) (d2 (binV false .Pow) (dAtm (.int 10)) (dAtm (.int 31))) (dAtm (.int 33)))) (aCons (dAtm (.int 0)) aNil))))))))
noncomputable def d_law_quern : List T → Mu → Ot T := defD 2 4 b_law_quern
theorem sc_law_quern : FnScope ["script", "place", "cell", "rest"] ["script", "place"] (defScope s_law_quern) := ⟨rfl, rfl, rfl, by decide +kernel, rfl, by decide +kernel, by decide +kernel⟩
theorem ok_law_quern (T : Tx K mg) : FnG P w K mg base 1 T.a_law_quern T.f_law_quern ["script", "place"] (spD K T.tab d_law_quern 2) :=
  fnD (N := ["script", "place", "cell", "rest"]) (g := b_law_quern) T.F_law_quern sc_law_quern (fun cdv A outer s H E Z hK hT B => by
    obtain ⟨K1, TB1, Hz, F0, ms0⟩ := Z
    obtain rfl : K1 = K := hK
    obtain rfl : TB1 = T.tab := hT
    exact (xss_cons (xs_set B.toBe.nd rfl (Or.inl rfl) (xe_atm pe_int (fun _ => Dx.int _)) rfl (Or.inl rfl)) (xss_cons (xs_if (xt_cmp B.toBe.hK B.toBe.hu (xe_var rfl (Or.inl rfl) rfl rfl) (xe_bi (call_lenV B.toBe.hK) rfl T.z_len rfl (xa_cons (xe_var rfl (Or.inl rfl) rfl rfl) xa_nil rfl) (by decide) rfl rfl rfl) (nomark _)) (xss_one (xs_set B.toBe.nd rfl (Or.inl rfl) (xe_ix B.toBe.hK (xe_var rfl (Or.inl rfl) rfl rfl) (xe_var rfl (Or.inl rfl) rfl rfl) (fun _ _ => rfl)) rfl (Or.inl rfl))) xss_nil) (xss_cons (xs_set B.toBe.nd rfl (Or.inl rfl) (xe_bin B.toBe.hK false (xe_bi call_absV rfl T.z_abs rfl (xa_cons (xe_var rfl (Or.inl rfl) rfl rfl) xa_nil rfl) (by decide) rfl rfl rfl) (xe_bin B.toBe.hK false (xe_atm pe_int (fun _ => Dx.int _)) (xe_atm pe_int (fun _ => Dx.int _)))) rfl (Or.inl rfl)) (xss_one (xs_ret (xe_lst true (xa_cons (xe_if (xt_cmp B.toBe.hK B.toBe.hu (xe_var rfl (Or.inl rfl) rfl rfl) (xe_atm pe_int (fun _ => Dx.int _)) (nomark _)) (xe_var rfl (Or.inl rfl) rfl rfl) (xe_atm pe_int (fun _ => Dx.int _))) (xa_cons (xe_bin B.toBe.hK false (xe_ty call_intV rfl T.z_int rfl (xa_cons (xe_bin B.toBe.hK false (xe_bin B.toBe.hK false (xe_bin B.toBe.hK false (xe_atm pe_int (fun _ => Dx.int _)) (xe_var rfl (Or.inl rfl) rfl rfl)) (xe_bin B.toBe.hK false (xe_atm pe_int (fun _ => Dx.int _)) (xe_var rfl (Or.inl rfl) rfl rfl))) (xe_atm pe_int (fun _ => Dx.int _))) xa_nil rfl) (by decide) rfl rfl rfl) (xe_bin B.toBe.hK false (xe_bin B.toBe.hK false (xe_atm pe_int (fun _ => Dx.int _)) (xe_atm pe_int (fun _ => Dx.int _))) (xe_atm pe_int (fun _ => Dx.int _)))) (xa_cons (xe_atm pe_int (fun _ => Dx.int _)) xa_nil rfl) rfl) rfl))))))))
/-- Family.__eq__ -/
noncomputable def b_Family_eq (m0 : Nat) : Ds := (sRet (dAnd (d1 (isiV 0) (dVar 1)) (dAnd (d2 (cmpVt .Eq) (d1 (fldV 0 0) (dVar 0)) (d1 (fldV 0 0) (dVar 1))) (d2 (cmpVt .Eq) (d1 (fldV 0 1) (dVar 0)) (d1 (fldV 0 1) (dVar 1))))))
noncomputable def d_Family_eq : List T → Mu → Ot T := defD 2 2 b_Family_eq
theorem sc_Family_eq : FnScope ["self", "other"] ["self", "other"] (defScope s_Family_eq) := ⟨rfl, rfl, rfl, by decide +kernel, rfl, by decide +kernel, by decide +kernel⟩
theorem ok_Family_eq (T : Tx K mg) : FnG P w K mg base 1 T.a_Family_eq T.f_Family_eq ["self", "other"] (spD K T.tab d_Family_eq 2) :=
  fnD (N := ["self", "other"]) (g := b_Family_eq) T.F_Family_eq sc_Family_eq (fun cdv A outer s H E Z hK hT B => by
    obtain ⟨K1, TB1, Hz, F0, ms0⟩ := Z
    obtain rfl : K1 = K := hK
    obtain rfl : TB1 = T.tab := hT
    exact (xss_one (xs_ret (xe_and (xe_isi (c := 0) B.toBe rfl T.c_Family T.i_Family rfl T.z_isinstance rfl T.m_Family rfl (xe_var rfl (Or.inl rfl) rfl rfl) rfl rfl rfl) (xe_and (xe_cmp B.toBe.hK B.toBe.hu (xe_fld B.toBe.hK (i := 0) (c := 0) rfl rfl (by decide +kernel) T.c_Family T.n_Family_kinds (xe_var rfl (Or.inl rfl) rfl rfl) rfl) (xe_fld B.toBe.hK (i := 0) (c := 0) rfl rfl (by decide +kernel) T.c_Family T.n_Family_kinds (xe_var rfl (Or.inl rfl) rfl rfl) rfl) (nomark _)) (pe_one (xe_cmp B.toBe.hK B.toBe.hu (xe_fld B.toBe.hK (i := 1) (c := 0) rfl rfl (by decide +kernel) T.c_Family T.n_Family_boxes (xe_var rfl (Or.inl rfl) rfl rfl) rfl) (xe_fld B.toBe.hK (i := 1) (c := 0) rfl rfl (by decide +kernel) T.c_Family T.n_Family_boxes (xe_var rfl (Or.inl rfl) rfl rfl) rfl) (nomark _))))))))
/-- edges -/
noncomputable def b_edges (m0 : Nat) : Ds := (sSeq (sSet 2 (dLc false m0 (iSeq true (dVar 0)) (gNm 3) bYes (d2 ixV (d2 ixV (dVar 3) (dVar 1)) (dAtm (.int 0))) [3])) (sSeq (sSet 4 (dLc false m0 (iSeq true (dVar 0)) (gNm 3) (bOf (d2 (cmpVt .IsNot) (d2 ixV (d2 ixV (dVar 3) (dVar 1)) (dAtm (.int 1))) (dAtm .non))) (d2 (binV false .Add) (d2 ixV (d2 ixV (dVar 3) (dVar 1)) (dAtm (.int 1))) (dAtm (.int 1))) [3])) (sRet (d2 (binV true .Add) (dVar 2) (dVar 4)))))
noncomputable def d_edges : List T → Mu → Ot T := defD 2 5 b_edges
theorem sc_edges : FnScope ["boxes", "kind", "begins", "box", "ends"] ["boxes", "kind"] (defScope s_edges) := ⟨rfl, rfl, rfl, by decide +kernel, rfl, by decide +kernel, by decide +kernel⟩
theorem ok_edges (T : Tx K mg) : FnG P w K mg base 1 T.a_edges T.f_edges ["boxes", "kind"] (spD K T.tab d_edges 2) :=
  fnD (N := ["boxes", "kind", "begins", "box", "ends"]) (g := b_edges) T.F_edges sc_edges (fun cdv A outer s H E Z hK hT B => by
    obtain ⟨K1, TB1, Hz, F0, ms0⟩ := Z
    obtain rfl : K1 = K := hK
    obtain rfl : TB1 = T.tab := hT
    exact (xss_cons (xs_setLc false (own := [("box", 3)]) rfl B.toBe.calm B.toBe.nd rfl rfl rfl (xi_lst B.toBe.hK (xe_var rfl (Or.inl rfl) rfl rfl)) (blkOk_by rfl) (by decide) (fun s1 H1 C1 cl1 fp1 => (xg_nm (Be.blk B.toBe s1 H1 _ C1 cl1 fp1).nd rfl (Or.inl rfl) (Or.inr rfl))) (fun s1 H1 C1 cl1 fp1 => xts_nil) (fun s1 H1 C1 cl1 fp1 => (xe_ix (Be.blk B.toBe s1 H1 _ C1 cl1 fp1).hK (xe_ix (Be.blk B.toBe s1 H1 _ C1 cl1 fp1).hK (xe_var rfl (Or.inl rfl) rfl rfl) (xe_var rfl (Or.inr (Or.inl rfl)) rfl rfl) (fun _ _ => rfl)) (xe_atm pe_int (fun _ => Dx.int _)) (fun _ _ => rfl))) (fun _ => rfl)) (xss_cons (xs_setLc false (own := [("box", 3)]) rfl B.toBe.calm B.toBe.nd rfl rfl rfl (xi_lst B.toBe.hK (xe_var rfl (Or.inl rfl) rfl rfl)) (blkOk_by rfl) (by decide) (fun s1 H1 C1 cl1 fp1 => (xg_nm (Be.blk B.toBe s1 H1 _ C1 cl1 fp1).nd rfl (Or.inl rfl) (Or.inr rfl))) (fun s1 H1 C1 cl1 fp1 => (xts_one (xt_cmp (Be.blk B.toBe s1 H1 _ C1 cl1 fp1).hK (Be.blk B.toBe s1 H1 _ C1 cl1 fp1).hu (xe_ix (Be.blk B.toBe s1 H1 _ C1 cl1 fp1).hK (xe_ix (Be.blk B.toBe s1 H1 _ C1 cl1 fp1).hK (xe_var rfl (Or.inl rfl) rfl rfl) (xe_var rfl (Or.inr (Or.inl rfl)) rfl rfl) (fun _ _ => rfl)) (xe_atm pe_int (fun _ => Dx.int _)) (fun _ _ => rfl)) (xe_atm pe_non (fun _ => Dx.non)) (nomark _)))) (fun s1 H1 C1 cl1 fp1 => (xe_bin (Be.blk B.toBe s1 H1 _ C1 cl1 fp1).hK false (xe_ix (Be.blk B.toBe s1 H1 _ C1 cl1 fp1).hK (xe_ix (Be.blk B.toBe s1 H1 _ C1 cl1 fp1).hK (xe_var rfl (Or.inl rfl) rfl rfl) (xe_var rfl (Or.inr (Or.inl rfl)) rfl rfl) (fun _ _ => rfl)) (xe_atm pe_int (fun _ => Dx.int _)) (fun _ _ => rfl)) (xe_atm pe_int (fun _ => Dx.int _)))) (fun _ => rfl)) (xss_one (xs_ret (xe_bin B.toBe.hK true (xe_var rfl (Or.inl rfl) rfl rfl) (xe_var rfl (Or.inl rfl) rfl rfl)))))))
/-- cuts_of -/
noncomputable def b_cuts_of (m0 : Nat) : Ds := (sRet (dLc true m0 (iRng1D (aCons (dVar 0) aNil)) (gNm 2) bYes (d1 (ssetV false) (d2 (binV false .Add) (dLst false (aCons (dAtm (.int 0)) aNil)) (dFrz m0 (dCall d_edges 2 false [false, false] (aCons (dVar 1) (aCons (dVar 2) aNil)))))) [2]))
noncomputable def d_cuts_of : List T → Mu → Ot T := defD 2 3 b_cuts_of
theorem sc_cuts_of : FnScope ["kinds", "boxes", "kind"] ["kinds", "boxes"] (defScope s_cuts_of) := ⟨rfl, rfl, rfl, by decide +kernel, rfl, by decide +kernel, by decide +kernel⟩
theorem ok_cuts_of (T : Tx K mg) : FnG P w K mg base 2 T.a_cuts_of T.f_cuts_of ["kinds", "boxes"] (spD K T.tab d_cuts_of 2) :=
  fnD (N := ["kinds", "boxes", "kind"]) (g := b_cuts_of) T.F_cuts_of sc_cuts_of (fun cdv A outer s H E Z hK hT B => by
    obtain ⟨K1, TB1, Hz, F0, ms0⟩ := Z
    obtain rfl : K1 = K := hK
    obtain rfl : TB1 = T.tab := hT
    exact (xss_one (xs_ret (xe_lc true (own := [("kind", 2)]) rfl B.toBe.calm B.toBe.nd (xi_rng1 rfl T.z_range (xa_cons (xe_var rfl (Or.inl rfl) rfl rfl) xa_nil rfl) rfl) (blkOk_by rfl) (by decide) (fun s1 H1 C1 cl1 fp1 => (xg_nm (Be.blk B.toBe s1 H1 _ C1 cl1 fp1).nd rfl (Or.inl rfl) (Or.inr rfl))) (fun s1 H1 C1 cl1 fp1 => xts_nil) (fun s1 H1 C1 cl1 fp1 => (xe_sset (Be.blk B.toBe s1 H1 _ C1 cl1 fp1) false rfl T.z_sorted rfl T.z_set (xe_bin (Be.blk B.toBe s1 H1 _ C1 cl1 fp1).hK false (xe_lst false (xa_cons (xe_atm pe_int (fun _ => Dx.int _)) xa_nil rfl)) (xe_frz rfl (xe_call false [false, false] (Be.blk B.toBe s1 H1 _ C1 cl1 fp1) ((ok_edges T).mono (by decide)) rfl T.m_edges T.k_edges T.b_edges (xa_cons (xe_var rfl (Or.inr (Or.inl rfl)) rfl rfl) (xa_cons (xe_var rfl (Or.inl rfl) rfl rfl) xa_nil rfl) rfl) rfl rfl rfl rfl))) rfl rfl rfl rfl)) (fun _ => rfl)))))
/-- pair_of -/
noncomputable def b_pair_of (m0 : Nat) : Ds := (sRet (dTup (aCons (d2 ixV (dVar 2) (dVar 0)) (aCons (dIf (bOf (d2 (cmpVt .Eq) (dVar 1) (dBi lenV (aCons (dVar 2) aNil)))) (dAtm .non) (d2 (binV false .Sub) (d2 ixV (dVar 2) (dVar 1)) (dAtm (.int 1)))) aNil))))
noncomputable def d_pair_of : List T → Mu → Ot T := defD 3 3 b_pair_of
theorem sc_pair_of : FnScope ["low", "end", "row"] ["low", "end", "row"] (defScope s_pair_of) := ⟨rfl, rfl, rfl, by decide +kernel, rfl, by decide +kernel, by decide +kernel⟩
theorem ok_pair_of (T : Tx K mg) : FnG P w K mg base 1 T.a_pair_of T.f_pair_of ["low", "end", "row"] (spD K T.tab d_pair_of 3) :=
  fnD (N := ["low", "end", "row"]) (g := b_pair_of) T.F_pair_of sc_pair_of (fun cdv A outer s H E Z hK hT B => by
    obtain ⟨K1, TB1, Hz, F0, ms0⟩ := Z
    obtain rfl : K1 = K := hK
    obtain rfl : TB1 = T.tab := hT
    exact (xss_one (xs_ret (xe_tup (xa_cons (xe_ix B.toBe.hK (xe_var rfl (Or.inl rfl) rfl rfl) (xe_var rfl (Or.inl rfl) rfl rfl) (fun _ _ => rfl)) (xa_cons (xe_if (xt_cmp B.toBe.hK B.toBe.hu (xe_var rfl (Or.inl rfl) rfl rfl) (xe_bi (call_lenV B.toBe.hK) rfl T.z_len rfl (xa_cons (xe_var rfl (Or.inl rfl) rfl rfl) xa_nil rfl) (by decide) rfl rfl rfl) (nomark _)) (xe_atm pe_non (fun _ => Dx.non)) (xe_bin B.toBe.hK false (xe_ix B.toBe.hK (xe_var rfl (Or.inl rfl) rfl rfl) (xe_var rfl (Or.inl rfl) rfl rfl) (fun _ _ => rfl)) (xe_atm pe_int (fun _ => Dx.int _)))) xa_nil rfl) rfl)))))
/-- box_of -/
noncomputable def b_box_of (m0 : Nat) : Ds := (sRet (dLc true m0 (iZipM (aCons (dVar 0) (aCons (dVar 1) aNil))) (gTp 2 (gsCons (gTp 2 (gsCons (gNm 2) (gsCons (gNm 3) gsNil))) (gsCons (gNm 4) gsNil))) bYes (dFrz m0 (dCall d_pair_of 3 false [false, false, false] (aCons (dVar 2) (aCons (dVar 3) (aCons (dVar 4) aNil))))) [4, 2, 3]))
noncomputable def d_box_of : List T → Mu → Ot T := defD 2 5 b_box_of
theorem sc_box_of : FnScope ["ranges", "cuts", "low", "end", "row"] ["ranges", "cuts"] (defScope s_box_of) := ⟨rfl, rfl, rfl, by decide +kernel, rfl, by decide +kernel, by decide +kernel⟩
theorem ok_box_of (T : Tx K mg) : FnG P w K mg base 2 T.a_box_of T.f_box_of ["ranges", "cuts"] (spD K T.tab d_box_of 2) :=
  fnD (N := ["ranges", "cuts", "low", "end", "row"]) (g := b_box_of) T.F_box_of sc_box_of (fun cdv A outer s H E Z hK hT B => by
    obtain ⟨K1, TB1, Hz, F0, ms0⟩ := Z
    obtain rfl : K1 = K := hK
    obtain rfl : TB1 = T.tab := hT
    exact (xss_one (xs_ret (xe_lc true (own := [("row", 4), ("low", 2), ("end", 3)]) rfl B.toBe.calm B.toBe.nd (xi_zipM B.toBe.hK rfl T.z_zip (xa_cons (xe_var rfl (Or.inl rfl) rfl rfl) (xa_cons (xe_var rfl (Or.inl rfl) rfl rfl) xa_nil rfl) rfl) rfl rfl) (blkOk_by rfl) (by decide) (fun s1 H1 C1 cl1 fp1 => (xg_tup (Be.blk B.toBe s1 H1 _ C1 cl1 fp1).hK (Be.blk B.toBe s1 H1 _ C1 cl1 fp1).calm (xgs_cons (xg_tup (Be.blk B.toBe s1 H1 _ C1 cl1 fp1).hK (Be.blk B.toBe s1 H1 _ C1 cl1 fp1).calm (xgs_cons (xg_nm (Be.blk B.toBe s1 H1 _ C1 cl1 fp1).nd rfl (Or.inl rfl) (Or.inr rfl)) (xgs_cons (xg_nm (Be.blk B.toBe s1 H1 _ C1 cl1 fp1).nd rfl (Or.inl rfl) (Or.inr rfl)) xgs_nil rfl) rfl) rfl rfl) (xgs_cons (xg_nm (Be.blk B.toBe s1 H1 _ C1 cl1 fp1).nd rfl (Or.inl rfl) (Or.inr rfl)) xgs_nil rfl) rfl) rfl rfl)) (fun s1 H1 C1 cl1 fp1 => xts_nil) (fun s1 H1 C1 cl1 fp1 => (xe_frz rfl (xe_call false [false, false, false] (Be.blk B.toBe s1 H1 _ C1 cl1 fp1) ((ok_pair_of T).mono (by decide)) rfl T.m_pair_of T.k_pair_of T.b_pair_of (xa_cons (xe_var rfl (Or.inl rfl) rfl rfl) (xa_cons (xe_var rfl (Or.inl rfl) rfl rfl) (xa_cons (xe_var rfl (Or.inl rfl) rfl rfl) xa_nil rfl) rfl) rfl) rfl rfl rfl rfl))) (fun _ => rfl)))))
/-- volume -/
noncomputable def b_volume (m0 : Nat) : Ds := (sSeq (sSet 1 (dAtm (.int 1))) (sSeq (sFor (iSeq true (dVar 0)) (gNm 2) (sSet 1 (d2 (binV false .Mult) (dVar 1) (dVar 2)))) (sRet (dVar 1))))
noncomputable def d_volume : List T → Mu → Ot T := defD 1 3 b_volume
theorem sc_volume : FnScope ["sizes", "many", "size"] ["sizes"] (defScope s_volume) := ⟨rfl, rfl, rfl, by decide +kernel, rfl, by decide +kernel, by decide +kernel⟩
theorem ok_volume (T : Tx K mg) : FnG P w K mg base 1 T.a_volume T.f_volume ["sizes"] (spD K T.tab d_volume 1) :=
  fnD (N := ["sizes", "many", "size"]) (g := b_volume) T.F_volume sc_volume (fun cdv A outer s H E Z hK hT B => by
    obtain ⟨K1, TB1, Hz, F0, ms0⟩ := Z
    obtain rfl : K1 = K := hK
    obtain rfl : TB1 = T.tab := hT
    exact (xss_cons (xs_set B.toBe.nd rfl (Or.inl rfl) (xe_atm pe_int (fun _ => Dx.int _)) rfl (Or.inl rfl)) (xss_cons (xs_for B.own B.toBe.calm (xi_lst B.toBe.hK (xe_var rfl (Or.inl rfl) rfl rfl)) (xg_nm B.toBe.nd rfl (Or.inl rfl) (Or.inl rfl)) (xss_one (xs_set B.toBe.nd rfl (Or.inl rfl) (xe_bin B.toBe.hK false (xe_var rfl (Or.inl rfl) rfl rfl) (xe_var rfl (Or.inl rfl) rfl rfl)) rfl (Or.inl rfl))) (fun _ => rfl)) (xss_one (xs_ret (xe_var rfl (Or.inl rfl) rfl rfl))))))
/-- repeated -/
noncomputable def b_repeated (m0 : Nat) : Ds := (sRet (dBi (onInts fun ns => some ns.sum) (aCons (dLc false m0 (iRng2D (aCons (dVar 2) (aCons (dVar 3) aNil))) (gNm 4) bYes (d2 (binV false .LShift) (dVar 0) (d2 (binV false .Mult) (dVar 1) (dVar 4))) [4]) aNil)))
noncomputable def d_repeated : List T → Mu → Ot T := defD 4 5 b_repeated
theorem sc_repeated : FnScope ["cells", "width", "low", "end", "layer"] ["cells", "width", "low", "end"] (defScope s_repeated) := ⟨rfl, rfl, rfl, by decide +kernel, rfl, by decide +kernel, by decide +kernel⟩
theorem ok_repeated (T : Tx K mg) : FnG P w K mg base 1 T.a_repeated T.f_repeated ["cells", "width", "low", "end"] (spD K T.tab d_repeated 4) :=
  fnD (N := ["cells", "width", "low", "end", "layer"]) (g := b_repeated) T.F_repeated sc_repeated (fun cdv A outer s H E Z hK hT B => by
    obtain ⟨K1, TB1, Hz, F0, ms0⟩ := Z
    obtain rfl : K1 = K := hK
    obtain rfl : TB1 = T.tab := hT
    exact (xss_one (xs_ret (xe_bi (call_sumV B.toBe.hK B.toBe.calm) rfl T.z_sum rfl (xa_cons (xe_lc false (own := [("layer", 4)]) rfl B.toBe.calm B.toBe.nd (xi_rng2 rfl T.z_range (xa_cons (xe_var rfl (Or.inl rfl) rfl rfl) (xa_cons (xe_var rfl (Or.inl rfl) rfl rfl) xa_nil rfl) rfl) rfl rfl) (blkOk_by rfl) (by decide) (fun s1 H1 C1 cl1 fp1 => (xg_nm (Be.blk B.toBe s1 H1 _ C1 cl1 fp1).nd rfl (Or.inl rfl) (Or.inr rfl))) (fun s1 H1 C1 cl1 fp1 => xts_nil) (fun s1 H1 C1 cl1 fp1 => (xe_bin (Be.blk B.toBe s1 H1 _ C1 cl1 fp1).hK false (xe_var rfl (Or.inr (Or.inl rfl)) rfl rfl) (xe_bin (Be.blk B.toBe s1 H1 _ C1 cl1 fp1).hK false (xe_var rfl (Or.inr (Or.inl rfl)) rfl rfl) (xe_var rfl (Or.inl rfl) rfl rfl)))) (fun _ => rfl)) xa_nil rfl) (by decide) rfl rfl rfl))))
/-- blocks_from -/
noncomputable def b_blocks_from (r : List T → Mu → Ot T) (m0 : Nat) : Ds := (sSeq (sSet 4 (d2 ixV (dVar 1) (dVar 0))) (sSeq (sSet 5 (d2 ixV (dVar 1) (d2 (binV false .Add) (dVar 0) (dAtm (.int 1))))) (sSeq (sSet 6 (dLst true aNil)) (sSeq (sFor (iRng2D (aCons (d2 (binV false .Add) (dVar 0) (dAtm (.int 1))) (aCons (d2 (binV false .Add) (d2 ixV (dVar 3) (dAtm (.int 0))) (dAtm (.int 1))) aNil))) (gNm 7) (sSeq (sSet 5 (d2 (binV false .BitAnd) (dVar 5) (d2 ixV (dVar 1) (dVar 7)))) (sSeq (sIf (bOf (d2 (cmpVt .Eq) (d2 (binV false .BitAnd) (dVar 5) (dVar 4)) (dVar 5))) sBrk sNil) (sSeq (sSet 8 (d2 ixV (dVar 1) (d2 (binV false .Add) (dVar 7) (dAtm (.int 1))))) (sIf (bOf (d2 (cmpVt .NotEq) (d2 (binV false .BitAnd) (dVar 5) (dVar 8)) (dVar 5))) (sFor (iSeq true (dFrz m0 (dCall r 2 false [false, false] (aCons (dVar 5) (aCons (dSl false (dVar 3) (some (dAtm (.int 1))) none) aNil))))) (gTp 2 (gsCons (gNm 9) (gsCons (gNm 10) gsNil))) (sIf (bAnd (bOf (d2 (cmpVt .NotEq) (d2 (binV false .BitAnd) (dVar 10) (dVar 4)) (dVar 10))) (bOf (d2 (cmpVt .NotEq) (d2 (binV false .BitAnd) (dVar 10) (dVar 8)) (dVar 10)))) (sExp (dMt appV (dVar 6) (aCons (dTup (aCons (d2 catTV (dTup (aCons (dTup (aCons (dVar 0) (aCons (dVar 7) aNil))) aNil)) (dVar 9)) (aCons (dCall d_repeated 4 false [false, false, false, false] (aCons (dVar 10) (aCons (dVar 2) (aCons (dVar 0) (aCons (dVar 7) aNil))))) aNil))) aNil))) sNil)) sNil))))) (sRet (dVar 6))))))
noncomputable def d_blocks_from (r : List T → Mu → Ot T) : List T → Mu → Ot T := defD 4 11 (b_blocks_from r)
theorem sc_blocks_from : FnScope ["low", "layers", "width", "sizes", "before", "common", "found", "end", "behind", "ranges", "part"] ["low", "layers", "width", "sizes"] (defScope s_blocks_from) := ⟨rfl, rfl, rfl, by decide +kernel, rfl, by decide +kernel, by decide +kernel⟩
theorem ok_blocks_from (T : Tx K mg) (n : Nat) {r : List L3.T → Mu → Ot L3.T} (hr : FnG P w K mg base (1 + 2 * n) T.a_blocks T.f_blocks ["cells", "sizes"] (spD K T.tab r 2)) : FnG P w K mg base (1 + 2 * n + 1) T.a_blocks_from T.f_blocks_from ["low", "layers", "width", "sizes"] (spD K T.tab (d_blocks_from r) 4) :=
  fnD (N := ["low", "layers", "width", "sizes", "before", "common", "found", "end", "behind", "ranges", "part"]) (g := (b_blocks_from r)) T.F_blocks_from sc_blocks_from (fun cdv A outer s H E Z hK hT B => by
    obtain ⟨K1, TB1, Hz, F0, ms0⟩ := Z
    obtain rfl : K1 = K := hK
    obtain rfl : TB1 = T.tab := hT
    exact (xss_cons (xs_set B.toBe.nd rfl (Or.inl rfl) (xe_ix B.toBe.hK (xe_var rfl (Or.inl rfl) rfl rfl) (xe_var rfl (Or.inl rfl) rfl rfl) (fun _ _ => rfl)) rfl (Or.inl rfl)) (xss_cons (xs_set B.toBe.nd rfl (Or.inl rfl) (xe_ix B.toBe.hK (xe_var rfl (Or.inl rfl) rfl rfl) (xe_bin B.toBe.hK false (xe_var rfl (Or.inl rfl) rfl rfl) (xe_atm pe_int (fun _ => Dx.int _))) (fun _ _ => rfl)) rfl (Or.inl rfl)) (xss_cons (xs_set B.toBe.nd rfl (Or.inl rfl) (xe_lst true xa_nil) rfl (Or.inl rfl)) (xss_cons (xs_for B.own B.toBe.calm (xi_rng2 rfl T.z_range (xa_cons (xe_bin B.toBe.hK false (xe_var rfl (Or.inl rfl) rfl rfl) (xe_atm pe_int (fun _ => Dx.int _))) (xa_cons (xe_bin B.toBe.hK false (xe_ix B.toBe.hK (xe_var rfl (Or.inl rfl) rfl rfl) (xe_atm pe_int (fun _ => Dx.int _)) (fun _ _ => rfl)) (xe_atm pe_int (fun _ => Dx.int _))) xa_nil rfl) rfl) rfl rfl) (xg_nm B.toBe.nd rfl (Or.inl rfl) (Or.inl rfl)) (xss_cons (xs_set B.toBe.nd rfl (Or.inl rfl) (xe_bin B.toBe.hK false (xe_var rfl (Or.inl rfl) rfl rfl) (xe_ix B.toBe.hK (xe_var rfl (Or.inl rfl) rfl rfl) (xe_var rfl (Or.inl rfl) rfl rfl) (fun _ _ => rfl))) rfl (Or.inl rfl)) (xss_cons (xs_if (xt_cmp B.toBe.hK B.toBe.hu (xe_bin B.toBe.hK false (xe_var rfl (Or.inl rfl) rfl rfl) (xe_var rfl (Or.inl rfl) rfl rfl)) (xe_var rfl (Or.inl rfl) rfl rfl) (nomark _)) (xss_one xs_brk) xss_nil) (xss_cons (xs_set B.toBe.nd rfl (Or.inl rfl) (xe_ix B.toBe.hK (xe_var rfl (Or.inl rfl) rfl rfl) (xe_bin B.toBe.hK false (xe_var rfl (Or.inl rfl) rfl rfl) (xe_atm pe_int (fun _ => Dx.int _))) (fun _ _ => rfl)) rfl (Or.inl rfl)) (xss_one (xs_if (xt_cmp B.toBe.hK B.toBe.hu (xe_bin B.toBe.hK false (xe_var rfl (Or.inl rfl) rfl rfl) (xe_var rfl (Or.inl rfl) rfl rfl)) (xe_var rfl (Or.inl rfl) rfl rfl) (nomark _)) (xss_one (xs_for B.own B.toBe.calm (xi_lst B.toBe.hK (xe_frz rfl (xe_call false [false, false] B.toBe (hr.mono (by omega)) rfl T.m_blocks T.k_blocks T.b_blocks (xa_cons (xe_var rfl (Or.inl rfl) rfl rfl) (xa_cons (xe_sl B.toBe.hK false (xe_var rfl (Or.inl rfl) rfl rfl) (PoD.some (xe_atm pe_int (fun _ => Dx.int _))) PoD.none) xa_nil rfl) rfl) rfl rfl rfl rfl))) (xg_tup B.toBe.hK B.toBe.calm (xgs_cons (xg_nm B.toBe.nd rfl (Or.inl rfl) (Or.inl rfl)) (xgs_cons (xg_nm B.toBe.nd rfl (Or.inl rfl) (Or.inl rfl)) xgs_nil rfl) rfl) rfl rfl) (xss_one (xs_if (PW.pt (xt_and (xt_cmp B.toBe.hK B.toBe.hu (xe_bin B.toBe.hK false (xe_var rfl (Or.inl rfl) rfl rfl) (xe_var rfl (Or.inl rfl) rfl rfl)) (xe_var rfl (Or.inl rfl) rfl rfl) (nomark _)) (pw_and1 (xt_cmp B.toBe.hK B.toBe.hu (xe_bin B.toBe.hK false (xe_var rfl (Or.inl rfl) rfl rfl) (xe_var rfl (Or.inl rfl) rfl rfl)) (xe_var rfl (Or.inl rfl) rfl rfl) (nomark _))))) (xss_one (xs_exp (xe_mt B.toBe.hK PySem.F.slot_list_append PySem.F.type_list_append mt_app (xe_var rfl (Or.inl rfl) rfl rfl) (xa_cons (xe_tup (xa_cons (xe_catT B.toBe.hK (xe_tup (xa_cons (xe_tup (xa_cons (xe_var rfl (Or.inl rfl) rfl rfl) (xa_cons (xe_var rfl (Or.inl rfl) rfl rfl) xa_nil rfl) rfl)) xa_nil rfl)) (xe_var rfl (Or.inl rfl) rfl rfl)) (xa_cons (xe_call false [false, false, false, false] B.toBe ((ok_repeated T).mono (by omega)) rfl T.m_repeated T.k_repeated T.b_repeated (xa_cons (xe_var rfl (Or.inl rfl) rfl rfl) (xa_cons (xe_var rfl (Or.inl rfl) rfl rfl) (xa_cons (xe_var rfl (Or.inl rfl) rfl rfl) (xa_cons (xe_var rfl (Or.inl rfl) rfl rfl) xa_nil rfl) rfl) rfl) rfl) rfl rfl rfl rfl) xa_nil rfl) rfl)) xa_nil rfl) rfl rfl rfl rfl rfl) rfl)) xss_nil)) (fun _ => rfl))) xss_nil))))) (fun _ => rfl)) (xss_one (xs_ret (xe_var rfl (Or.inl rfl) rfl rfl))))))))
/-- blocks -/
noncomputable def b_blocks (r : List T → Mu → Ot T) (m0 : Nat) : Ds := (sSeq (sIf (bNot (bTru (dVar 1))) (sRet (dIf (bTru (dVar 0)) (dLst false (aCons (dTup (aCons (dTup aNil) (aCons (dVar 0) aNil))) aNil)) (dLst false aNil))) sNil) (sSeq (sSet 2 (dCall d_volume 1 false [false] (aCons (dSl false (dVar 1) (some (dAtm (.int 1))) none) aNil))) (sSeq (sSet 3 (d2 (binV false .Sub) (d2 (binV false .LShift) (dAtm (.int 1)) (dVar 2)) (dAtm (.int 1)))) (sSeq (sSet 4 (d2 (binV false .Add) (d2 (binV false .Add) (dLst false (aCons (dAtm (.int 0)) aNil)) (dLc false m0 (iRng1D (aCons (d2 ixV (dVar 1) (dAtm (.int 0))) aNil)) (gNm 5) bYes (d2 (binV false .BitAnd) (d2 (binV false .RShift) (dVar 0) (d2 (binV false .Mult) (dVar 2) (dVar 5))) (dVar 3)) [5])) (dLst false (aCons (dAtm (.int 0)) aNil)))) (sSeq (sSet 6 (dLst true aNil)) (sSeq (sFor (iRng1D (aCons (d2 ixV (dVar 1) (dAtm (.int 0))) aNil)) (gNm 7) (sExp (dMt extV (dVar 6) (aCons (dFrz m0 (dCall (d_blocks_from r) 4 false [false, false, false, false] (aCons (dVar 7) (aCons (dVar 4) (aCons (dVar 2) (aCons (dVar 1) aNil)))))) aNil)))) (sRet (dVar 6))))))))
noncomputable def d1_blocks (r : List T → Mu → Ot T) : List T → Mu → Ot T := defD 2 8 (b_blocks r)
theorem sc_blocks : FnScope ["cells", "sizes", "width", "layer", "layers", "at", "found", "low"] ["cells", "sizes"] (defScope s_blocks) := ⟨rfl, rfl, rfl, by decide +kernel, rfl, by decide +kernel, by decide +kernel⟩
theorem ok1_blocks (T : Tx K mg) (n : Nat) {r : List L3.T → Mu → Ot L3.T} (hr : FnG P w K mg base (1 + 2 * n) T.a_blocks T.f_blocks ["cells", "sizes"] (spD K T.tab r 2)) : FnG P w K mg base (2 + 2 * n + 1) T.a_blocks T.f_blocks ["cells", "sizes"] (spD K T.tab (d1_blocks r) 2) :=
  fnD (N := ["cells", "sizes", "width", "layer", "layers", "at", "found", "low"]) (g := (b_blocks r)) T.F_blocks sc_blocks (fun cdv A outer s H E Z hK hT B => by
    obtain ⟨K1, TB1, Hz, F0, ms0⟩ := Z
    obtain rfl : K1 = K := hK
    obtain rfl : TB1 = T.tab := hT
    exact (xss_cons (xs_if (xt_not (xt_tru B.toBe.hK (xe_var rfl (Or.inl rfl) rfl rfl) (fun _ => rfl))) (xss_one (xs_ret (xe_if (xt_tru B.toBe.hK (xe_var rfl (Or.inr (Or.inl rfl)) rfl rfl) (fun _ => rfl)) (xe_lst false (xa_cons (xe_tup (xa_cons (xe_tup xa_nil) (xa_cons (xe_var rfl (Or.inr (Or.inl rfl)) rfl rfl) xa_nil rfl) rfl)) xa_nil rfl)) (xe_lst false xa_nil)))) xss_nil) (xss_cons (xs_set B.toBe.nd rfl (Or.inr rfl) (xe_call false [false] B.toBe ((ok_volume T).mono (by omega)) rfl T.m_volume T.k_volume T.b_volume (xa_cons (xe_sl B.toBe.hK false (xe_var rfl (Or.inl rfl) rfl rfl) (PoD.some (xe_atm pe_int (fun _ => Dx.int _))) PoD.none) xa_nil rfl) rfl rfl rfl rfl) rfl (Or.inl rfl)) (xss_cons (xs_set B.toBe.nd rfl (Or.inr rfl) (xe_bin B.toBe.hK false (xe_bin B.toBe.hK false (xe_atm pe_int (fun _ => Dx.int _)) (xe_var rfl (Or.inr (Or.inl rfl)) rfl rfl)) (xe_atm pe_int (fun _ => Dx.int _))) rfl (Or.inl rfl)) (xss_cons (xs_set B.toBe.nd rfl (Or.inl rfl) (xe_bin B.toBe.hK false (xe_bin B.toBe.hK false (xe_lst false (xa_cons (xe_atm pe_int (fun _ => Dx.int _)) xa_nil rfl)) (xe_lc false (own := [("at", 5)]) rfl B.toBe.calm B.toBe.nd (xi_rng1 rfl T.z_range (xa_cons (xe_ix B.toBe.hK (xe_var rfl (Or.inl rfl) rfl rfl) (xe_atm pe_int (fun _ => Dx.int _)) (fun _ _ => rfl)) xa_nil rfl) rfl) (blkOk_by rfl) (by decide) (fun s1 H1 C1 cl1 fp1 => (xg_nm (Be.blk B.toBe s1 H1 _ C1 cl1 fp1).nd rfl (Or.inl rfl) (Or.inr rfl))) (fun s1 H1 C1 cl1 fp1 => xts_nil) (fun s1 H1 C1 cl1 fp1 => (xe_bin (Be.blk B.toBe s1 H1 _ C1 cl1 fp1).hK false (xe_bin (Be.blk B.toBe s1 H1 _ C1 cl1 fp1).hK false (xe_var rfl (Or.inr (Or.inl rfl)) rfl rfl) (xe_bin (Be.blk B.toBe s1 H1 _ C1 cl1 fp1).hK false (xe_var rfl (Or.inr (Or.inl rfl)) rfl rfl) (xe_var rfl (Or.inl rfl) rfl rfl))) (xe_var rfl (Or.inr (Or.inl rfl)) rfl rfl))) (fun _ => rfl))) (xe_lst false (xa_cons (xe_atm pe_int (fun _ => Dx.int _)) xa_nil rfl))) rfl (Or.inl rfl)) (xss_cons (xs_set B.toBe.nd rfl (Or.inl rfl) (xe_lst true xa_nil) rfl (Or.inl rfl)) (xss_cons (xs_for B.own B.toBe.calm (xi_rng1 rfl T.z_range (xa_cons (xe_ix B.toBe.hK (xe_var rfl (Or.inl rfl) rfl rfl) (xe_atm pe_int (fun _ => Dx.int _)) (fun _ _ => rfl)) xa_nil rfl) rfl) (xg_nm B.toBe.nd rfl (Or.inl rfl) (Or.inl rfl)) (xss_one (xs_exp (xe_mt B.toBe.hK PySem.F.slot_list_extend PySem.F.type_list_extend mt_ext (xe_var rfl (Or.inl rfl) rfl rfl) (xa_cons (xe_frz rfl (xe_call false [false, false, false, false] B.toBe ((ok_blocks_from T n hr).mono (by omega)) rfl T.m_blocks_from T.k_blocks_from T.b_blocks_from (xa_cons (xe_var rfl (Or.inl rfl) rfl rfl) (xa_cons (xe_var rfl (Or.inl rfl) rfl rfl) (xa_cons (xe_var rfl (Or.inr (Or.inl rfl)) rfl rfl) (xa_cons (xe_var rfl (Or.inl rfl) rfl rfl) xa_nil rfl) rfl) rfl) rfl) rfl rfl rfl rfl)) xa_nil rfl) rfl rfl rfl rfl rfl) rfl)) (fun _ => rfl)) (xss_one (xs_ret (xe_var rfl (Or.inl rfl) rfl rfl))))))))))
noncomputable def dR_blocks (n : Nat) : List T → Mu → Ot T := Nat.rec (motive := fun _ => List T → Mu → Ot T) (fun _ _ => none) (fun _ r => d1_blocks r) n
theorem okR_blocks (T : Tx K mg) : ∀ n : Nat, FnG P w K mg base (1 + 2 * n) T.a_blocks T.f_blocks ["cells", "sizes"] (spD K T.tab (dR_blocks n) 2)
  | 0 => fnG_none
  | n + 1 => (ok1_blocks T n (okR_blocks T n)).mono (by omega)
noncomputable def d_blocks : List T → Mu → Ot T := dR_blocks 4
theorem ok_blocks (T : Tx K mg) : FnG P w K mg base 9 T.a_blocks T.f_blocks ["cells", "sizes"] (spD K T.tab d_blocks 2) := okR_blocks T 4
/-- sizes_of -/
noncomputable def b_sizes_of (m0 : Nat) : Ds := (sRet (dLc true m0 (iSeq true (dVar 0)) (gNm 1) bYes (dBi lenV (aCons (dVar 1) aNil)) [1]))
noncomputable def d_sizes_of : List T → Mu → Ot T := defD 1 2 b_sizes_of
theorem sc_sizes_of : FnScope ["cuts", "row"] ["cuts"] (defScope s_sizes_of) := ⟨rfl, rfl, rfl, by decide +kernel, rfl, by decide +kernel, by decide +kernel⟩
theorem ok_sizes_of (T : Tx K mg) : FnG P w K mg base 1 T.a_sizes_of T.f_sizes_of ["cuts"] (spD K T.tab d_sizes_of 1) :=
  fnD (N := ["cuts", "row"]) (g := b_sizes_of) T.F_sizes_of sc_sizes_of (fun cdv A outer s H E Z hK hT B => by
    obtain ⟨K1, TB1, Hz, F0, ms0⟩ := Z
    obtain rfl : K1 = K := hK
    obtain rfl : TB1 = T.tab := hT
    exact (xss_one (xs_ret (xe_lc true (own := [("row", 1)]) rfl B.toBe.calm B.toBe.nd (xi_lst B.toBe.hK (xe_var rfl (Or.inl rfl) rfl rfl)) (blkOk_by rfl) (by decide) (fun s1 H1 C1 cl1 fp1 => (xg_nm (Be.blk B.toBe s1 H1 _ C1 cl1 fp1).nd rfl (Or.inl rfl) (Or.inr rfl))) (fun s1 H1 C1 cl1 fp1 => xts_nil) (fun s1 H1 C1 cl1 fp1 => (xe_bi (call_lenV (Be.blk B.toBe s1 H1 _ C1 cl1 fp1).hK) rfl T.z_len rfl (xa_cons (xe_var rfl (Or.inl rfl) rfl rfl) xa_nil rfl) (by decide) rfl rfl rfl)) (fun _ => rfl)))))
/-- greatest_boxes -/
noncomputable def b_greatest_boxes (m0 : Nat) : Ds := (sRet (dLc true m0 (iSeq true (dFrz m0 (dCall d_blocks 2 false [false, false] (aCons (dVar 0) (aCons (dFrz m0 (dCall d_sizes_of 1 false [false] (aCons (dVar 1) aNil))) aNil))))) (gTp 2 (gsCons (gNm 2) (gsCons (gNm 3) gsNil))) bYes (dFrz m0 (dCall d_box_of 2 false [false, false] (aCons (dVar 2) (aCons (dVar 1) aNil)))) [2, 3]))
noncomputable def d_greatest_boxes : List T → Mu → Ot T := defD 2 4 b_greatest_boxes
theorem sc_greatest_boxes : FnScope ["cells", "cuts", "ranges", "_"] ["cells", "cuts"] (defScope s_greatest_boxes) := ⟨rfl, rfl, rfl, by decide +kernel, rfl, by decide +kernel, by decide +kernel⟩
theorem ok_greatest_boxes (T : Tx K mg) : FnG P w K mg base 10 T.a_greatest_boxes T.f_greatest_boxes ["cells", "cuts"] (spD K T.tab d_greatest_boxes 2) :=
  fnD (N := ["cells", "cuts", "ranges", "_"]) (g := b_greatest_boxes) T.F_greatest_boxes sc_greatest_boxes (fun cdv A outer s H E Z hK hT B => by
    obtain ⟨K1, TB1, Hz, F0, ms0⟩ := Z
    obtain rfl : K1 = K := hK
    obtain rfl : TB1 = T.tab := hT
    exact (xss_one (xs_ret (xe_lc true (own := [("ranges", 2), ("_", 3)]) rfl B.toBe.calm B.toBe.nd (xi_lst B.toBe.hK (xe_frz rfl (xe_call false [false, false] B.toBe ((ok_blocks T).mono (by decide)) rfl T.m_blocks T.k_blocks T.b_blocks (xa_cons (xe_var rfl (Or.inl rfl) rfl rfl) (xa_cons (xe_frz rfl (xe_call false [false] B.toBe ((ok_sizes_of T).mono (by decide)) rfl T.m_sizes_of T.k_sizes_of T.b_sizes_of (xa_cons (xe_var rfl (Or.inr (Or.inl rfl)) rfl rfl) xa_nil rfl) rfl rfl rfl rfl)) xa_nil rfl) rfl) rfl rfl rfl rfl))) (blkOk_by rfl) (by decide) (fun s1 H1 C1 cl1 fp1 => (xg_tup (Be.blk B.toBe s1 H1 _ C1 cl1 fp1).hK (Be.blk B.toBe s1 H1 _ C1 cl1 fp1).calm (xgs_cons (xg_nm (Be.blk B.toBe s1 H1 _ C1 cl1 fp1).nd rfl (Or.inl rfl) (Or.inr rfl)) (xgs_cons (xg_nm (Be.blk B.toBe s1 H1 _ C1 cl1 fp1).nd rfl (Or.inl rfl) (Or.inr rfl)) xgs_nil rfl) rfl) rfl rfl)) (fun s1 H1 C1 cl1 fp1 => xts_nil) (fun s1 H1 C1 cl1 fp1 => (xe_frz rfl (xe_call false [false, false] (Be.blk B.toBe s1 H1 _ C1 cl1 fp1) ((ok_box_of T).mono (by decide)) rfl T.m_box_of T.k_box_of T.b_box_of (xa_cons (xe_var rfl (Or.inl rfl) rfl rfl) (xa_cons (xe_var rfl (Or.inr (Or.inl rfl)) rfl rfl) xa_nil rfl) rfl) rfl rfl rfl rfl))) (fun _ => rfl)))))
/-- cells_of_box -/
noncomputable def b_cells_of_box (m0 : Nat) : Ds := (sSeq (sAsg (dTupL (aCons (dAtm (.int 1)) (aCons (dAtm (.int 1)) aNil))) (gTp 2 (gsCons (gNm 2) (gsCons (gNm 3) gsNil)))) (sSeq (sFor (iRevR1D (dBi lenV (aCons (dVar 1) aNil))) (gNm 4) (sSeq (sAsg (d2 ixV (dVar 0) (dVar 4)) (gTp 2 (gsCons (gNm 5) (gsCons (gNm 6) gsNil)))) (sSeq (sSet 7 (dMt idxV (d2 ixV (dVar 1) (dVar 4)) (aCons (dVar 5) aNil))) (sSeq (sSet 8 (dIf (bOf (d2 (cmpVt .Is) (dVar 6) (dAtm .non))) (dBi lenV (aCons (d2 ixV (dVar 1) (dVar 4)) aNil)) (dMt idxV (d2 ixV (dVar 1) (dVar 4)) (aCons (d2 (binV false .Add) (dVar 6) (dAtm (.int 1))) aNil)))) (sSeq (sSet 2 (dCall d_repeated 4 false [false, false, false, false] (aCons (dVar 2) (aCons (dVar 3) (aCons (dVar 7) (aCons (dVar 8) aNil)))))) (sSet 3 (d2 (binV false .Mult) (dVar 3) (dBi lenV (aCons (d2 ixV (dVar 1) (dVar 4)) aNil))))))))) (sRet (dVar 2))))
noncomputable def d_cells_of_box : List T → Mu → Ot T := defD 2 9 b_cells_of_box
theorem sc_cells_of_box : FnScope ["box", "cuts", "cells", "width", "kind", "least", "most", "low", "end"] ["box", "cuts"] (defScope s_cells_of_box) := ⟨rfl, rfl, rfl, by decide +kernel, rfl, by decide +kernel, by decide +kernel⟩
theorem ok_cells_of_box (T : Tx K mg) : FnG P w K mg base 2 T.a_cells_of_box T.f_cells_of_box ["box", "cuts"] (spD K T.tab d_cells_of_box 2) :=
  fnD (N := ["box", "cuts", "cells", "width", "kind", "least", "most", "low", "end"]) (g := b_cells_of_box) T.F_cells_of_box sc_cells_of_box (fun cdv A outer s H E Z hK hT B => by
    obtain ⟨K1, TB1, Hz, F0, ms0⟩ := Z
    obtain rfl : K1 = K := hK
    obtain rfl : TB1 = T.tab := hT
    exact (xss_cons (xs_asg (xe_tupL (xa_cons (xe_atm pe_int (fun _ => Dx.int _)) (xa_cons (xe_atm pe_int (fun _ => Dx.int _)) xa_nil rfl) rfl)) (xg_tup B.toBe.hK B.toBe.calm (xgs_cons (xg_nm B.toBe.nd rfl (Or.inl rfl) (Or.inl rfl)) (xgs_cons (xg_nm B.toBe.nd rfl (Or.inl rfl) (Or.inl rfl)) xgs_nil rfl) rfl) rfl rfl) rfl rfl rfl) (xss_cons (xs_for B.own B.toBe.calm (xi_revR1 rfl T.z_reversed rfl T.z_range (xe_bi (call_lenV B.toBe.hK) rfl T.z_len rfl (xa_cons (xe_var rfl (Or.inl rfl) rfl rfl) xa_nil rfl) (by decide) rfl rfl rfl) rfl rfl) (xg_nm B.toBe.nd rfl (Or.inl rfl) (Or.inl rfl)) (xss_cons (xs_asg (xe_ix B.toBe.hK (xe_var rfl (Or.inl rfl) rfl rfl) (xe_var rfl (Or.inl rfl) rfl rfl) (fun _ _ => rfl)) (xg_tup B.toBe.hK B.toBe.calm (xgs_cons (xg_nm B.toBe.nd rfl (Or.inl rfl) (Or.inl rfl)) (xgs_cons (xg_nm B.toBe.nd rfl (Or.inl rfl) (Or.inl rfl)) xgs_nil rfl) rfl) rfl rfl) rfl rfl rfl) (xss_cons (xs_set B.toBe.nd rfl (Or.inl rfl) (xe_mt B.toBe.hK PySem.F.slot_list_index PySem.F.type_list_index (mt_idx B.toBe.hK B.toBe.hu) (xe_ix B.toBe.hK (xe_var rfl (Or.inl rfl) rfl rfl) (xe_var rfl (Or.inl rfl) rfl rfl) (fun _ _ => rfl)) (xa_cons (xe_var rfl (Or.inl rfl) rfl rfl) xa_nil rfl) rfl rfl rfl rfl rfl) rfl (Or.inl rfl)) (xss_cons (xs_set B.toBe.nd rfl (Or.inl rfl) (xe_if (xt_cmp B.toBe.hK B.toBe.hu (xe_var rfl (Or.inl rfl) rfl rfl) (xe_atm pe_non (fun _ => Dx.non)) (nomark _)) (xe_bi (call_lenV B.toBe.hK) rfl T.z_len rfl (xa_cons (xe_ix B.toBe.hK (xe_var rfl (Or.inl rfl) rfl rfl) (xe_var rfl (Or.inl rfl) rfl rfl) (fun _ _ => rfl)) xa_nil rfl) (by decide) rfl rfl rfl) (xe_mt B.toBe.hK PySem.F.slot_list_index PySem.F.type_list_index (mt_idx B.toBe.hK B.toBe.hu) (xe_ix B.toBe.hK (xe_var rfl (Or.inl rfl) rfl rfl) (xe_var rfl (Or.inl rfl) rfl rfl) (fun _ _ => rfl)) (xa_cons (xe_bin B.toBe.hK false (xe_var rfl (Or.inl rfl) rfl rfl) (xe_atm pe_int (fun _ => Dx.int _))) xa_nil rfl) rfl rfl rfl rfl rfl)) rfl (Or.inl rfl)) (xss_cons (xs_set B.toBe.nd rfl (Or.inl rfl) (xe_call false [false, false, false, false] B.toBe ((ok_repeated T).mono (by decide)) rfl T.m_repeated T.k_repeated T.b_repeated (xa_cons (xe_var rfl (Or.inl rfl) rfl rfl) (xa_cons (xe_var rfl (Or.inl rfl) rfl rfl) (xa_cons (xe_var rfl (Or.inl rfl) rfl rfl) (xa_cons (xe_var rfl (Or.inl rfl) rfl rfl) xa_nil rfl) rfl) rfl) rfl) rfl rfl rfl rfl) rfl (Or.inl rfl)) (xss_one (xs_set B.toBe.nd rfl (Or.inl rfl) (xe_bin B.toBe.hK false (xe_var rfl (Or.inl rfl) rfl rfl) (xe_bi (call_lenV B.toBe.hK) rfl T.z_len rfl (xa_cons (xe_ix B.toBe.hK (xe_var rfl (Or.inl rfl) rfl rfl) (xe_var rfl (Or.inl rfl) rfl rfl) (fun _ _ => rfl)) xa_nil rfl) (by decide) rfl rfl rfl)) rfl (Or.inl rfl))))))) (fun _ => rfl)) (xss_one (xs_ret (xe_var rfl (Or.inl rfl) rfl rfl))))))
/-- cells_of -/
noncomputable def b_cells_of (m0 : Nat) : Ds := (sSeq (sSet 2 (dAtm (.int 0))) (sSeq (sFor (iSeq true (dVar 0)) (gNm 3) (sSet 2 (d2 (binV false .BitOr) (dVar 2) (dCall d_cells_of_box 2 false [false, false] (aCons (dVar 3) (aCons (dVar 1) aNil)))))) (sRet (dVar 2))))
noncomputable def d_cells_of : List T → Mu → Ot T := defD 2 4 b_cells_of
theorem sc_cells_of : FnScope ["boxes", "cuts", "cells", "box"] ["boxes", "cuts"] (defScope s_cells_of) := ⟨rfl, rfl, rfl, by decide +kernel, rfl, by decide +kernel, by decide +kernel⟩
theorem ok_cells_of (T : Tx K mg) : FnG P w K mg base 3 T.a_cells_of T.f_cells_of ["boxes", "cuts"] (spD K T.tab d_cells_of 2) :=
  fnD (N := ["boxes", "cuts", "cells", "box"]) (g := b_cells_of) T.F_cells_of sc_cells_of (fun cdv A outer s H E Z hK hT B => by
    obtain ⟨K1, TB1, Hz, F0, ms0⟩ := Z
    obtain rfl : K1 = K := hK
    obtain rfl : TB1 = T.tab := hT
    exact (xss_cons (xs_set B.toBe.nd rfl (Or.inl rfl) (xe_atm pe_int (fun _ => Dx.int _)) rfl (Or.inl rfl)) (xss_cons (xs_for B.own B.toBe.calm (xi_lst B.toBe.hK (xe_var rfl (Or.inl rfl) rfl rfl)) (xg_nm B.toBe.nd rfl (Or.inl rfl) (Or.inl rfl)) (xss_one (xs_set B.toBe.nd rfl (Or.inl rfl) (xe_bin B.toBe.hK false (xe_var rfl (Or.inl rfl) rfl rfl) (xe_call false [false, false] B.toBe ((ok_cells_of_box T).mono (by decide)) rfl T.m_cells_of_box T.k_cells_of_box T.b_cells_of_box (xa_cons (xe_var rfl (Or.inl rfl) rfl rfl) (xa_cons (xe_var rfl (Or.inl rfl) rfl rfl) xa_nil rfl) rfl) rfl rfl rfl rfl)) rfl (Or.inl rfl))) (fun _ => rfl)) (xss_one (xs_ret (xe_var rfl (Or.inl rfl) rfl rfl))))))
/-- is_number -/
noncomputable def b_is_number (m0 : Nat) : Ds := (sRet (dAnd (d1 (isTV .int) (dVar 0)) (dAnd (dNot (d1 (isTV .bool) (dVar 0))) (d2 (cmpVt .GtE) (dVar 0) (dAtm (.int 0))))))
noncomputable def d_is_number : List T → Mu → Ot T := defD 1 1 b_is_number
theorem sc_is_number : FnScope ["value"] ["value"] (defScope s_is_number) := ⟨rfl, rfl, rfl, by decide +kernel, rfl, by decide +kernel, by decide +kernel⟩
theorem ok_is_number (T : Tx K mg) : FnG P w K mg base 1 T.a_is_number T.f_is_number ["value"] (spD K T.tab d_is_number 1) :=
  fnD (N := ["value"]) (g := b_is_number) T.F_is_number sc_is_number (fun cdv A outer s H E Z hK hT B => by
    obtain ⟨K1, TB1, Hz, F0, ms0⟩ := Z
    obtain rfl : K1 = K := hK
    obtain rfl : TB1 = T.tab := hT
    exact (xss_one (xs_ret (xe_and (xe_isT .int rfl T.z_isinstance rfl T.z_int rfl (xe_var rfl (Or.inl rfl) rfl rfl) rfl rfl rfl) (xe_and (xe_not (xe_isT .bool rfl T.z_isinstance rfl T.z_bool rfl (xe_var rfl (Or.inl rfl) rfl rfl) rfl rfl rfl)) (pe_one (xe_cmp B.toBe.hK B.toBe.hu (xe_var rfl (Or.inl rfl) rfl rfl) (xe_atm pe_int (fun _ => Dx.int _)) (nomark _))))))))
/-- is_pair -/
noncomputable def b_is_pair (m0 : Nat) : Ds := (sSeq (sIf (bOr (bNot (bTru (d1 (isTV .tuple) (dVar 0)))) (bOf (d2 (cmpVt .NotEq) (dBi lenV (aCons (dVar 0) aNil)) (dAtm (.int 2))))) (sRet (dAtm (.bl false))) sNil) (sSeq (sAsg (dVar 0) (gTp 2 (gsCons (gNm 1) (gsCons (gNm 2) gsNil)))) (sRet (dAnd (dCall d_is_number 1 false [false] (aCons (dVar 1) aNil)) (dOr (d2 (cmpVt .Is) (dVar 2) (dAtm .non)) (dAnd (dCall d_is_number 1 false [false] (aCons (dVar 2) aNil)) (d2 (cmpVt .GtE) (dVar 2) (dVar 1))))))))
noncomputable def d_is_pair : List T → Mu → Ot T := defD 1 3 b_is_pair
theorem sc_is_pair : FnScope ["pair", "least", "most"] ["pair"] (defScope s_is_pair) := ⟨rfl, rfl, rfl, by decide +kernel, rfl, by decide +kernel, by decide +kernel⟩
theorem ok_is_pair (T : Tx K mg) : FnG P w K mg base 2 T.a_is_pair T.f_is_pair ["pair"] (spD K T.tab d_is_pair 1) :=
  fnD (N := ["pair", "least", "most"]) (g := b_is_pair) T.F_is_pair sc_is_pair (fun cdv A outer s H E Z hK hT B => by
    obtain ⟨K1, TB1, Hz, F0, ms0⟩ := Z
    obtain rfl : K1 = K := hK
    obtain rfl : TB1 = T.tab := hT
    exact (xss_cons (xs_if (PW.pt (xt_or (xt_not (xt_tru B.toBe.hK (xe_isT .tuple rfl T.z_isinstance rfl T.z_tuple rfl (xe_var rfl (Or.inl rfl) rfl rfl) rfl rfl rfl) (fun _ => rfl))) (pw_or1 (xt_cmp B.toBe.hK B.toBe.hu (xe_bi (call_lenV B.toBe.hK) rfl T.z_len rfl (xa_cons (xe_var rfl (Or.inl rfl) rfl rfl) xa_nil rfl) (by decide) rfl rfl rfl) (xe_atm pe_int (fun _ => Dx.int _)) (nomark _))))) (xss_one (xs_ret (xe_atm pe_bl (fun _ => Dx.bl _)))) xss_nil) (xss_cons (xs_asg (xe_var rfl (Or.inl rfl) rfl rfl) (xg_tup B.toBe.hK B.toBe.calm (xgs_cons (xg_nm B.toBe.nd rfl (Or.inl rfl) (Or.inl rfl)) (xgs_cons (xg_nm B.toBe.nd rfl (Or.inl rfl) (Or.inl rfl)) xgs_nil rfl) rfl) rfl rfl) rfl rfl rfl) (xss_one (xs_ret (xe_and (xe_call false [false] B.toBe ((ok_is_number T).mono (by decide)) rfl T.m_is_number T.k_is_number T.b_is_number (xa_cons (xe_var rfl (Or.inl rfl) rfl rfl) xa_nil rfl) rfl rfl rfl rfl) (pe_one (xe_or (xe_cmp B.toBe.hK B.toBe.hu (xe_var rfl (Or.inl rfl) rfl rfl) (xe_atm pe_non (fun _ => Dx.non)) (nomark _)) (pe_one (xe_and (xe_call false [false] B.toBe ((ok_is_number T).mono (by decide)) rfl T.m_is_number T.k_is_number T.b_is_number (xa_cons (xe_var rfl (Or.inl rfl) rfl rfl) xa_nil rfl) rfl rfl rfl rfl) (pe_one (xe_cmp B.toBe.hK B.toBe.hu (xe_var rfl (Or.inl rfl) rfl rfl) (xe_var rfl (Or.inl rfl) rfl rfl) (nomark _)))))))))))))
/-- is_box -/
noncomputable def b_is_box (m0 : Nat) : Ds := (sRet (dAnd (d2 (cmpVt .Eq) (dBi lenV (aCons (dVar 0) aNil)) (dVar 1)) (dBi (onBools fun bs => bs.all id) (aCons (dLc false m0 (iSeq true (dVar 0)) (gNm 2) bYes (dCall d_is_pair 1 false [false] (aCons (dVar 2) aNil)) [2]) aNil))))
noncomputable def d_is_box : List T → Mu → Ot T := defD 2 3 b_is_box
theorem sc_is_box : FnScope ["box", "kinds", "pair"] ["box", "kinds"] (defScope s_is_box) := ⟨rfl, rfl, rfl, by decide +kernel, rfl, by decide +kernel, by decide +kernel⟩
theorem ok_is_box (T : Tx K mg) : FnG P w K mg base 3 T.a_is_box T.f_is_box ["box", "kinds"] (spD K T.tab d_is_box 2) :=
  fnD (N := ["box", "kinds", "pair"]) (g := b_is_box) T.F_is_box sc_is_box (fun cdv A outer s H E Z hK hT B => by
    obtain ⟨K1, TB1, Hz, F0, ms0⟩ := Z
    obtain rfl : K1 = K := hK
    obtain rfl : TB1 = T.tab := hT
    exact (xss_one (xs_ret (xe_and (xe_cmp B.toBe.hK B.toBe.hu (xe_bi (call_lenV B.toBe.hK) rfl T.z_len rfl (xa_cons (xe_var rfl (Or.inl rfl) rfl rfl) xa_nil rfl) (by decide) rfl rfl rfl) (xe_var rfl (Or.inl rfl) rfl rfl) (nomark _)) (pe_one (xe_bi (call_allV B.toBe.hK B.toBe.calm) rfl T.z_all rfl (xa_cons (xe_lc false (own := [("pair", 2)]) rfl B.toBe.calm B.toBe.nd (xi_lst B.toBe.hK (xe_var rfl (Or.inl rfl) rfl rfl)) (blkOk_by rfl) (by decide) (fun s1 H1 C1 cl1 fp1 => (xg_nm (Be.blk B.toBe s1 H1 _ C1 cl1 fp1).nd rfl (Or.inl rfl) (Or.inr rfl))) (fun s1 H1 C1 cl1 fp1 => xts_nil) (fun s1 H1 C1 cl1 fp1 => (xe_call false [false] (Be.blk B.toBe s1 H1 _ C1 cl1 fp1) ((ok_is_pair T).mono (by decide)) rfl T.m_is_pair T.k_is_pair T.b_is_pair (xa_cons (xe_var rfl (Or.inl rfl) rfl rfl) xa_nil rfl) rfl rfl rfl rfl)) (fun _ => rfl)) xa_nil rfl) (by decide) rfl rfl rfl))))))
/-- Family.__init__ -/
noncomputable def b_Family_init (m0 : Nat) : Ds := (sSeq (sFor (iEnumD (aCons (dVar 2) aNil)) (gTp 2 (gsCons (gNm 3) (gsCons (gNm 4) gsNil))) (sIf (bNot (bTru (dCall d_is_box 2 false [false, false] (aCons (dVar 4) (aCons (dVar 1) aNil))))) (sRaise 1 (dVar 3)) sNil)) (sSeq (sSet 5 (dFrz m0 (dCall d_cuts_of 2 false [false, false] (aCons (dVar 1) (aCons (dVar 2) aNil))))) (sSeq (sFldD 0 0 (dVar 0) (dVar 1)) (sFldD 0 1 (dVar 0) (dFrz m0 (dCall d_greatest_boxes 2 false [false, false] (aCons (dCall d_cells_of 2 false [false, false] (aCons (dVar 2) (aCons (dVar 5) aNil))) (aCons (dVar 5) aNil))))))))
noncomputable def d_Family_init : List T → Mu → Ot T := defD 3 6 b_Family_init
theorem sc_Family_init : FnScope ["self", "kinds", "boxes", "at", "box", "cuts"] ["self", "kinds", "boxes"] (defScope s_Family_init) := ⟨rfl, rfl, rfl, by decide +kernel, rfl, by decide +kernel, by decide +kernel⟩
theorem ok_Family_init (T : Tx K mg) : FnG P w K mg base 11 T.a_Family_init T.f_Family_init ["self", "kinds", "boxes"] (spD K T.tab d_Family_init 3) :=
  fnD (N := ["self", "kinds", "boxes", "at", "box", "cuts"]) (g := b_Family_init) T.F_Family_init sc_Family_init (fun cdv A outer s H E Z hK hT B => by
    obtain ⟨K1, TB1, Hz, F0, ms0⟩ := Z
    obtain rfl : K1 = K := hK
    obtain rfl : TB1 = T.tab := hT
    exact (xss_cons (xs_for B.own B.toBe.calm (xi_enum B.toBe.hK rfl T.z_enumerate (xa_cons (xe_var rfl (Or.inl rfl) rfl rfl) xa_nil rfl) rfl) (xg_tup B.toBe.hK B.toBe.calm (xgs_cons (xg_nm B.toBe.nd rfl (Or.inl rfl) (Or.inl rfl)) (xgs_cons (xg_nm B.toBe.nd rfl (Or.inl rfl) (Or.inl rfl)) xgs_nil rfl) rfl) rfl rfl) (xss_one (xs_if (xt_not (xt_tru B.toBe.hK (xe_call false [false, false] B.toBe ((ok_is_box T).mono (by decide)) rfl T.m_is_box T.k_is_box T.b_is_box (xa_cons (xe_var rfl (Or.inl rfl) rfl rfl) (xa_cons (xe_var rfl (Or.inl rfl) rfl rfl) xa_nil rfl) rfl) rfl rfl rfl rfl) (fun _ => rfl))) (xss_one (xs_raise (k := 9) B.toBe rfl T.e_InvalidBox T.ic_InvalidBox T.ti_ErrInit (init_ok (k := 8) T.F_ErrInit sc_ErrInit rfl (Or.inl rfl) (Or.inl rfl) (fun _ _ => rfl)) T.b_ErrInit rfl T.m_InvalidBox (xe_var rfl (Or.inl rfl) rfl rfl) rfl rfl rfl)) xss_nil)) (fun _ => rfl)) (xss_cons (xs_set B.toBe.nd rfl (Or.inl rfl) (xe_frz rfl (xe_call false [false, false] B.toBe ((ok_cuts_of T).mono (by decide)) rfl T.m_cuts_of T.k_cuts_of T.b_cuts_of (xa_cons (xe_var rfl (Or.inl rfl) rfl rfl) (xa_cons (xe_var rfl (Or.inl rfl) rfl rfl) xa_nil rfl) rfl) rfl rfl rfl rfl)) rfl (Or.inl rfl)) (xss_cons (xs_fld B.toBe.hK (i := 0) (c := 0) rfl rfl (by decide +kernel) (by decide) T.c_Family T.n_Family_kinds (xe_var rfl (Or.inl rfl) rfl rfl) (xe_var rfl (Or.inl rfl) rfl rfl) rfl) (xss_one (xs_fld B.toBe.hK (i := 1) (c := 0) rfl rfl (by decide +kernel) (by decide) T.c_Family T.n_Family_boxes (xe_var rfl (Or.inl rfl) rfl rfl) (xe_frz rfl (xe_call false [false, false] B.toBe ((ok_greatest_boxes T).mono (by decide)) rfl T.m_greatest_boxes T.k_greatest_boxes T.b_greatest_boxes (xa_cons (xe_call false [false, false] B.toBe ((ok_cells_of T).mono (by decide)) rfl T.m_cells_of T.k_cells_of T.b_cells_of (xa_cons (xe_var rfl (Or.inl rfl) rfl rfl) (xa_cons (xe_var rfl (Or.inl rfl) rfl rfl) xa_nil rfl) rfl) rfl rfl rfl rfl) (xa_cons (xe_var rfl (Or.inl rfl) rfl rfl) xa_nil rfl) rfl) rfl rfl rfl rfl)) rfl))))))
/-- _law_made -/
noncomputable def b_law_made (m0 : Nat) : Ds := (sRet (dMake d_Family_init 3 0 2 false false [false, false] m0 (aCons (dVar 0) (aCons (dLc false m0 (iSeq true (dVar 1)) (gNm 2) bYes (dBi (listV false) (aCons (dVar 2) aNil)) [2]) aNil))))
noncomputable def d_law_made : List T → Mu → Ot T := defD 2 3 b_law_made
theorem sc_law_made : FnScope ["many", "crates", "crate"] ["many", "crates"] (defScope s_law_made) := ⟨rfl, rfl, rfl, by decide +kernel, rfl, by decide +kernel, by decide +kernel⟩
theorem ok_law_made (T : Tx K mg) : FnG P w K mg base 13 T.a_law_made T.f_law_made ["many", "crates"] (spD K T.tab d_law_made 2) :=
  fnD (N := ["many", "crates", "crate"]) (g := b_law_made) T.F_law_made sc_law_made (fun cdv A outer s H E Z hK hT B => by
    obtain ⟨K1, TB1, Hz, F0, ms0⟩ := Z
    obtain rfl : K1 = K := hK
    obtain rfl : TB1 = T.tab := hT
    exact (xss_one (xs_ret (xe_make false false [false, false] B.toBe rfl T.mk_Family rfl rfl ((ok_Family_init T).mono (by decide)) rfl T.m_Family T.b_Family_init (xa_cons (xe_var rfl (Or.inl rfl) rfl rfl) (xa_cons (xe_lc false (own := [("crate", 2)]) rfl B.toBe.calm B.toBe.nd (xi_lst B.toBe.hK (xe_var rfl (Or.inl rfl) rfl rfl)) (blkOk_by rfl) (by decide) (fun s1 H1 C1 cl1 fp1 => (xg_nm (Be.blk B.toBe s1 H1 _ C1 cl1 fp1).nd rfl (Or.inl rfl) (Or.inr rfl))) (fun s1 H1 C1 cl1 fp1 => xts_nil) (fun s1 H1 C1 cl1 fp1 => (xe_ty (call_listV (Be.blk B.toBe s1 H1 _ C1 cl1 fp1).hK false) rfl T.z_list rfl (xa_cons (xe_var rfl (Or.inl rfl) rfl rfl) xa_nil rfl) (by decide) rfl rfl rfl)) (fun _ => rfl)) xa_nil rfl) rfl) rfl rfl rfl))))
/-- _law_grain -/
noncomputable def b_law_grain (m0 : Nat) : Ds := (sSeq (sIf (bOf (d2 (cmpVt .Gt) (d2 ixV (dVar 0) (dAtm (.int 0))) (dAtm (.int 0)))) (sSeq (sSet 2 (d2 (binV false .Mod) (dBi intV (aCons (d2 ixV (dVar 0) (dAtm (.int 0))) aNil)) (dVar 1))) (sSeq (sPutD (dVar 0) (dAtm (.int 0)) (d2 (binV false .FloorDiv) (d2 ixV (dVar 0) (dAtm (.int 0))) (dVar 1))) (sRet (dVar 2)))) sNil) (sSeq (sPutD (dVar 0) (dAtm (.int 2)) (d2 (binV false .Add) (d2 ixV (dVar 0) (dAtm (.int 2))) (dAtm (.int 1)))) (sSeq (sSet 3 (d2 (binV false .Mod) (d2 (binV false .Pow) (dBi intV (aCons (d2 (binV false .Add) (d2 ixV (dVar 0) (dAtm (.int 1))) (d2 (binV false .Mult) (dAtm (.int 32452843)) (d2 ixV (dVar 0) (dAtm (.int 2))))) aNil)) (dAtm (.int 3))) (d2 (binV false .Add) (d2 (binV false .Pow) (dAtm (.int 10)) (dAtm (.int 29))) (dAtm (.int 319))))) (sSeq (sSet 3 (d2 (binV false .Mod) (d2 (binV false .Pow) (dBi intV (aCons (d2 (binV false .Add) (dVar 3) (d2 (binV false .Mult) (dAtm (.int 122949823)) (d2 ixV (dVar 0) (dAtm (.int 2))))) aNil)) (dAtm (.int 2))) (d2 (binV false .Add) (d2 (binV false .Pow) (dAtm (.int 10)) (dAtm (.int 28))) (dAtm (.int 331))))) (sRet (d2 (binV true .Mod) (dBi intV (aCons (d2 (binV false .FloorDiv) (dVar 3) (dAtm (.int 4096))) aNil)) (dVar 1)))))))
noncomputable def d_law_grain : List T → Mu → Ot T := defD 2 4 b_law_grain
theorem sc_law_grain : FnScope ["mill", "many", "drawn", "mixed"] ["mill", "many"] (defScope s_law_grain) := ⟨rfl, rfl, rfl, by decide +kernel, rfl, by decide +kernel, by decide +kernel⟩
theorem ok_law_grain (T : Tx K mg) : FnG P w K mg base 1 T.a_law_grain T.f_law_grain ["mill", "many"] (spD K T.tab d_law_grain 2) :=
  fnD (N := ["mill", "many", "drawn", "mixed"]) (g := b_law_grain) T.F_law_grain sc_law_grain (fun cdv A outer s H E Z hK hT B => by
    obtain ⟨K1, TB1, Hz, F0, ms0⟩ := Z
    obtain rfl : K1 = K := hK
    obtain rfl : TB1 = T.tab := hT
    exact (xss_cons (xs_if (xt_cmp B.toBe.hK B.toBe.hu (xe_ix B.toBe.hK (xe_var rfl (Or.inl rfl) rfl rfl) (xe_atm pe_int (fun _ => Dx.int _)) (fun _ _ => rfl)) (xe_atm pe_int (fun _ => Dx.int _)) (nomark _)) (xss_cons (xs_set B.toBe.nd rfl (Or.inl rfl) (xe_bin B.toBe.hK false (xe_ty call_intV rfl T.z_int rfl (xa_cons (xe_ix B.toBe.hK (xe_var rfl (Or.inl rfl) rfl rfl) (xe_atm pe_int (fun _ => Dx.int _)) (fun _ _ => rfl)) xa_nil rfl) (by decide) rfl rfl rfl) (xe_var rfl (Or.inl rfl) rfl rfl)) rfl (Or.inl rfl)) (xss_cons (xs_put (xe_var rfl (Or.inl rfl) rfl rfl) (xe_atm pe_int (fun _ => Dx.int _)) (xe_bin B.toBe.hK false (xe_ix B.toBe.hK (xe_var rfl (Or.inl rfl) rfl rfl) (xe_atm pe_int (fun _ => Dx.int _)) (fun _ _ => rfl)) (xe_var rfl (Or.inl rfl) rfl rfl)) (fun _ => rfl) rfl rfl rfl) (xss_one (xs_ret (xe_var rfl (Or.inl rfl) rfl rfl))))) xss_nil) (xss_cons (xs_put (xe_var rfl (Or.inl rfl) rfl rfl) (xe_atm pe_int (fun _ => Dx.int _)) (xe_bin B.toBe.hK false (xe_ix B.toBe.hK (xe_var rfl (Or.inl rfl) rfl rfl) (xe_atm pe_int (fun _ => Dx.int _)) (fun _ _ => rfl)) (xe_atm pe_int (fun _ => Dx.int _))) (fun _ => rfl) rfl rfl rfl) (xss_cons (xs_set B.toBe.nd rfl (Or.inl rfl) (xe_bin B.toBe.hK false (xe_bin B.toBe.hK false (xe_ty call_intV rfl T.z_int rfl (xa_cons (xe_bin B.toBe.hK false (xe_ix B.toBe.hK (xe_var rfl (Or.inl rfl) rfl rfl) (xe_atm pe_int (fun _ => Dx.int _)) (fun _ _ => rfl)) (xe_bin B.toBe.hK false (xe_atm pe_int (fun _ => Dx.int _)) (xe_ix B.toBe.hK (xe_var rfl (Or.inl rfl) rfl rfl) (xe_atm pe_int (fun _ => Dx.int _)) (fun _ _ => rfl)))) xa_nil rfl) (by decide) rfl rfl rfl) (xe_atm pe_int (fun _ => Dx.int _))) (xe_bin B.toBe.hK false (xe_bin B.toBe.hK false (xe_atm pe_int (fun _ => Dx.int _)) (xe_atm pe_int (fun _ => Dx.int _))) (xe_atm pe_int (fun _ => Dx.int _)))) rfl (Or.inl rfl)) (xss_cons (xs_set B.toBe.nd rfl (Or.inl rfl) (xe_bin B.toBe.hK false (xe_bin B.toBe.hK false (xe_ty call_intV rfl T.z_int rfl (xa_cons (xe_bin B.toBe.hK false (xe_var rfl (Or.inl rfl) rfl rfl) (xe_bin B.toBe.hK false (xe_atm pe_int (fun _ => Dx.int _)) (xe_ix B.toBe.hK (xe_var rfl (Or.inl rfl) rfl rfl) (xe_atm pe_int (fun _ => Dx.int _)) (fun _ _ => rfl)))) xa_nil rfl) (by decide) rfl rfl rfl) (xe_atm pe_int (fun _ => Dx.int _))) (xe_bin B.toBe.hK false (xe_bin B.toBe.hK false (xe_atm pe_int (fun _ => Dx.int _)) (xe_atm pe_int (fun _ => Dx.int _))) (xe_atm pe_int (fun _ => Dx.int _)))) rfl (Or.inl rfl)) (xss_one (xs_ret (xe_bin B.toBe.hK true (xe_ty call_intV rfl T.z_int rfl (xa_cons (xe_bin B.toBe.hK false (xe_var rfl (Or.inl rfl) rfl rfl) (xe_atm pe_int (fun _ => Dx.int _))) xa_nil rfl) (by decide) rfl rfl rfl) (xe_var rfl (Or.inl rfl) rfl rfl)))))))))
/-- _law_span -/
noncomputable def b_law_span (m0 : Nat) : Ds := (sSeq (sSet 2 (d2 (binV false .Mult) (dCall d_law_grain 2 false [true, false] (aCons (dVar 0) (aCons (d2 (binV false .Add) (dVar 1) (dAtm (.int 1))) aNil))) (dBi intV (aCons (d2 (cmpVt .Gt) (dCall d_law_grain 2 false [true, false] (aCons (dVar 0) (aCons (dAtm (.int 3)) aNil))) (dAtm (.int 0))) aNil)))) (sRet (dTup (aCons (dVar 2) (aCons (dIf (bOf (d2 (cmpVt .Eq) (dCall d_law_grain 2 false [true, false] (aCons (dVar 0) (aCons (dAtm (.int 3)) aNil))) (dAtm (.int 0)))) (dAtm .non) (d2 (binV false .Add) (dVar 2) (dCall d_law_grain 2 false [true, false] (aCons (dVar 0) (aCons (d2 (binV false .Sub) (d2 (binV false .Add) (dVar 1) (dAtm (.int 1))) (dVar 2)) aNil))))) aNil)))))
noncomputable def d_law_span : List T → Mu → Ot T := defD 2 3 b_law_span
theorem sc_law_span : FnScope ["mill", "top", "low"] ["mill", "top"] (defScope s_law_span) := ⟨rfl, rfl, rfl, by decide +kernel, rfl, by decide +kernel, by decide +kernel⟩
theorem ok_law_span (T : Tx K mg) : FnG P w K mg base 2 T.a_law_span T.f_law_span ["mill", "top"] (spD K T.tab d_law_span 2) :=
  fnD (N := ["mill", "top", "low"]) (g := b_law_span) T.F_law_span sc_law_span (fun cdv A outer s H E Z hK hT B => by
    obtain ⟨K1, TB1, Hz, F0, ms0⟩ := Z
    obtain rfl : K1 = K := hK
    obtain rfl : TB1 = T.tab := hT
    exact (xss_cons (xs_set B.toBe.nd rfl (Or.inl rfl) (xe_bin B.toBe.hK false (xe_call false [true, false] B.toBe ((ok_law_grain T).mono (by decide)) rfl T.m_law_grain T.k_law_grain T.b_law_grain (xa_cons (xe_var rfl (Or.inl rfl) rfl rfl) (xa_cons (xe_bin B.toBe.hK false (xe_var rfl (Or.inl rfl) rfl rfl) (xe_atm pe_int (fun _ => Dx.int _))) xa_nil rfl) rfl) rfl rfl rfl rfl) (xe_ty call_intV rfl T.z_int rfl (xa_cons (xe_cmp B.toBe.hK B.toBe.hu (xe_call false [true, false] B.toBe ((ok_law_grain T).mono (by decide)) rfl T.m_law_grain T.k_law_grain T.b_law_grain (xa_cons (xe_var rfl (Or.inl rfl) rfl rfl) (xa_cons (xe_atm pe_int (fun _ => Dx.int _)) xa_nil rfl) rfl) rfl rfl rfl rfl) (xe_atm pe_int (fun _ => Dx.int _)) (nomark _)) xa_nil rfl) (by decide) rfl rfl rfl)) rfl (Or.inl rfl)) (xss_one (xs_ret (xe_tup (xa_cons (xe_var rfl (Or.inl rfl) rfl rfl) (xa_cons (xe_if (xt_cmp B.toBe.hK B.toBe.hu (xe_call false [true, false] B.toBe ((ok_law_grain T).mono (by decide)) rfl T.m_law_grain T.k_law_grain T.b_law_grain (xa_cons (xe_var rfl (Or.inl rfl) rfl rfl) (xa_cons (xe_atm pe_int (fun _ => Dx.int _)) xa_nil rfl) rfl) rfl rfl rfl rfl) (xe_atm pe_int (fun _ => Dx.int _)) (nomark _)) (xe_atm pe_non (fun _ => Dx.non)) (xe_bin B.toBe.hK false (xe_var rfl (Or.inl rfl) rfl rfl) (xe_call false [true, false] B.toBe ((ok_law_grain T).mono (by decide)) rfl T.m_law_grain T.k_law_grain T.b_law_grain (xa_cons (xe_var rfl (Or.inl rfl) rfl rfl) (xa_cons (xe_bin B.toBe.hK false (xe_bin B.toBe.hK false (xe_var rfl (Or.inl rfl) rfl rfl) (xe_atm pe_int (fun _ => Dx.int _))) (xe_var rfl (Or.inl rfl) rfl rfl)) xa_nil rfl) rfl) rfl rfl rfl rfl))) xa_nil rfl) rfl))))))
/-- _law_near -/
noncomputable def b_law_near (m0 : Nat) : Ds := (sSeq (sPar 3 4 (aCons (dCall d_law_grain 2 false [true, false] (aCons (dVar 0) (aCons (dBi lenV (aCons (dVar 1) aNil)) aNil))) (aCons (dFrz m0 (dCall d_law_span 2 false [true, false] (aCons (dVar 0) (aCons (dVar 2) aNil)))) aNil))) (sSeq (sAsg (d2 ixV (dVar 1) (dVar 3)) (gTp 2 (gsCons (gNm 5) (gsCons (gNm 6) gsNil)))) (sSeq (sSet 7 (dCall d_law_grain 2 false [true, false] (aCons (dVar 0) (aCons (dAtm (.int 4)) aNil)))) (sSeq (sIf (bAnd (bOf (d2 (cmpVt .Eq) (dVar 7) (dAtm (.int 0)))) (bAnd (bOf (d2 (cmpVt .IsNot) (dVar 6) (dAtm .non))) (bOf (d2 (cmpVt .Lt) (dVar 6) (dVar 2))))) (sSet 4 (dTup (aCons (d2 (binV false .Add) (dVar 6) (dAtm (.int 1))) (aCons (d2 ixV (dLst false (aCons (dAtm .non) (aCons (dVar 2) aNil))) (dCall d_law_grain 2 false [true, false] (aCons (dVar 0) (aCons (dAtm (.int 2)) aNil)))) aNil)))) (sIf (bAnd (bOf (d2 (cmpVt .Eq) (dVar 7) (dAtm (.int 1)))) (bOf (d2 (cmpVt .Gt) (dVar 5) (dAtm (.int 0))))) (sSet 4 (dTup (aCons (dCall d_law_grain 2 false [true, false] (aCons (dVar 0) (aCons (dVar 5) aNil))) (aCons (d2 (binV false .Sub) (dVar 5) (dAtm (.int 1))) aNil)))) sNil)) (sRet (d2 (binV true .Add) (d2 (binV false .Add) (dSl false (dVar 1) none (some (dVar 3))) (dLst false (aCons (dVar 4) aNil))) (dSl false (dVar 1) (some (d2 (binV false .Add) (dVar 3) (dAtm (.int 1)))) none)))))))
noncomputable def d_law_near : List T → Mu → Ot T := defD 3 8 b_law_near
theorem sc_law_near : FnScope ["mill", "crate", "top", "at", "span", "low", "high", "way"] ["mill", "crate", "top"] (defScope s_law_near) := ⟨rfl, rfl, rfl, by decide +kernel, rfl, by decide +kernel, by decide +kernel⟩
theorem ok_law_near (T : Tx K mg) : FnG P w K mg base 3 T.a_law_near T.f_law_near ["mill", "crate", "top"] (spD K T.tab d_law_near 3) :=
  fnD (N := ["mill", "crate", "top", "at", "span", "low", "high", "way"]) (g := b_law_near) T.F_law_near sc_law_near (fun cdv A outer s H E Z hK hT B => by
    obtain ⟨K1, TB1, Hz, F0, ms0⟩ := Z
    obtain rfl : K1 = K := hK
    obtain rfl : TB1 = T.tab := hT
    exact (xss_cons (xs_par B.toBe.calm B.toBe.nd rfl rfl (by decide) rfl rfl (xa_cons (xe_call false [true, false] B.toBe ((ok_law_grain T).mono (by decide)) rfl T.m_law_grain T.k_law_grain T.b_law_grain (xa_cons (xe_var rfl (Or.inl rfl) rfl rfl) (xa_cons (xe_bi (call_lenV B.toBe.hK) rfl T.z_len rfl (xa_cons (xe_var rfl (Or.inl rfl) rfl rfl) xa_nil rfl) (by decide) rfl rfl rfl) xa_nil rfl) rfl) rfl rfl rfl rfl) (xa_cons (xe_frz rfl (xe_call false [true, false] B.toBe ((ok_law_span T).mono (by decide)) rfl T.m_law_span T.k_law_span T.b_law_span (xa_cons (xe_var rfl (Or.inl rfl) rfl rfl) (xa_cons (xe_var rfl (Or.inl rfl) rfl rfl) xa_nil rfl) rfl) rfl rfl rfl rfl)) xa_nil rfl) rfl) rfl rfl) (xss_cons (xs_asg (xe_ix B.toBe.hK (xe_var rfl (Or.inl rfl) rfl rfl) (xe_var rfl (Or.inl rfl) rfl rfl) (fun _ _ => rfl)) (xg_tup B.toBe.hK B.toBe.calm (xgs_cons (xg_nm B.toBe.nd rfl (Or.inl rfl) (Or.inl rfl)) (xgs_cons (xg_nm B.toBe.nd rfl (Or.inl rfl) (Or.inl rfl)) xgs_nil rfl) rfl) rfl rfl) rfl rfl rfl) (xss_cons (xs_set B.toBe.nd rfl (Or.inl rfl) (xe_call false [true, false] B.toBe ((ok_law_grain T).mono (by decide)) rfl T.m_law_grain T.k_law_grain T.b_law_grain (xa_cons (xe_var rfl (Or.inl rfl) rfl rfl) (xa_cons (xe_atm pe_int (fun _ => Dx.int _)) xa_nil rfl) rfl) rfl rfl rfl rfl) rfl (Or.inl rfl)) (xss_cons (xs_if (PW.pt (xt_and (xt_cmp B.toBe.hK B.toBe.hu (xe_var rfl (Or.inl rfl) rfl rfl) (xe_atm pe_int (fun _ => Dx.int _)) (nomark _)) (xt_and (xt_cmp B.toBe.hK B.toBe.hu (xe_var rfl (Or.inl rfl) rfl rfl) (xe_atm pe_non (fun _ => Dx.non)) (nomark _)) (pw_and1 (xt_cmp B.toBe.hK B.toBe.hu (xe_var rfl (Or.inl rfl) rfl rfl) (xe_var rfl (Or.inl rfl) rfl rfl) (nomark _)))))) (xss_one (xs_set B.toBe.nd rfl (Or.inl rfl) (xe_tup (xa_cons (xe_bin B.toBe.hK false (xe_var rfl (Or.inl rfl) rfl rfl) (xe_atm pe_int (fun _ => Dx.int _))) (xa_cons (xe_ix B.toBe.hK (xe_lst false (xa_cons (xe_atm pe_non (fun _ => Dx.non)) (xa_cons (xe_var rfl (Or.inl rfl) rfl rfl) xa_nil rfl) rfl)) (xe_call false [true, false] B.toBe ((ok_law_grain T).mono (by decide)) rfl T.m_law_grain T.k_law_grain T.b_law_grain (xa_cons (xe_var rfl (Or.inl rfl) rfl rfl) (xa_cons (xe_atm pe_int (fun _ => Dx.int _)) xa_nil rfl) rfl) rfl rfl rfl rfl) (fun _ _ => rfl)) xa_nil rfl) rfl)) rfl (Or.inl rfl))) (xss_one (xs_if (PW.pt (xt_and (xt_cmp B.toBe.hK B.toBe.hu (xe_var rfl (Or.inl rfl) rfl rfl) (xe_atm pe_int (fun _ => Dx.int _)) (nomark _)) (pw_and1 (xt_cmp B.toBe.hK B.toBe.hu (xe_var rfl (Or.inl rfl) rfl rfl) (xe_atm pe_int (fun _ => Dx.int _)) (nomark _))))) (xss_one (xs_set B.toBe.nd rfl (Or.inl rfl) (xe_tup (xa_cons (xe_call false [true, false] B.toBe ((ok_law_grain T).mono (by decide)) rfl T.m_law_grain T.k_law_grain T.b_law_grain (xa_cons (xe_var rfl (Or.inl rfl) rfl rfl) (xa_cons (xe_var rfl (Or.inl rfl) rfl rfl) xa_nil rfl) rfl) rfl rfl rfl rfl) (xa_cons (xe_bin B.toBe.hK false (xe_var rfl (Or.inl rfl) rfl rfl) (xe_atm pe_int (fun _ => Dx.int _))) xa_nil rfl) rfl)) rfl (Or.inl rfl))) xss_nil))) (xss_one (xs_ret (xe_bin B.toBe.hK true (xe_bin B.toBe.hK false (xe_sl B.toBe.hK false (xe_var rfl (Or.inl rfl) rfl rfl) PoD.none (PoD.some (xe_var rfl (Or.inl rfl) rfl rfl))) (xe_lst false (xa_cons (xe_var rfl (Or.inl rfl) rfl rfl) xa_nil rfl))) (xe_sl B.toBe.hK false (xe_var rfl (Or.inl rfl) rfl rfl) (PoD.some (xe_bin B.toBe.hK false (xe_var rfl (Or.inl rfl) rfl rfl) (xe_atm pe_int (fun _ => Dx.int _)))) PoD.none)))))))))
/-- _law_drawn -/
noncomputable def b_law_drawn (m0 : Nat) : Ds := (sSeq (sSet 4 (dLst true aNil)) (sSeq (sFor (iRng1D (aCons (dCall d_law_grain 2 false [true, false] (aCons (dVar 0) (aCons (d2 (binV false .Add) (dVar 2) (dAtm (.int 1))) aNil))) aNil)) (gNm 5) (sSeq (sSet 6 (dLc false m0 (iRng1D (aCons (dVar 1) aNil)) (gNm 7) bYes (dFrz m0 (dCall d_law_span 2 false [true, false] (aCons (dVar 0) (aCons (dVar 3) aNil)))) [7])) (sSeq (sIf (bAnd (bOf (d2 (cmpVt .NotEq) (dVar 4) (dLst false aNil))) (bOf (d2 (cmpVt .Eq) (dCall d_law_grain 2 false [true, false] (aCons (dVar 0) (aCons (dAtm (.int 2)) aNil))) (dAtm (.int 0))))) (sSet 6 (dFrz m0 (dCall d_law_near 3 false [true, false, false] (aCons (dVar 0) (aCons (d2 ixV (dVar 4) (dCall d_law_grain 2 false [true, false] (aCons (dVar 0) (aCons (dBi lenV (aCons (dVar 4) aNil)) aNil)))) (aCons (dVar 3) aNil)))))) sNil) (sExp (dMt appV (dVar 4) (aCons (dVar 6) aNil)))))) (sRet (dVar 4))))
noncomputable def d_law_drawn : List T → Mu → Ot T := defD 4 8 b_law_drawn
theorem sc_law_drawn : FnScope ["mill", "many", "count", "top", "found", "turn", "crate", "place"] ["mill", "many", "count", "top"] (defScope s_law_drawn) := ⟨rfl, rfl, rfl, by decide +kernel, rfl, by decide +kernel, by decide +kernel⟩
theorem ok_law_drawn (T : Tx K mg) : FnG P w K mg base 4 T.a_law_drawn T.f_law_drawn ["mill", "many", "count", "top"] (spD K T.tab d_law_drawn 4) :=
  fnD (N := ["mill", "many", "count", "top", "found", "turn", "crate", "place"]) (g := b_law_drawn) T.F_law_drawn sc_law_drawn (fun cdv A outer s H E Z hK hT B => by
    obtain ⟨K1, TB1, Hz, F0, ms0⟩ := Z
    obtain rfl : K1 = K := hK
    obtain rfl : TB1 = T.tab := hT
    exact (xss_cons (xs_set B.toBe.nd rfl (Or.inl rfl) (xe_lst true xa_nil) rfl (Or.inl rfl)) (xss_cons (xs_for B.own B.toBe.calm (xi_rng1 rfl T.z_range (xa_cons (xe_call false [true, false] B.toBe ((ok_law_grain T).mono (by decide)) rfl T.m_law_grain T.k_law_grain T.b_law_grain (xa_cons (xe_var rfl (Or.inr (Or.inl rfl)) rfl rfl) (xa_cons (xe_bin B.toBe.hK false (xe_var rfl (Or.inl rfl) rfl rfl) (xe_atm pe_int (fun _ => Dx.int _))) xa_nil rfl) rfl) rfl rfl rfl rfl) xa_nil rfl) rfl) (xg_nm B.toBe.nd rfl (Or.inl rfl) (Or.inl rfl)) (xss_cons (xs_setLc false (own := [("place", 7)]) rfl B.toBe.calm B.toBe.nd rfl rfl rfl (xi_rng1 rfl T.z_range (xa_cons (xe_var rfl (Or.inl rfl) rfl rfl) xa_nil rfl) rfl) (blkOk_by rfl) (by decide) (fun s1 H1 C1 cl1 fp1 => (xg_nm (Be.blk B.toBe s1 H1 _ C1 cl1 fp1).nd rfl (Or.inl rfl) (Or.inr rfl))) (fun s1 H1 C1 cl1 fp1 => xts_nil) (fun s1 H1 C1 cl1 fp1 => (xe_frz rfl (xe_call false [true, false] (Be.blk B.toBe s1 H1 _ C1 cl1 fp1) ((ok_law_span T).mono (by decide)) rfl T.m_law_span T.k_law_span T.b_law_span (xa_cons (xe_var rfl (Or.inr (Or.inl rfl)) rfl rfl) (xa_cons (xe_var rfl (Or.inr (Or.inl rfl)) rfl rfl) xa_nil rfl) rfl) rfl rfl rfl rfl))) (fun _ => rfl)) (xss_cons (xs_if (PW.pt (xt_and (xt_cmp B.toBe.hK B.toBe.hu (xe_var rfl (Or.inl rfl) rfl rfl) (xe_lst false xa_nil) (nomark _)) (pw_and1 (xt_cmp B.toBe.hK B.toBe.hu (xe_call false [true, false] B.toBe ((ok_law_grain T).mono (by decide)) rfl T.m_law_grain T.k_law_grain T.b_law_grain (xa_cons (xe_var rfl (Or.inr (Or.inl rfl)) rfl rfl) (xa_cons (xe_atm pe_int (fun _ => Dx.int _)) xa_nil rfl) rfl) rfl rfl rfl rfl) (xe_atm pe_int (fun _ => Dx.int _)) (nomark _))))) (xss_one (xs_set B.toBe.nd rfl (Or.inl rfl) (xe_frz rfl (xe_call false [true, false, false] B.toBe ((ok_law_near T).mono (by decide)) rfl T.m_law_near T.k_law_near T.b_law_near (xa_cons (xe_var rfl (Or.inr (Or.inl rfl)) rfl rfl) (xa_cons (xe_ix B.toBe.hK (xe_var rfl (Or.inl rfl) rfl rfl) (xe_call false [true, false] B.toBe ((ok_law_grain T).mono (by decide)) rfl T.m_law_grain T.k_law_grain T.b_law_grain (xa_cons (xe_var rfl (Or.inr (Or.inl rfl)) rfl rfl) (xa_cons (xe_bi (call_lenV B.toBe.hK) rfl T.z_len rfl (xa_cons (xe_var rfl (Or.inl rfl) rfl rfl) xa_nil rfl) (by decide) rfl rfl rfl) xa_nil rfl) rfl) rfl rfl rfl rfl) (fun _ _ => rfl)) (xa_cons (xe_var rfl (Or.inr (Or.inl rfl)) rfl rfl) xa_nil rfl) rfl) rfl) rfl rfl rfl rfl)) rfl (Or.inl rfl))) xss_nil) (xss_one (xs_exp (xe_mt B.toBe.hK PySem.F.slot_list_append PySem.F.type_list_append mt_app (xe_var rfl (Or.inl rfl) rfl rfl) (xa_cons (xe_var rfl (Or.inl rfl) rfl rfl) xa_nil rfl) rfl rfl rfl rfl rfl) rfl)))) (fun _ => rfl)) (xss_one (xs_ret (xe_var rfl (Or.inl rfl) rfl rfl))))))
/-- check_alike -/
noncomputable def b_check_alike (m0 : Nat) : Ds := (sIf (bOf (d2 (cmpVt .NotEq) (dVar 0) (dVar 1))) (sRaise 2 (dTup (aCons (dVar 0) (aCons (dVar 1) aNil)))) sNil)
noncomputable def d_check_alike : List T → Mu → Ot T := defD 2 2 b_check_alike
theorem sc_check_alike : FnScope ["own", "other"] ["own", "other"] (defScope s_check_alike) := ⟨rfl, rfl, rfl, by decide +kernel, rfl, by decide +kernel, by decide +kernel⟩
theorem ok_check_alike (T : Tx K mg) : FnG P w K mg base 3 T.a_check_alike T.f_check_alike ["own", "other"] (spD K T.tab d_check_alike 2) :=
  fnD (N := ["own", "other"]) (g := b_check_alike) T.F_check_alike sc_check_alike (fun cdv A outer s H E Z hK hT B => by
    obtain ⟨K1, TB1, Hz, F0, ms0⟩ := Z
    obtain rfl : K1 = K := hK
    obtain rfl : TB1 = T.tab := hT
    exact (xss_one (xs_if (xt_cmp B.toBe.hK B.toBe.hu (xe_var rfl (Or.inl rfl) rfl rfl) (xe_var rfl (Or.inl rfl) rfl rfl) (nomark _)) (xss_one (xs_raise (k := 1) B.toBe rfl T.e_UnlikeKinds T.ic_UnlikeKinds T.ti_ErrInit (init_ok (k := 0) T.F_ErrInit sc_ErrInit rfl (Or.inl rfl) (Or.inl rfl) (fun _ _ => rfl)) T.b_ErrInit rfl T.m_UnlikeKinds (xe_tup (xa_cons (xe_var rfl (Or.inl rfl) rfl rfl) (xa_cons (xe_var rfl (Or.inl rfl) rfl rfl) xa_nil rfl) rfl)) rfl rfl rfl)) xss_nil)))
/-- shared_cuts -/
noncomputable def b_shared_cuts (m0 : Nat) : Ds := (sSeq (sExp (dCall d_check_alike 2 false [false, false] (aCons (d1 (fldV 0 0) (dVar 0)) (aCons (d1 (fldV 0 0) (dVar 1)) aNil)))) (sRet (dCall d_cuts_of 2 false [false, false] (aCons (d1 (fldV 0 0) (dVar 0)) (aCons (d2 (binV false .Add) (d1 (fldV 0 1) (dVar 0)) (d1 (fldV 0 1) (dVar 1))) aNil)))))
noncomputable def d_shared_cuts : List T → Mu → Ot T := defD 2 2 b_shared_cuts
theorem sc_shared_cuts : FnScope ["one", "other"] ["one", "other"] (defScope s_shared_cuts) := ⟨rfl, rfl, rfl, by decide +kernel, rfl, by decide +kernel, by decide +kernel⟩
theorem ok_shared_cuts (T : Tx K mg) : FnG P w K mg base 4 T.a_shared_cuts T.f_shared_cuts ["one", "other"] (spD K T.tab d_shared_cuts 2) :=
  fnD (N := ["one", "other"]) (g := b_shared_cuts) T.F_shared_cuts sc_shared_cuts (fun cdv A outer s H E Z hK hT B => by
    obtain ⟨K1, TB1, Hz, F0, ms0⟩ := Z
    obtain rfl : K1 = K := hK
    obtain rfl : TB1 = T.tab := hT
    exact (xss_cons (xs_exp (xe_call false [false, false] B.toBe ((ok_check_alike T).mono (by decide)) rfl T.m_check_alike T.k_check_alike T.b_check_alike (xa_cons (xe_fld B.toBe.hK (i := 0) (c := 0) rfl rfl (by decide +kernel) T.c_Family T.n_Family_kinds (xe_var rfl (Or.inl rfl) rfl rfl) rfl) (xa_cons (xe_fld B.toBe.hK (i := 0) (c := 0) rfl rfl (by decide +kernel) T.c_Family T.n_Family_kinds (xe_var rfl (Or.inl rfl) rfl rfl) rfl) xa_nil rfl) rfl) rfl rfl rfl rfl) rfl) (xss_one (xs_ret (xe_call false [false, false] B.toBe ((ok_cuts_of T).mono (by decide)) rfl T.m_cuts_of T.k_cuts_of T.b_cuts_of (xa_cons (xe_fld B.toBe.hK (i := 0) (c := 0) rfl rfl (by decide +kernel) T.c_Family T.n_Family_kinds (xe_var rfl (Or.inl rfl) rfl rfl) rfl) (xa_cons (xe_bin B.toBe.hK false (xe_fld B.toBe.hK (i := 1) (c := 0) rfl rfl (by decide +kernel) T.c_Family T.n_Family_boxes (xe_var rfl (Or.inl rfl) rfl rfl) rfl) (xe_fld B.toBe.hK (i := 1) (c := 0) rfl rfl (by decide +kernel) T.c_Family T.n_Family_boxes (xe_var rfl (Or.inl rfl) rfl rfl) rfl)) xa_nil rfl) rfl) rfl rfl rfl rfl)))))
/-- Family.__and__ -/
noncomputable def b_Family_and (m0 : Nat) : Ds := (sSeq (sSet 2 (dFrz m0 (dCall d_shared_cuts 2 false [false, false] (aCons (dVar 0) (aCons (dVar 1) aNil))))) (sSeq (sSet 3 (d2 (binV false .BitAnd) (dCall d_cells_of 2 false [false, false] (aCons (d1 (fldV 0 1) (dVar 0)) (aCons (dVar 2) aNil))) (dCall d_cells_of 2 false [false, false] (aCons (d1 (fldV 0 1) (dVar 1)) (aCons (dVar 2) aNil))))) (sRet (dMake d_Family_init 3 0 2 false false [false, false] m0 (aCons (d1 (fldV 0 0) (dVar 0)) (aCons (dFrz m0 (dCall d_greatest_boxes 2 false [false, false] (aCons (dVar 3) (aCons (dVar 2) aNil)))) aNil))))))
noncomputable def d_Family_and : List T → Mu → Ot T := defD 2 4 b_Family_and
theorem sc_Family_and : FnScope ["self", "other", "cuts", "cells"] ["self", "other"] (defScope s_Family_and) := ⟨rfl, rfl, rfl, by decide +kernel, rfl, by decide +kernel, by decide +kernel⟩
theorem ok_Family_and (T : Tx K mg) : FnG P w K mg base 13 T.a_Family_and T.f_Family_and ["self", "other"] (spD K T.tab d_Family_and 2) :=
  fnD (N := ["self", "other", "cuts", "cells"]) (g := b_Family_and) T.F_Family_and sc_Family_and (fun cdv A outer s H E Z hK hT B => by
    obtain ⟨K1, TB1, Hz, F0, ms0⟩ := Z
    obtain rfl : K1 = K := hK
    obtain rfl : TB1 = T.tab := hT
    exact (xss_cons (xs_set B.toBe.nd rfl (Or.inl rfl) (xe_frz rfl (xe_call false [false, false] B.toBe ((ok_shared_cuts T).mono (by decide)) rfl T.m_shared_cuts T.k_shared_cuts T.b_shared_cuts (xa_cons (xe_var rfl (Or.inl rfl) rfl rfl) (xa_cons (xe_var rfl (Or.inl rfl) rfl rfl) xa_nil rfl) rfl) rfl rfl rfl rfl)) rfl (Or.inl rfl)) (xss_cons (xs_set B.toBe.nd rfl (Or.inl rfl) (xe_bin B.toBe.hK false (xe_call false [false, false] B.toBe ((ok_cells_of T).mono (by decide)) rfl T.m_cells_of T.k_cells_of T.b_cells_of (xa_cons (xe_fld B.toBe.hK (i := 1) (c := 0) rfl rfl (by decide +kernel) T.c_Family T.n_Family_boxes (xe_var rfl (Or.inl rfl) rfl rfl) rfl) (xa_cons (xe_var rfl (Or.inl rfl) rfl rfl) xa_nil rfl) rfl) rfl rfl rfl rfl) (xe_call false [false, false] B.toBe ((ok_cells_of T).mono (by decide)) rfl T.m_cells_of T.k_cells_of T.b_cells_of (xa_cons (xe_fld B.toBe.hK (i := 1) (c := 0) rfl rfl (by decide +kernel) T.c_Family T.n_Family_boxes (xe_var rfl (Or.inl rfl) rfl rfl) rfl) (xa_cons (xe_var rfl (Or.inl rfl) rfl rfl) xa_nil rfl) rfl) rfl rfl rfl rfl)) rfl (Or.inl rfl)) (xss_one (xs_ret (xe_make false false [false, false] B.toBe rfl T.mk_Family rfl rfl ((ok_Family_init T).mono (by decide)) rfl T.m_Family T.b_Family_init (xa_cons (xe_fld B.toBe.hK (i := 0) (c := 0) rfl rfl (by decide +kernel) T.c_Family T.n_Family_kinds (xe_var rfl (Or.inl rfl) rfl rfl) rfl) (xa_cons (xe_frz rfl (xe_call false [false, false] B.toBe ((ok_greatest_boxes T).mono (by decide)) rfl T.m_greatest_boxes T.k_greatest_boxes T.b_greatest_boxes (xa_cons (xe_var rfl (Or.inl rfl) rfl rfl) (xa_cons (xe_var rfl (Or.inl rfl) rfl rfl) xa_nil rfl) rfl) rfl rfl rfl rfl)) xa_nil rfl) rfl) rfl rfl rfl))))))
/-- Family.__or__ -/
noncomputable def b_Family_or (m0 : Nat) : Ds := (sSeq (sExp (dCall d_check_alike 2 false [false, false] (aCons (d1 (fldV 0 0) (dVar 0)) (aCons (d1 (fldV 0 0) (dVar 1)) aNil)))) (sRet (dMake d_Family_init 3 0 2 false false [false, false] m0 (aCons (d1 (fldV 0 0) (dVar 0)) (aCons (d2 (binV false .Add) (d1 (fldV 0 1) (dVar 0)) (d1 (fldV 0 1) (dVar 1))) aNil)))))
noncomputable def d_Family_or : List T → Mu → Ot T := defD 2 2 b_Family_or
theorem sc_Family_or : FnScope ["self", "other"] ["self", "other"] (defScope s_Family_or) := ⟨rfl, rfl, rfl, by decide +kernel, rfl, by decide +kernel, by decide +kernel⟩
theorem ok_Family_or (T : Tx K mg) : FnG P w K mg base 13 T.a_Family_or T.f_Family_or ["self", "other"] (spD K T.tab d_Family_or 2) :=
  fnD (N := ["self", "other"]) (g := b_Family_or) T.F_Family_or sc_Family_or (fun cdv A outer s H E Z hK hT B => by
    obtain ⟨K1, TB1, Hz, F0, ms0⟩ := Z
    obtain rfl : K1 = K := hK
    obtain rfl : TB1 = T.tab := hT
    exact (xss_cons (xs_exp (xe_call false [false, false] B.toBe ((ok_check_alike T).mono (by decide)) rfl T.m_check_alike T.k_check_alike T.b_check_alike (xa_cons (xe_fld B.toBe.hK (i := 0) (c := 0) rfl rfl (by decide +kernel) T.c_Family T.n_Family_kinds (xe_var rfl (Or.inl rfl) rfl rfl) rfl) (xa_cons (xe_fld B.toBe.hK (i := 0) (c := 0) rfl rfl (by decide +kernel) T.c_Family T.n_Family_kinds (xe_var rfl (Or.inl rfl) rfl rfl) rfl) xa_nil rfl) rfl) rfl rfl rfl rfl) rfl) (xss_one (xs_ret (xe_make false false [false, false] B.toBe rfl T.mk_Family rfl rfl ((ok_Family_init T).mono (by decide)) rfl T.m_Family T.b_Family_init (xa_cons (xe_fld B.toBe.hK (i := 0) (c := 0) rfl rfl (by decide +kernel) T.c_Family T.n_Family_kinds (xe_var rfl (Or.inl rfl) rfl rfl) rfl) (xa_cons (xe_bin B.toBe.hK false (xe_fld B.toBe.hK (i := 1) (c := 0) rfl rfl (by decide +kernel) T.c_Family T.n_Family_boxes (xe_var rfl (Or.inl rfl) rfl rfl) rfl) (xe_fld B.toBe.hK (i := 1) (c := 0) rfl rfl (by decide +kernel) T.c_Family T.n_Family_boxes (xe_var rfl (Or.inl rfl) rfl rfl) rfl)) xa_nil rfl) rfl) rfl rfl rfl)))))
/-- Family.__sub__ -/
noncomputable def b_Family_sub (m0 : Nat) : Ds := (sSeq (sSet 2 (dFrz m0 (dCall d_shared_cuts 2 false [false, false] (aCons (dVar 0) (aCons (dVar 1) aNil))))) (sSeq (sSet 3 (d2 (binV false .BitAnd) (dCall d_cells_of 2 false [false, false] (aCons (d1 (fldV 0 1) (dVar 0)) (aCons (dVar 2) aNil))) (d1 invV (dCall d_cells_of 2 false [false, false] (aCons (d1 (fldV 0 1) (dVar 1)) (aCons (dVar 2) aNil)))))) (sRet (dMake d_Family_init 3 0 2 false false [false, false] m0 (aCons (d1 (fldV 0 0) (dVar 0)) (aCons (dFrz m0 (dCall d_greatest_boxes 2 false [false, false] (aCons (dVar 3) (aCons (dVar 2) aNil)))) aNil))))))
noncomputable def d_Family_sub : List T → Mu → Ot T := defD 2 4 b_Family_sub
theorem sc_Family_sub : FnScope ["self", "other", "cuts", "cells"] ["self", "other"] (defScope s_Family_sub) := ⟨rfl, rfl, rfl, by decide +kernel, rfl, by decide +kernel, by decide +kernel⟩
theorem ok_Family_sub (T : Tx K mg) : FnG P w K mg base 13 T.a_Family_sub T.f_Family_sub ["self", "other"] (spD K T.tab d_Family_sub 2) :=
  fnD (N := ["self", "other", "cuts", "cells"]) (g := b_Family_sub) T.F_Family_sub sc_Family_sub (fun cdv A outer s H E Z hK hT B => by
    obtain ⟨K1, TB1, Hz, F0, ms0⟩ := Z
    obtain rfl : K1 = K := hK
    obtain rfl : TB1 = T.tab := hT
    exact (xss_cons (xs_set B.toBe.nd rfl (Or.inl rfl) (xe_frz rfl (xe_call false [false, false] B.toBe ((ok_shared_cuts T).mono (by decide)) rfl T.m_shared_cuts T.k_shared_cuts T.b_shared_cuts (xa_cons (xe_var rfl (Or.inl rfl) rfl rfl) (xa_cons (xe_var rfl (Or.inl rfl) rfl rfl) xa_nil rfl) rfl) rfl rfl rfl rfl)) rfl (Or.inl rfl)) (xss_cons (xs_set B.toBe.nd rfl (Or.inl rfl) (xe_bin B.toBe.hK false (xe_call false [false, false] B.toBe ((ok_cells_of T).mono (by decide)) rfl T.m_cells_of T.k_cells_of T.b_cells_of (xa_cons (xe_fld B.toBe.hK (i := 1) (c := 0) rfl rfl (by decide +kernel) T.c_Family T.n_Family_boxes (xe_var rfl (Or.inl rfl) rfl rfl) rfl) (xa_cons (xe_var rfl (Or.inl rfl) rfl rfl) xa_nil rfl) rfl) rfl rfl rfl rfl) (xe_inv (xe_call false [false, false] B.toBe ((ok_cells_of T).mono (by decide)) rfl T.m_cells_of T.k_cells_of T.b_cells_of (xa_cons (xe_fld B.toBe.hK (i := 1) (c := 0) rfl rfl (by decide +kernel) T.c_Family T.n_Family_boxes (xe_var rfl (Or.inl rfl) rfl rfl) rfl) (xa_cons (xe_var rfl (Or.inl rfl) rfl rfl) xa_nil rfl) rfl) rfl rfl rfl rfl))) rfl (Or.inl rfl)) (xss_one (xs_ret (xe_make false false [false, false] B.toBe rfl T.mk_Family rfl rfl ((ok_Family_init T).mono (by decide)) rfl T.m_Family T.b_Family_init (xa_cons (xe_fld B.toBe.hK (i := 0) (c := 0) rfl rfl (by decide +kernel) T.c_Family T.n_Family_kinds (xe_var rfl (Or.inl rfl) rfl rfl) rfl) (xa_cons (xe_frz rfl (xe_call false [false, false] B.toBe ((ok_greatest_boxes T).mono (by decide)) rfl T.m_greatest_boxes T.k_greatest_boxes T.b_greatest_boxes (xa_cons (xe_var rfl (Or.inl rfl) rfl rfl) (xa_cons (xe_var rfl (Or.inl rfl) rfl rfl) xa_nil rfl) rfl) rfl rfl rfl rfl)) xa_nil rfl) rfl) rfl rfl rfl))))))
/-- lies_within -/
noncomputable def b_lies_within (m0 : Nat) : Ds := (sSeq (sFor (iZipD (aCons (dVar 0) (aCons (dVar 1) aNil))) (gTp 2 (gsCons (gTp 2 (gsCons (gNm 2) (gsCons (gNm 3) gsNil))) (gsCons (gTp 2 (gsCons (gNm 4) (gsCons (gNm 5) gsNil))) gsNil))) (sIf (bOr (bOf (d2 (cmpVt .Lt) (dVar 2) (dVar 4))) (bAnd (bOf (d2 (cmpVt .IsNot) (dVar 5) (dAtm .non))) (bOr (bOf (d2 (cmpVt .Is) (dVar 3) (dAtm .non))) (bOf (d2 (cmpVt .Gt) (dVar 3) (dVar 5)))))) (sRet (dAtm (.bl false))) sNil)) (sRet (dAtm (.bl true))))
noncomputable def d_lies_within : List T → Mu → Ot T := defD 2 6 b_lies_within
theorem sc_lies_within : FnScope ["box", "wide", "least", "most", "low", "high"] ["box", "wide"] (defScope s_lies_within) := ⟨rfl, rfl, rfl, by decide +kernel, rfl, by decide +kernel, by decide +kernel⟩
theorem ok_lies_within (T : Tx K mg) : FnG P w K mg base 1 T.a_lies_within T.f_lies_within ["box", "wide"] (spD K T.tab d_lies_within 2) :=
  fnD (N := ["box", "wide", "least", "most", "low", "high"]) (g := b_lies_within) T.F_lies_within sc_lies_within (fun cdv A outer s H E Z hK hT B => by
    obtain ⟨K1, TB1, Hz, F0, ms0⟩ := Z
    obtain rfl : K1 = K := hK
    obtain rfl : TB1 = T.tab := hT
    exact (xss_cons (xs_for B.own B.toBe.calm (xi_zip B.toBe.hK rfl T.z_zip (xa_cons (xe_var rfl (Or.inl rfl) rfl rfl) (xa_cons (xe_var rfl (Or.inl rfl) rfl rfl) xa_nil rfl) rfl) rfl rfl) (xg_tup B.toBe.hK B.toBe.calm (xgs_cons (xg_tup B.toBe.hK B.toBe.calm (xgs_cons (xg_nm B.toBe.nd rfl (Or.inl rfl) (Or.inl rfl)) (xgs_cons (xg_nm B.toBe.nd rfl (Or.inl rfl) (Or.inl rfl)) xgs_nil rfl) rfl) rfl rfl) (xgs_cons (xg_tup B.toBe.hK B.toBe.calm (xgs_cons (xg_nm B.toBe.nd rfl (Or.inl rfl) (Or.inl rfl)) (xgs_cons (xg_nm B.toBe.nd rfl (Or.inl rfl) (Or.inl rfl)) xgs_nil rfl) rfl) rfl rfl) xgs_nil rfl) rfl) rfl rfl) (xss_one (xs_if (PW.pt (xt_or (xt_cmp B.toBe.hK B.toBe.hu (xe_var rfl (Or.inl rfl) rfl rfl) (xe_var rfl (Or.inl rfl) rfl rfl) (nomark _)) (pw_or1 (PW.pt (xt_and (xt_cmp B.toBe.hK B.toBe.hu (xe_var rfl (Or.inl rfl) rfl rfl) (xe_atm pe_non (fun _ => Dx.non)) (nomark _)) (pw_and1 (PW.pt (xt_or (xt_cmp B.toBe.hK B.toBe.hu (xe_var rfl (Or.inl rfl) rfl rfl) (xe_atm pe_non (fun _ => Dx.non)) (nomark _)) (pw_or1 (xt_cmp B.toBe.hK B.toBe.hu (xe_var rfl (Or.inl rfl) rfl rfl) (xe_var rfl (Or.inl rfl) rfl rfl) (nomark _))))))))))) (xss_one (xs_ret (xe_atm pe_bl (fun _ => Dx.bl _)))) xss_nil)) (fun _ => rfl)) (xss_one (xs_ret (xe_atm pe_bl (fun _ => Dx.bl _))))))
/-- Family.within -/
noncomputable def b_Family_within (m0 : Nat) : Ds := (sSeq (sExp (dCall d_check_alike 2 false [false, false] (aCons (d1 (fldV 0 0) (dVar 0)) (aCons (d1 (fldV 0 0) (dVar 1)) aNil)))) (sSeq (sFor (iSeq true (d1 (fldV 0 1) (dVar 0))) (gNm 2) (sIf (bNot (bTru (dBi (onBools fun bs => bs.any id) (aCons (dLc false m0 (iSeq true (d1 (fldV 0 1) (dVar 1))) (gNm 3) bYes (dFrz m0 (dCall d_lies_within 2 false [false, false] (aCons (dVar 2) (aCons (dVar 3) aNil)))) [3]) aNil)))) (sRet (dAtm (.bl false))) sNil)) (sRet (dAtm (.bl true)))))
noncomputable def d_Family_within : List T → Mu → Ot T := defD 2 4 b_Family_within
theorem sc_Family_within : FnScope ["self", "other", "box", "wide"] ["self", "other"] (defScope s_Family_within) := ⟨rfl, rfl, rfl, by decide +kernel, rfl, by decide +kernel, by decide +kernel⟩
theorem ok_Family_within (T : Tx K mg) : FnG P w K mg base 4 T.a_Family_within T.f_Family_within ["self", "other"] (spD K T.tab d_Family_within 2) :=
  fnD (N := ["self", "other", "box", "wide"]) (g := b_Family_within) T.F_Family_within sc_Family_within (fun cdv A outer s H E Z hK hT B => by
    obtain ⟨K1, TB1, Hz, F0, ms0⟩ := Z
    obtain rfl : K1 = K := hK
    obtain rfl : TB1 = T.tab := hT
    exact (xss_cons (xs_exp (xe_call false [false, false] B.toBe ((ok_check_alike T).mono (by decide)) rfl T.m_check_alike T.k_check_alike T.b_check_alike (xa_cons (xe_fld B.toBe.hK (i := 0) (c := 0) rfl rfl (by decide +kernel) T.c_Family T.n_Family_kinds (xe_var rfl (Or.inl rfl) rfl rfl) rfl) (xa_cons (xe_fld B.toBe.hK (i := 0) (c := 0) rfl rfl (by decide +kernel) T.c_Family T.n_Family_kinds (xe_var rfl (Or.inl rfl) rfl rfl) rfl) xa_nil rfl) rfl) rfl rfl rfl rfl) rfl) (xss_cons (xs_for B.own B.toBe.calm (xi_lst B.toBe.hK (xe_fld B.toBe.hK (i := 1) (c := 0) rfl rfl (by decide +kernel) T.c_Family T.n_Family_boxes (xe_var rfl (Or.inl rfl) rfl rfl) rfl)) (xg_nm B.toBe.nd rfl (Or.inr rfl) (Or.inl rfl)) (xss_one (xs_if (xt_not (xt_tru B.toBe.hK (xe_bi (call_anyV B.toBe.hK B.toBe.calm) rfl T.z_any rfl (xa_cons (xe_lc false (own := [("wide", 3)]) rfl B.toBe.calm B.toBe.nd (xi_lst B.toBe.hK (xe_fld B.toBe.hK (i := 1) (c := 0) rfl rfl (by decide +kernel) T.c_Family T.n_Family_boxes (xe_var rfl (Or.inl rfl) rfl rfl) rfl)) (blkOk_by rfl) (by decide) (fun s1 H1 C1 cl1 fp1 => (xg_nm (Be.blk B.toBe s1 H1 _ C1 cl1 fp1).nd rfl (Or.inl rfl) (Or.inr rfl))) (fun s1 H1 C1 cl1 fp1 => xts_nil) (fun s1 H1 C1 cl1 fp1 => (xe_frz rfl (xe_call false [false, false] (Be.blk B.toBe s1 H1 _ C1 cl1 fp1) ((ok_lies_within T).mono (by decide)) rfl T.m_lies_within T.k_lies_within T.b_lies_within (xa_cons (xe_var rfl (Or.inr (Or.inl rfl)) rfl rfl) (xa_cons (xe_var rfl (Or.inl rfl) rfl rfl) xa_nil rfl) rfl) rfl rfl rfl rfl))) (fun _ => rfl)) xa_nil rfl) (by decide) rfl rfl rfl) (fun _ => rfl))) (xss_one (xs_ret (xe_atm pe_bl (fun _ => Dx.bl _)))) xss_nil)) (fun _ => rfl)) (xss_one (xs_ret (xe_atm pe_bl (fun _ => Dx.bl _)))))))
/-- _law_caught -/
noncomputable def b_law_caught (m0 : Nat) : Ds := (sSeq (sSet 3 (dAtm .non)) (sSeq (sTry 5 (sIf (bOf (d2 (cmpVt .Eq) (dVar 0) (dAtm (.int 0)))) (sSet 4 (dBOwn d_Family_and 0 false (dVar 1) (dVar 2))) (sIf (bOf (d2 (cmpVt .Eq) (dVar 0) (dAtm (.int 1)))) (sSet 4 (dBOwn d_Family_or 0 false (dVar 1) (dVar 2))) (sIf (bOf (d2 (cmpVt .Eq) (dVar 0) (dAtm (.int 2)))) (sSet 4 (dBOwn d_Family_sub 0 false (dVar 1) (dVar 2))) (sSet 4 (dIf (bOf (d2 (cmpVt .Eq) (dVar 0) (dAtm (.int 3)))) (dFrz m0 (dMeth d_Family_within 2 0 false [false, false] (dVar 1) (aCons (dVar 2) aNil))) (dFrz m0 (dMethK d_Family_within 2 0 false [false, false] [0] 1 (dVar 1) (aCons (dVar 2) aNil)))))))) (fun c t => (sSet 3 (dLst false (aCons (dAtm (.bl (exIs c 2))) (aCons (dXv t) aNil)))))) (sRet (dVar 3))))
noncomputable def d_law_caught : List T → Mu → Ot T := defD 3 6 b_law_caught
theorem sc_law_caught : FnScope ["way", "made", "mate", "caught", "held", "e"] ["way", "made", "mate"] (defScope s_law_caught) := ⟨rfl, rfl, rfl, by decide +kernel, rfl, by decide +kernel, by decide +kernel⟩
theorem ok_law_caught (T : Tx K mg) : FnG P w K mg base 14 T.a_law_caught T.f_law_caught ["way", "made", "mate"] (spD K T.tab d_law_caught 3) :=
  fnD (N := ["way", "made", "mate", "caught", "held", "e"]) (g := b_law_caught) T.F_law_caught sc_law_caught (fun cdv A outer s H E Z hK hT B => by
    obtain ⟨K1, TB1, Hz, F0, ms0⟩ := Z
    obtain rfl : K1 = K := hK
    obtain rfl : TB1 = T.tab := hT
    exact (xss_cons (xs_set B.toBe.nd rfl (Or.inl rfl) (xe_atm pe_non (fun _ => Dx.non)) rfl (Or.inl rfl)) (xss_cons (xs_try (i := 5) B.toBe rfl rfl rfl rfl ⟨rfl, by decide, .inl T.m_CrowdError⟩ T.exm (fun W1 pn1 xe1 tk1 hp1 => (xss_one (xs_if (xt_cmp (Bs.tr B tk1 hp1).toBe.hK (Bs.tr B tk1 hp1).toBe.hu (xe_var rfl (Or.inl rfl) rfl rfl) (xe_atm pe_int (fun _ => Dx.int _)) (nomark _)) (xss_one (xs_set (Bs.tr B tk1 hp1).toBe.nd rfl (Or.inl rfl) (xe_bOwn false (Bs.tr B tk1 hp1).toBe rfl ((ok_Family_and T).mono (by decide)) (by decide +kernel) T.og_Family_and T.oi_Family_and T.sf_Family T.b_Family_and rfl (xe_var rfl (Or.inl rfl) rfl rfl) (xe_var rfl (Or.inl rfl) rfl rfl)) rfl (Or.inl rfl))) (xss_one (xs_if (xt_cmp (Bs.tr B tk1 hp1).toBe.hK (Bs.tr B tk1 hp1).toBe.hu (xe_var rfl (Or.inl rfl) rfl rfl) (xe_atm pe_int (fun _ => Dx.int _)) (nomark _)) (xss_one (xs_set (Bs.tr B tk1 hp1).toBe.nd rfl (Or.inl rfl) (xe_bOwn false (Bs.tr B tk1 hp1).toBe rfl ((ok_Family_or T).mono (by decide)) (by decide +kernel) T.og_Family_or T.oi_Family_or T.sf_Family T.b_Family_or rfl (xe_var rfl (Or.inl rfl) rfl rfl) (xe_var rfl (Or.inl rfl) rfl rfl)) rfl (Or.inl rfl))) (xss_one (xs_if (xt_cmp (Bs.tr B tk1 hp1).toBe.hK (Bs.tr B tk1 hp1).toBe.hu (xe_var rfl (Or.inl rfl) rfl rfl) (xe_atm pe_int (fun _ => Dx.int _)) (nomark _)) (xss_one (xs_set (Bs.tr B tk1 hp1).toBe.nd rfl (Or.inl rfl) (xe_bOwn false (Bs.tr B tk1 hp1).toBe rfl ((ok_Family_sub T).mono (by decide)) (by decide +kernel) T.og_Family_sub T.oi_Family_sub T.sf_Family T.b_Family_sub rfl (xe_var rfl (Or.inl rfl) rfl rfl) (xe_var rfl (Or.inl rfl) rfl rfl)) rfl (Or.inl rfl))) (xss_one (xs_set (Bs.tr B tk1 hp1).toBe.nd rfl (Or.inl rfl) (xe_if (xt_cmp (Bs.tr B tk1 hp1).toBe.hK (Bs.tr B tk1 hp1).toBe.hu (xe_var rfl (Or.inl rfl) rfl rfl) (xe_atm pe_int (fun _ => Dx.int _)) (nomark _)) (xe_frz rfl (xe_meth false [false, false] (Bs.tr B tk1 hp1).toBe (xe_var rfl (Or.inl rfl) rfl rfl) rfl (by decide +kernel) T.c_Family T.e_Family_within ((ok_Family_within T).mono (by decide)) T.b_Family_within (xa_cons (xe_var rfl (Or.inl rfl) rfl rfl) xa_nil rfl) rfl rfl rfl rfl)) (xe_frz rfl (xe_methK (ks := ["other"]) (pm := [0]) false [false, false] (Bs.tr B tk1 hp1).toBe (xe_var rfl (Or.inl rfl) rfl rfl) rfl (by decide +kernel) T.c_Family T.e_Family_within ((ok_Family_within T).mono (by decide)) T.kb_Family_within_0 (xk_cons (xe_var rfl (Or.inl rfl) rfl rfl) xk_nil) rfl rfl rfl rfl))) rfl (Or.inl rfl)))))))))) (fun a oe cls d pn c t hz hf => (xxs_one (xxs_set B.toBe.nd rfl (Or.inl rfl) (xx_lst false (xx_cons (xx_isi (T.errs _) (T.kit_UnlikeKinds _) hz hf rfl T.z_isinstance rfl T.m_UnlikeKinds rfl rfl (Or.inl rfl) rfl rfl rfl rfl rfl) (xx_cons (xx_val (T.errs _) hz hf rfl (Or.inl rfl) rfl rfl rfl) xx_nil rfl) rfl)) rfl (Or.inl rfl))))) (xss_one (xs_ret (xe_var rfl (Or.inl rfl) rfl rfl))))))
/-- _law_right -/
noncomputable def b_law_right (m0 : Nat) : Ds := (sSeq (sSet 1 (dLst true aNil)) (sSeq (sFor (iRng1D (aCons (dAtm (.int 3)) aNil)) (gNm 2) (sSeq (sSet 3 (d2 (binV false .Add) (dAtm (.int 1)) (dCall d_law_grain 2 false [true, false] (aCons (dVar 0) (aCons (dAtm (.int 3)) aNil))))) (sExp (dMt appV (dVar 1) (aCons (dTup (aCons (dVar 3) (aCons (dIf (bOf (d2 (cmpVt .Eq) (dCall d_law_grain 2 false [true, false] (aCons (dVar 0) (aCons (dAtm (.int 4)) aNil))) (dAtm (.int 0)))) (dLst false aNil) (dFrz m0 (dCall d_law_drawn 4 false [true, false, false, false] (aCons (dVar 0) (aCons (dVar 3) (aCons (dAtm (.int 3)) (aCons (dAtm (.int 3)) aNil))))))) aNil))) aNil))))) (sSeq (sSet 4 (dLc false m0 (iSeq true (dVar 1)) (gNm 5) bYes (dFrz m0 (dCall d_law_made 2 false [false, false] (aCons (d2 ixV (dVar 5) (dAtm (.int 0))) (aCons (d2 ixV (dVar 5) (dAtm (.int 1))) aNil)))) [5])) (sSeq (sFor (iRng1D (aCons (dAtm (.int 3)) aNil)) (gNm 6) (sFor (iRng1D (aCons (dAtm (.int 3)) aNil)) (gNm 7) (sSeq (sSet 8 (dTup (aCons (d2 ixV (d2 ixV (dVar 1) (dVar 6)) (dAtm (.int 0))) (aCons (d2 ixV (d2 ixV (dVar 1) (dVar 7)) (dAtm (.int 0))) aNil)))) (sSeq (sSet 9 (dBi reprV (aCons (dIf (bOf (d2 (cmpVt .NotEq) (d2 ixV (dVar 8) (dAtm (.int 0))) (d2 ixV (dVar 8) (dAtm (.int 1))))) (dLst false (aCons (dAtm (.bl true)) (aCons (dVar 8) aNil))) (dAtm .non)) aNil))) (sFor (iRng1D (aCons (dAtm (.int 5)) aNil)) (gNm 10) (sIf (bOf (d2 (cmpVt .NotEq) (dBi reprV (aCons (dFrz m0 (dCall d_law_caught 3 false [false, false, false] (aCons (dVar 10) (aCons (d2 ixV (dVar 4) (dVar 6)) (aCons (d2 ixV (dVar 4) (dVar 7)) aNil))))) aNil)) (dVar 9))) (sRet (dAtm (.bl false))) sNil)))))) (sRet (dEqLst d_Family_eq 0 (dVar 4) (dLc false m0 (iSeq true (dVar 1)) (gNm 5) bYes (dFrz m0 (dCall d_law_made 2 false [false, false] (aCons (d2 ixV (dVar 5) (dAtm (.int 0))) (aCons (d2 ixV (dVar 5) (dAtm (.int 1))) aNil)))) [5])))))))
noncomputable def d_law_right : List T → Mu → Ot T := defD 1 11 b_law_right
theorem sc_law_right : FnScope ["mill", "plans", "turn", "many", "made", "plan", "at", "far", "numbers", "due", "way"] ["mill"] (defScope s_law_right) := ⟨rfl, rfl, rfl, by decide +kernel, rfl, by decide +kernel, by decide +kernel⟩
theorem ok_law_right (T : Tx K mg) : FnG P w K mg base 15 T.a_law_right T.f_law_right ["mill"] (spD K T.tab d_law_right 1) :=
  fnD (N := ["mill", "plans", "turn", "many", "made", "plan", "at", "far", "numbers", "due", "way"]) (g := b_law_right) T.F_law_right sc_law_right (fun cdv A outer s H E Z hK hT B => by
    obtain ⟨K1, TB1, Hz, F0, ms0⟩ := Z
    obtain rfl : K1 = K := hK
    obtain rfl : TB1 = T.tab := hT
    exact (xss_cons (xs_set B.toBe.nd rfl (Or.inl rfl) (xe_lst true xa_nil) rfl (Or.inl rfl)) (xss_cons (xs_for B.own B.toBe.calm (xi_rng1 rfl T.z_range (xa_cons (xe_atm pe_int (fun _ => Dx.int _)) xa_nil rfl) rfl) (xg_nm B.toBe.nd rfl (Or.inl rfl) (Or.inl rfl)) (xss_cons (xs_set B.toBe.nd rfl (Or.inl rfl) (xe_bin B.toBe.hK false (xe_atm pe_int (fun _ => Dx.int _)) (xe_call false [true, false] B.toBe ((ok_law_grain T).mono (by decide)) rfl T.m_law_grain T.k_law_grain T.b_law_grain (xa_cons (xe_var rfl (Or.inl rfl) rfl rfl) (xa_cons (xe_atm pe_int (fun _ => Dx.int _)) xa_nil rfl) rfl) rfl rfl rfl rfl)) rfl (Or.inl rfl)) (xss_one (xs_exp (xe_mt B.toBe.hK PySem.F.slot_list_append PySem.F.type_list_append mt_app (xe_var rfl (Or.inl rfl) rfl rfl) (xa_cons (xe_tup (xa_cons (xe_var rfl (Or.inl rfl) rfl rfl) (xa_cons (xe_if (xt_cmp B.toBe.hK B.toBe.hu (xe_call false [true, false] B.toBe ((ok_law_grain T).mono (by decide)) rfl T.m_law_grain T.k_law_grain T.b_law_grain (xa_cons (xe_var rfl (Or.inl rfl) rfl rfl) (xa_cons (xe_atm pe_int (fun _ => Dx.int _)) xa_nil rfl) rfl) rfl rfl rfl rfl) (xe_atm pe_int (fun _ => Dx.int _)) (nomark _)) (xe_lst false xa_nil) (xe_frz rfl (xe_call false [true, false, false, false] B.toBe ((ok_law_drawn T).mono (by decide)) rfl T.m_law_drawn T.k_law_drawn T.b_law_drawn (xa_cons (xe_var rfl (Or.inl rfl) rfl rfl) (xa_cons (xe_var rfl (Or.inl rfl) rfl rfl) (xa_cons (xe_atm pe_int (fun _ => Dx.int _)) (xa_cons (xe_atm pe_int (fun _ => Dx.int _)) xa_nil rfl) rfl) rfl) rfl) rfl rfl rfl rfl))) xa_nil rfl) rfl)) xa_nil rfl) rfl rfl rfl rfl rfl) rfl))) (fun _ => rfl)) (xss_cons (xs_setLc false (own := [("plan", 5)]) rfl B.toBe.calm B.toBe.nd rfl rfl rfl (xi_lst B.toBe.hK (xe_var rfl (Or.inl rfl) rfl rfl)) (blkOk_by rfl) (by decide) (fun s1 H1 C1 cl1 fp1 => (xg_nm (Be.blk B.toBe s1 H1 _ C1 cl1 fp1).nd rfl (Or.inl rfl) (Or.inr rfl))) (fun s1 H1 C1 cl1 fp1 => xts_nil) (fun s1 H1 C1 cl1 fp1 => (xe_frz rfl (xe_call false [false, false] (Be.blk B.toBe s1 H1 _ C1 cl1 fp1) ((ok_law_made T).mono (by decide)) rfl T.m_law_made T.k_law_made T.b_law_made (xa_cons (xe_ix (Be.blk B.toBe s1 H1 _ C1 cl1 fp1).hK (xe_var rfl (Or.inl rfl) rfl rfl) (xe_atm pe_int (fun _ => Dx.int _)) (fun _ _ => rfl)) (xa_cons (xe_ix (Be.blk B.toBe s1 H1 _ C1 cl1 fp1).hK (xe_var rfl (Or.inl rfl) rfl rfl) (xe_atm pe_int (fun _ => Dx.int _)) (fun _ _ => rfl)) xa_nil rfl) rfl) rfl rfl rfl rfl))) (fun _ => rfl)) (xss_cons (xs_for B.own B.toBe.calm (xi_rng1 rfl T.z_range (xa_cons (xe_atm pe_int (fun _ => Dx.int _)) xa_nil rfl) rfl) (xg_nm B.toBe.nd rfl (Or.inl rfl) (Or.inl rfl)) (xss_one (xs_for B.own B.toBe.calm (xi_rng1 rfl T.z_range (xa_cons (xe_atm pe_int (fun _ => Dx.int _)) xa_nil rfl) rfl) (xg_nm B.toBe.nd rfl (Or.inl rfl) (Or.inl rfl)) (xss_cons (xs_set B.toBe.nd rfl (Or.inl rfl) (xe_tup (xa_cons (xe_ix B.toBe.hK (xe_ix B.toBe.hK (xe_var rfl (Or.inl rfl) rfl rfl) (xe_var rfl (Or.inl rfl) rfl rfl) (fun _ _ => rfl)) (xe_atm pe_int (fun _ => Dx.int _)) (fun _ _ => rfl)) (xa_cons (xe_ix B.toBe.hK (xe_ix B.toBe.hK (xe_var rfl (Or.inl rfl) rfl rfl) (xe_var rfl (Or.inl rfl) rfl rfl) (fun _ _ => rfl)) (xe_atm pe_int (fun _ => Dx.int _)) (fun _ _ => rfl)) xa_nil rfl) rfl)) rfl (Or.inl rfl)) (xss_cons (xs_set B.toBe.nd rfl (Or.inl rfl) (xe_bi (call_reprV B.toBe.hK B.toBe.gd B.toBe.hu) rfl T.z_repr rfl (xa_cons (xe_if (xt_cmp B.toBe.hK B.toBe.hu (xe_ix B.toBe.hK (xe_var rfl (Or.inl rfl) rfl rfl) (xe_atm pe_int (fun _ => Dx.int _)) (fun _ _ => rfl)) (xe_ix B.toBe.hK (xe_var rfl (Or.inl rfl) rfl rfl) (xe_atm pe_int (fun _ => Dx.int _)) (fun _ _ => rfl)) (nomark _)) (xe_lst false (xa_cons (xe_atm pe_bl (fun _ => Dx.bl _)) (xa_cons (xe_var rfl (Or.inl rfl) rfl rfl) xa_nil rfl) rfl)) (xe_atm pe_non (fun _ => Dx.non))) xa_nil rfl) (by decide) rfl rfl rfl) rfl (Or.inl rfl)) (xss_one (xs_for B.own B.toBe.calm (xi_rng1 rfl T.z_range (xa_cons (xe_atm pe_int (fun _ => Dx.int _)) xa_nil rfl) rfl) (xg_nm B.toBe.nd rfl (Or.inl rfl) (Or.inl rfl)) (xss_one (xs_if (xt_cmp B.toBe.hK B.toBe.hu (xe_bi (call_reprV B.toBe.hK B.toBe.gd B.toBe.hu) rfl T.z_repr rfl (xa_cons (xe_frz rfl (xe_call false [false, false, false] B.toBe ((ok_law_caught T).mono (by decide)) rfl T.m_law_caught T.k_law_caught T.b_law_caught (xa_cons (xe_var rfl (Or.inl rfl) rfl rfl) (xa_cons (xe_ix B.toBe.hK (xe_var rfl (Or.inl rfl) rfl rfl) (xe_var rfl (Or.inl rfl) rfl rfl) (fun _ _ => rfl)) (xa_cons (xe_ix B.toBe.hK (xe_var rfl (Or.inl rfl) rfl rfl) (xe_var rfl (Or.inl rfl) rfl rfl) (fun _ _ => rfl)) xa_nil rfl) rfl) rfl) rfl rfl rfl rfl)) xa_nil rfl) (by decide) rfl rfl rfl) (xe_var rfl (Or.inl rfl) rfl rfl) (nomark _)) (xss_one (xs_ret (xe_atm pe_bl (fun _ => Dx.bl _)))) xss_nil)) (fun _ => rfl))))) (fun _ => rfl))) (fun _ => rfl)) (xss_one (xs_ret (xe_eqLst (k := 13) B.toBe rfl ((ok_Family_eq T).mono (by decide)) T.q_Family T.q1_Family T.b_Family_eq rfl (xe_var rfl (Or.inl rfl) rfl rfl) (xe_lc false (own := [("plan", 5)]) rfl B.toBe.calm B.toBe.nd (xi_lst B.toBe.hK (xe_var rfl (Or.inl rfl) rfl rfl)) (blkOk_by rfl) (by decide) (fun s1 H1 C1 cl1 fp1 => (xg_nm (Be.blk B.toBe s1 H1 _ C1 cl1 fp1).nd rfl (Or.inl rfl) (Or.inr rfl))) (fun s1 H1 C1 cl1 fp1 => xts_nil) (fun s1 H1 C1 cl1 fp1 => (xe_frz rfl (xe_call false [false, false] (Be.blk B.toBe s1 H1 _ C1 cl1 fp1) ((ok_law_made T).mono (by decide)) rfl T.m_law_made T.k_law_made T.b_law_made (xa_cons (xe_ix (Be.blk B.toBe s1 H1 _ C1 cl1 fp1).hK (xe_var rfl (Or.inl rfl) rfl rfl) (xe_atm pe_int (fun _ => Dx.int _)) (fun _ _ => rfl)) (xa_cons (xe_ix (Be.blk B.toBe s1 H1 _ C1 cl1 fp1).hK (xe_var rfl (Or.inl rfl) rfl rfl) (xe_atm pe_int (fun _ => Dx.int _)) (fun _ _ => rfl)) xa_nil rfl) rfl) rfl rfl rfl rfl))) (fun _ => rfl)) (nomark _)))))))))
/-- law -/
noncomputable def b_law (m0 : Nat) : Ds := (sSeq (sFor (iRng1D (aCons (dBi max2V (aCons (dAtm (.int 1)) (aCons (dBi min2V (aCons (dAtm (.int 12)) (aCons (dBi lenV (aCons (dVar 0) aNil)) aNil))) aNil))) aNil)) (gNm 1) (sSeq (sSet 2 (dCall d_law_quern 2 false [false, false] (aCons (dVar 0) (aCons (dVar 1) aNil)))) (sFor (iRng1D (aCons (dAtm (.int 2)) aNil)) (gNm 3) (sIf (bNot (bTru (dCall d_law_right 1 false [true] (aCons (dVar 2) aNil)))) (sRet (dAtm (.bl false))) sNil)))) (sRet (dAtm (.bl true))))
noncomputable def d_law : List T → Mu → Ot T := defD 1 4 b_law
theorem sc_law : FnScope ["script", "place", "mill", "turn"] ["script"] (defScope s_law) := ⟨rfl, rfl, rfl, by decide +kernel, rfl, by decide +kernel, by decide +kernel⟩
theorem ok_law (T : Tx K mg) : FnG P w K mg base 16 T.a_law T.f_law ["script"] (spD K T.tab d_law 1) :=
  fnD (N := ["script", "place", "mill", "turn"]) (g := b_law) T.F_law sc_law (fun cdv A outer s H E Z hK hT B => by
    obtain ⟨K1, TB1, Hz, F0, ms0⟩ := Z
    obtain rfl : K1 = K := hK
    obtain rfl : TB1 = T.tab := hT
    exact (xss_cons (xs_for B.own B.toBe.calm (xi_rng1 rfl T.z_range (xa_cons (xe_bi (call_max2V B.toBe.calm) rfl T.z_max rfl (xa_cons (xe_atm pe_int (fun _ => Dx.int _)) (xa_cons (xe_bi (call_min2V B.toBe.calm) rfl T.z_min rfl (xa_cons (xe_atm pe_int (fun _ => Dx.int _)) (xa_cons (xe_bi (call_lenV B.toBe.hK) rfl T.z_len rfl (xa_cons (xe_var rfl (Or.inl rfl) rfl rfl) xa_nil rfl) (by decide) rfl rfl rfl) xa_nil rfl) rfl) (by decide) rfl rfl rfl) xa_nil rfl) rfl) (by decide) rfl rfl rfl) xa_nil rfl) rfl) (xg_nm B.toBe.nd rfl (Or.inl rfl) (Or.inl rfl)) (xss_cons (xs_set B.toBe.nd rfl (Or.inl rfl) (xe_call false [false, false] B.toBe ((ok_law_quern T).mono (by decide)) rfl T.m_law_quern T.k_law_quern T.b_law_quern (xa_cons (xe_var rfl (Or.inl rfl) rfl rfl) (xa_cons (xe_var rfl (Or.inl rfl) rfl rfl) xa_nil rfl) rfl) rfl rfl rfl rfl) rfl (Or.inl rfl)) (xss_one (xs_for B.own B.toBe.calm (xi_rng1 rfl T.z_range (xa_cons (xe_atm pe_int (fun _ => Dx.int _)) xa_nil rfl) rfl) (xg_nm B.toBe.nd rfl (Or.inl rfl) (Or.inl rfl)) (xss_one (xs_if (xt_not (xt_tru B.toBe.hK (xe_call false [true] B.toBe ((ok_law_right T).mono (by decide)) rfl T.m_law_right T.k_law_right T.b_law_right (xa_cons (xe_var rfl (Or.inl rfl) rfl rfl) xa_nil rfl) rfl rfl rfl rfl) (fun _ => rfl))) (xss_one (xs_ret (xe_atm pe_bl (fun _ => Dx.bl _)))) xss_nil)) (fun _ => rfl)))) (fun _ => rfl)) (xss_one (xs_ret (xe_atm pe_bl (fun _ => Dx.bl _))))))
end


end Qk08

set_option Elab.async false
set_option linter.all false
set_option maxRecDepth 100000
set_option maxHeartbeats 4000000
/-! families: boxes, cuts, cells: what the program's defs come to -/
namespace Qk08
open PySem PySem.Spec PyProof.Rows L2 L3
abbrev Span := Int × Option Int
def hiD : Option Int → D
  | none => .non
  | some x => .int x
def spanD (s : Span) : D := .tup [.int s.1, hiD s.2]
abbrev Bx := List Span
def boxD (b : Bx) : D := .lst (b.map spanD)
def boxesD (bs : List Bx) : D := .lst (bs.map boxD)
def intsD (ns : List Int) : D := .lst (ns.map .int)
theorem hi_atom : ∀ h : Option Int, (hiD h).atom = true
  | none => rfl
  | some _ => rfl
def atB (b : Bx) (k : Nat) : Span := b.getD k (0, none)
theorem atB_get {b : Bx} {k : Nat} (h : k < b.length) : b[k]? = some (atB b k) := by
  unfold atB
  rw [List.getD_eq_getElem?_getD, List.getElem?_eq_getElem h]
  rfl
theorem box_get {b : Bx} {k : Nat} (h : k < b.length) : (b.map spanD)[k]? = some (spanD (atB b k)) := by
  rw [List.getElem?_map, atB_get h]
  rfl
def edgesF (bs : List Bx) (k : Nat) : List Int := bs.map (fun b => (atB b k).1) ++ (bs.filter fun b => (atB b k).2.isSome).map fun b => (atB b k).2.getD 0 + 1
theorem is_not_none {μ : Mu} (h : Option Int) : cmpV .IsNot μ (.v true (hiD h)) (.v true .non) = some h.isSome := by cases h <;> rfl
theorem is_none {μ : Mu} (h : Option Int) : cmpV .Is μ (.v true (hiD h)) (.v true .non) = some h.isNone := by cases h <;> rfl
theorem edges_ev (bs : List Bx) (k : Nat) (f : Bool) (hk : ∀ b ∈ bs, k < b.length) (hz : 2 * bs.length ≤ sizeLine) : d_edges [.v f (boxesD bs), intT k] [] = some (.ok (.m 0) [.lst (((edgesF bs k).map D.int).map (T.v true))]) := by
  have hz1 : bs.length ≤ sizeLine := by omega
  have span : ∀ (b : Bx), b ∈ bs → ∀ (Γ : Gam) (μ : Mu), Γ[3]? = some (some (mkT f (boxD b))) → Γ[1]? = some (some (intT k)) → d2 ixV (dVar 3) (dVar 1) Γ μ = some (.ok (.v f (spanD (atB b k))) μ) := fun b hb Γ μ h3 h1 => by
    rw [show mkT f (boxD b) = .v f (.lst (b.map spanD)) from mkT_lst] at h3
    have := ev_ixL (μ := μ) (ev_var h3) (ev_var h1) rfl (box_get (hk b hb))
    rwa [show mkT f (spanD (atB b k)) = .v f (spanD (atB b k)) from mkT_tup] at this
  show retD 0 (b_edges 0 [some (.v f (boxesD bs)), some (intT k), none, none, none] []) = _
  unfold b_edges
  rw [st_seq (st_set (dlc_genF (l := bs) (y := fun b => .one (mkT f (boxD b))) (P := fun _ => true) (E := fun b => .int (atB b k).1) (it_lst (ev_var rfl)) (by simp [ItV.len]) hz1 (fun acc => seq_walk) (fun i h acc => at_lst i h) (fun b hb acc ha => ⟨_, rfl, rfl, fun _ => ?_⟩) (Nat.zero_le _) rfl)) rfl]
  rotate_left
  · exact ev_ixTA (span b hb _ _ rfl rfl) ev_atm (n := 0) rfl rfl rfl
  rw [st_seq (st_set (dlc_genF (l := bs) (y := fun b => .one (mkT f (boxD b))) (P := fun b => (atB b k).2.isSome) (E := fun b => .int ((atB b k).2.getD 0 + 1)) (it_lst (ev_var rfl)) (by simp [ItV.len]) hz1 (fun acc => seq_walk) (fun i h acc => at_lst i h) (fun b hb acc ha => ⟨_, rfl, ?_, fun hp => ?_⟩) (Nat.zero_le _) rfl)) rfl]
  rotate_left
  · exact ev_tst (ev_ixTA (span b hb _ _ rfl rfl) ev_atm (n := 1) rfl rfl (hi_atom _)) ev_atm (is_not_none _)
  · obtain ⟨x, hx⟩ := Option.isSome_iff_exists.mp hp
    refine ev_bin (i := x) (j := 1) (f := true) ?_ ev_atm (by rw [hx]; rfl)
    have e : hiD (atB b k).2 = .int x := by rw [hx]; rfl
    rw [← e]
    exact ev_ixTA (span b hb _ _ rfl rfl) ev_atm (n := 1) rfl rfl (hi_atom _)
  rw [st_ret (ev_catLL (ev_var rfl) (ev_var rfl) (by
    have := List.length_filter_le (fun b => (atB b k).2.isSome) bs
    simp only [List.length_map, filter_yes]
    omega))]
  rw [filter_yes]
  show retD 0 (some (.rt (.m 0) _)) = _
  rw [List.nil_append, ret_c]
  unfold edgesF
  rw [List.map_append, List.map_append]
  simp only [List.map_map]
  rfl
end Qk08

set_option Elab.async false
set_option linter.all false
set_option maxRecDepth 100000
set_option maxHeartbeats 4000000
/-! families: cuts, sizes, volumes -/
namespace Qk08
open PySem PySem.Spec PyProof.Rows L2 L3
def cutF (bs : List Bx) (k : Nat) : List Int := ssetI (0 :: edgesF bs k)
def cutsF (n : Nat) (bs : List Bx) : List (List Int) := (List.range n).map (cutF bs)
def cutsD (cs : List (List Int)) : D := .lst (cs.map intsD)
theorem cuts_ev (n : Nat) (bs : List Bx) (f : Bool) (hn : ∀ b ∈ bs, n ≤ b.length) (hz : bs.length ≤ 8000000) (h64 : ∀ k, k < n → (cutF bs k).length < 64) (hn2 : n ≤ 64) :
    d_cuts_of [intT n, .v f (boxesD bs)] [] = some (.ok (.m 0) [.lst (((cutsF n bs).map intsD).map (T.v true))]) := by
  have hz2 : 2 * bs.length ≤ sizeLine := by rw [sizeLine_eq]; omega
  show retD 0 (b_cuts_of 0 [some (intT n), some (.v f (boxesD bs)), none] []) = _
  unfold b_cuts_of
  rw [st_ret (dlc_genL (l := List.range n) (y := fun k : Nat => .one (intT k)) (P := fun _ => true) (E := fun k => intsD (cutF bs k)) (it_rng1 (ev_cons (ev_var rfl) ev_nil) (by omega)) (by simp [ItV.len]) (by rw [List.length_range, sizeLine_eq]; omega) (fun acc => rfl) (fun i h acc => at_rng0 h) (fun k hk acc ha => ⟨_, rfl, rfl, fun _ => ?_⟩))]
  rotate_left
  · have hk : k < n := List.mem_range.mp hk
    have e := ev_callL (gd := d_edges) (n := 2) (m0 := 0) (rf := [false, false]) (da := aCons (dVar 1) (aCons (dVar 2) aNil)) (Γ := (wipeG [some (intT n), some (.v f (boxesD bs)), none] [2]).set 2 (some (intT k))) (μ := [] ++ [Cell.lst acc])
      (ev_cons (ev_var rfl) (ev_cons (ev_var rfl) ev_nil)) rfl rfl rfl (edges_ev bs k false (fun b hb => Nat.lt_of_lt_of_le hk (hn b hb)) hz2) (Nat.zero_le _) (low1 ha)
    obtain ⟨q, hq, _⟩ := ev_catL (ga := dLst false (aCons (dAtm (.int 0)) aNil)) (f := true) (ev_lst (ev_cons ev_atm ev_nil) rfl (by decide)) e (by
      rw [sizeLine_eq]
      have := List.length_filter_le (fun b => (atB b k).2.isSome) bs
      simp [edgesF]
      omega)
    refine ev_d1 hq ?_
    have := sset_ev (μ := [] ++ [Cell.lst acc]) (q := q) (h64 k hk)
    exact this
  rw [filter_yes, List.nil_append]
  show retD 0 (some (.rt (.m 0) _)) = _
  rw [ret_c]
  unfold cutsF
  rw [List.map_map, List.map_map, List.map_map]
  rfl
theorem sizes_ev (cs : List (List Int)) (f : Bool) (hz : cs.length ≤ 64) (hz2 : ∀ c ∈ cs, c.length ≤ sizeLine) : d_sizes_of [.v f (cutsD cs)] [] = some (.ok (.m 0) [.lst (((cs.map fun c => (c.length : Int)).map D.int).map (T.v true))]) := by
  show retD 0 (b_sizes_of 0 [some (.v f (cutsD cs)), none] []) = _
  unfold b_sizes_of
  rw [st_ret (dlc_genL (l := cs) (y := fun c => .one (mkT f (intsD c))) (P := fun _ => true) (E := fun c => .int (c.length : Int)) (it_lst (ev_var rfl)) (by simp [ItV.len]) (by rw [sizeLine_eq]; omega) (fun acc => seq_walk) (fun i h acc => at_lst i h) (fun c hc acc ha => ⟨_, rfl, rfl, fun _ => ?_⟩))]
  rotate_left
  · have := ev_lenL (ga := dVar 1) (f := f) (xs := c.map D.int) (Γ := (wipeG [some (.v f (cutsD cs)), none] [1]).set 1 (some (mkT f (intsD c)))) (μ := [] ++ [Cell.lst acc]) (ev_var (by rw [show mkT f (intsD c) = .v f (.lst (c.map D.int)) from mkT_lst]; rfl))
    rwa [List.length_map] at this
  rw [filter_yes, List.nil_append]
  show retD 0 (some (.rt (.m 0) _)) = _
  rw [ret_c]
  simp only [List.map_map]
  rfl
/-- how many cells -/
def volF (ns : List Nat) : Nat := ns.foldl (· * ·) 1
theorem foldl_mul : ∀ (ns : List Nat) (a : Nat), ns.foldl (· * ·) a = a * ns.foldl (· * ·) 1
  | [], a => by simp
  | n :: ns, a => by
    rw [List.foldl_cons, List.foldl_cons, foldl_mul ns (a * n), foldl_mul ns (1 * n), Nat.one_mul, Nat.mul_assoc]
theorem volF_cons (n : Nat) (ns : List Nat) : volF (n :: ns) = n * volF ns := by
  unfold volF
  rw [List.foldl_cons, foldl_mul, Nat.one_mul]
def natsD (ns : List Nat) : D := .lst (ns.map fun n => D.int (n : Nat))
theorem bits_nat {a b : Nat} (h : a ≤ b) : bitsI (a : Int) ≤ b.log2 := by
  unfold bitsI
  exact log2_le (by simpa using h)
theorem volume_ev (ns : List Nat) (f : Bool) (hb : ∀ n ∈ ns, n ≤ 1024) (hl : ns.length ≤ 64) : d_volume [.v f (natsD ns)] [] = some (.ok (intT (volF ns)) []) := by
  show retD 0 (b_volume 0 [some (.v f (natsD ns)), none, none] []) = _
  unfold b_volume
  have hp : ∀ i, volF (ns.take i) ≤ 1024 ^ i := fun i => by
    have key : ∀ l : List Nat, (∀ n ∈ l, n ≤ 1024) → volF l ≤ 1024 ^ l.length := fun l => by
      induction l with
      | nil => intro _; decide
      | cons a l ih =>
        intro h
        rw [volF_cons, List.length_cons, Nat.pow_succ, Nat.mul_comm]
        exact Nat.mul_le_mul (ih fun n hn => h n (List.mem_cons_of_mem _ hn)) (h a List.mem_cons_self)
    refine Nat.le_trans (key _ fun n hn => hb n (List.mem_of_mem_take hn)) (Nat.pow_le_pow_right (by decide) ?_)
    rw [List.length_take]
    exact Nat.min_le_left _ _
  obtain ⟨Γ', μ', h1, rfl, o, rfl⟩ := for_gen (l := ns) (b := sSet 1 (d2 (binV false .Mult) (dVar 1) (dVar 2))) (g := gNm 2) (it := iSeq true (dVar 0)) (y := fun n : Nat => .one (intT n)) (Γ := [some (.v f (natsD ns)), some (intT 1), none]) (μ := [])
    (fun i Γ μ => μ = [] ∧ ∃ o, Γ = [some (.v f (natsD ns)), some (intT (volF (ns.take i))), o]) (it_lst (ev_var rfl)) (by simp [ItV.len]) (fun i Γ μ _ h => seq_walk) ⟨rfl, _, rfl⟩ (fun i h Γ μ ⟨hm, o, hj⟩ => by
      subst hm hj
      have hat := at_lst (f := f) (μ := []) (l := ns) (Dx := fun n => D.int (n : Nat)) i h
      rw [mkT_int] at hat
      refine ⟨_, _, _, hat, rfl, .inl (st_set (ev_bin (ev_var rfl) (ev_var rfl) (mul_ev ?_))), rfl, some (intT ns[i]), ?_⟩
      · have e1 := bits_nat (hp i)
        have e2 := bits_nat (hb _ (List.getElem_mem h))
        have e3 : (1024 ^ i).log2 ≤ 10 * i := by
          rw [show 1024 = 2 ^ 10 from rfl, ← Nat.pow_mul, Nat.log2_two_pow]
          exact Nat.le_refl _
        have e4 : Nat.log2 1024 = 10 := by decide
        omega
      · have e : ns.take (i + 1) = ns.take i ++ [ns[i]] := by rw [List.take_add_one]; simp [h]
        rw [e]
        have e2 : volF (ns.take i ++ [ns[i]]) = volF (ns.take i) * ns[i] := by
          unfold volF
          rw [List.foldl_append]
          rfl
        rw [e2, Int.natCast_mul]
        rfl)
  rw [List.take_of_length_le (Nat.le_refl _)] at h1
  exact rt_ev (st_seq (st_set ev_atm) (st_seq h1 (st_ret (ev_var rfl)))) (ret_v0 _ _ _)
end Qk08

set_option Elab.async false
set_option linter.all false
set_option maxRecDepth 100000
set_option maxHeartbeats 4000000
/-! families: the cells of boxes -/
namespace Qk08
open PySem PySem.Spec PyProof.Rows L2 L3
def repF (c : Int) (w lo hi : Nat) : Int := ((List.range (hi - lo)).map fun i => c * 2 ^ (w * (lo + i))).sum
theorem repeated_ev (c : Int) (w lo hi : Nat) (hc : bitsI c ≤ 20000000) (hw : w * hi ≤ 20000000) (hl : lo ≤ 1024) (hh : hi ≤ 1024) (hw2 : w ≤ 20000000) : d_repeated [intT c, intT w, intT lo, intT hi] [] = some (.ok (intT (repF c w lo hi)) []) := by
  show retD 0 (b_repeated 0 [some (intT c), some (intT w), some (intT lo), some (intT hi), none] []) = _
  unfold b_repeated
  have e := dlc_genF (m0 := 0) (l := List.range (hi - lo)) (it := iRng2D (aCons (dVar 2) (aCons (dVar 3) aNil))) (g := gNm 4) (c := bYes) (e := d2 (binV false .LShift) (dVar 0) (d2 (binV false .Mult) (dVar 1) (dVar 4))) (own := [4]) (y := fun i : Nat => .one (intT ((lo + i : Nat) : Int))) (P := fun _ => true) (E := fun i : Nat => D.int (c * 2 ^ (w * (lo + i))))
    (Γ := [some (intT c), some (intT w), some (intT lo), some (intT hi), none]) (μ := [])
    (it_rng2 (ev_cons (ev_var rfl) (ev_cons (ev_var rfl) ev_nil)) ⟨by omega, by omega, by omega, by omega⟩) (by simp [ItV.len]) (by rw [List.length_range, sizeLine_eq]; omega) (fun acc => rfl)
    (fun i h acc => by rw [at_rng, List.getElem_range]; rfl) (fun i hi' acc ha => ⟨_, rfl, rfl, fun _ => ?_⟩) (Nat.zero_le _) rfl
  · rw [filter_yes] at e
    have e2 : (List.range (hi - lo)).map (fun i : Nat => D.int (c * 2 ^ (w * (lo + i)))) = ((List.range (hi - lo)).map fun i => c * 2 ^ (w * (lo + i))).map D.int := by rw [List.map_map]; rfl
    rw [e2] at e
    exact rt_ev (st_ret (ev_bi (ev_cons e ev_nil) sum_ev)) (ret_v0 _ _ _)
  · have hlt : lo + i < hi := by have := List.mem_range.mp hi'; omega
    have hm : w * (lo + i) ≤ 20000000 := Nat.le_trans (Nat.mul_le_mul_left w (Nat.le_of_lt hlt)) hw
    have b1 := bits_nat hw2
    have b2 := bits_nat (show lo + i ≤ 1024 by omega)
    have l1 : Nat.log2 20000000 ≤ 24 := by decide
    have l2 : Nat.log2 1024 = 10 := by decide
    refine ev_bin (ev_var rfl) (ev_bin (i := w) (j := ((lo + i : Nat) : Int)) (k := ((w * (lo + i) : Nat) : Int)) (ev_var rfl) (ev_var rfl) ?_) ?_
    · rw [Int.natCast_mul]
      exact mul_ev (by omega)
    · show (if 0 ≤ ((w * (lo + i) : Nat) : Int) ∧ bitsI c + 1 + ((w * (lo + i) : Nat) : Int).toNat ≤ 100000000 then some (c * 2 ^ ((w * (lo + i) : Nat) : Int).toNat) else none) = _
      rw [Int.toNat_natCast, if_pos ⟨by omega, by omega⟩]
theorem repF_bound {c : Int} {w : Nat} (h0 : 0 ≤ c) (hc : c < 2 ^ w) (lo : Nat) : ∀ n : Nat, 0 ≤ repF c w lo (lo + n) ∧ repF c w lo (lo + n) < 2 ^ (w * (lo + n)) := by
  have key : ∀ n : Nat, 0 ≤ ((List.range n).map fun i => c * 2 ^ (w * (lo + i))).sum ∧ ((List.range n).map fun i => c * 2 ^ (w * (lo + i))).sum < 2 ^ (w * (lo + n)) := fun n => by
    induction n with
    | zero => exact ⟨by simp, by simpa using Int.pow_pos (by decide : (0 : Int) < 2)⟩
    | succ n ih =>
      have p0 : (0 : Int) < 2 ^ (w * (lo + n)) := Int.pow_pos (by decide)
      have p1 : (0 : Int) ≤ c * 2 ^ (w * (lo + n)) := Int.mul_nonneg h0 (Int.le_of_lt p0)
      have p2 : (c + 1) * 2 ^ (w * (lo + n)) ≤ 2 ^ w * 2 ^ (w * (lo + n)) := Int.mul_le_mul_of_nonneg_right (by omega) (Int.le_of_lt p0)
      have p3 : (2 : Int) ^ (w * (lo + (n + 1))) = 2 ^ w * 2 ^ (w * (lo + n)) := by rw [← Int.pow_add]; congr 1; rw [← Nat.add_assoc, Nat.mul_add, Nat.mul_one, Nat.add_comm]
      rw [List.range_succ, List.map_append, List.sum_append]
      simp only [List.map_cons, List.map_nil, List.sum_cons, List.sum_nil]
      rw [p3]
      rw [Int.add_mul] at p2
      omega
  intro n
  unfold repF
  rw [Nat.add_sub_cancel_left]
  exact key n
theorem repF_lt {c : Int} {w : Nat} (h0 : 0 ≤ c) (hc : c < 2 ^ w) (lo hi m : Nat) (h : hi ≤ m) : 0 ≤ repF c w lo hi ∧ repF c w lo hi < 2 ^ (w * m) := by
  by_cases hl : lo ≤ hi
  · have := repF_bound h0 hc lo (hi - lo)
    rw [Nat.add_sub_cancel' hl] at this
    refine ⟨this.1, Int.lt_of_lt_of_le this.2 ?_⟩
    exact_mod_cast Nat.pow_le_pow_right (by decide : 0 < 2) (Nat.mul_le_mul_left w h)
  · have e : repF c w lo hi = 0 := by
      unfold repF
      rw [show hi - lo = 0 by omega]
      rfl
    rw [e]
    exact ⟨Int.le_refl _, Int.pow_pos (by decide)⟩
theorem bits_lt {c : Int} {n : Nat} (h0 : 0 ≤ c) (h : c < 2 ^ n) : bitsI c ≤ n := by
  unfold bitsI
  by_cases hz : c.natAbs = 0
  · rw [hz]; exact Nat.zero_le _
  · have h1 : c.natAbs < 2 ^ n := by
      have : ((c.natAbs : Nat) : Int) < ((2 ^ n : Nat) : Int) := by
        rw [Int.natAbs_of_nonneg h0]
        exact_mod_cast h
      exact_mod_cast this
    exact Nat.le_of_lt ((Nat.log2_lt hz).mpr h1)
end Qk08

set_option Elab.async false
set_option linter.all false
set_option maxRecDepth 100000
set_option maxHeartbeats 4000000
/-! families: the cells of a box, of boxes -/
namespace Qk08
open PySem PySem.Spec PyProof.Rows L2 L3
/-- cuts as they come: few kinds, each with a first cut -/
def CutsOk (cs : List (List Int)) : Prop := cs.length ≤ 4 ∧ ∀ row ∈ cs, 0 < row.length ∧ row.length < 64
def lensF (cs : List (List Int)) : List Nat := cs.map List.length
theorem vol_le {cs : List (List Int)} (h : ∀ row ∈ cs, 0 < row.length ∧ row.length < 64) : volF (lensF cs) ≤ 64 ^ cs.length := by
  induction cs with
  | nil => decide
  | cons r cs ih =>
    show volF (r.length :: lensF cs) ≤ _
    rw [volF_cons, List.length_cons, Nat.pow_succ, Nat.mul_comm]
    exact Nat.mul_le_mul (ih fun x hx => h x (List.mem_cons_of_mem _ hx)) (Nat.le_of_lt (h r List.mem_cons_self).2)
theorem vol_small {cs : List (List Int)} (h : CutsOk cs) : volF (lensF cs) ≤ 16777216 :=
  Nat.le_trans (vol_le h.2) (Nat.le_trans (Nat.pow_le_pow_right (by decide) h.1) (by decide))
theorem CutsOk.drop {cs : List (List Int)} (h : CutsOk cs) (k : Nat) : CutsOk (cs.drop k) :=
  ⟨Nat.le_trans (by rw [List.length_drop]; omega) h.1, fun r hr => h.2 r (List.mem_of_mem_drop hr)⟩
/-- all edges of a box are cuts -/
structure FitB (cs : List (List Int)) (b : Bx) : Prop where
  len : b.length = cs.length
  lo : ∀ (k : Nat) (h : k < cs.length), (atB b k).1 ∈ cs[k]
  hi : ∀ (k : Nat) (h : k < cs.length) (x : Int), (atB b k).2 = some x → x + 1 ∈ cs[k]
def lowF (row : List Int) (s : Span) : Nat := row.idxOf s.1
def endF (row : List Int) (s : Span) : Nat := match s.2 with
  | none => row.length
  | some h => row.idxOf (h + 1)
theorem low_le (row : List Int) (s : Span) : lowF row s ≤ row.length := List.idxOf_le_length
theorem end_le (row : List Int) (s : Span) : endF row s ≤ row.length := by
  unfold endF
  split
  · exact Nat.le_refl _
  · exact List.idxOf_le_length
def cobF : List (List Int) → Bx → Int
  | row :: rows, s :: b => repF (cobF rows b) (volF (lensF rows)) (lowF row s) (endF row s)
  | _, _ => 1
theorem cobF_bound : ∀ (cs : List (List Int)) (b : Bx), b.length = cs.length → 0 ≤ cobF cs b ∧ cobF cs b < 2 ^ volF (lensF cs)
  | [], b, h => by
    have : b = [] := List.length_eq_zero_iff.mp h
    subst this
    decide
  | row :: rows, [], h => by cases h
  | row :: rows, s :: b, h => by
    obtain ⟨h1, h2⟩ := cobF_bound rows b (by simpa using h)
    have := repF_lt h1 h2 (lowF row s) (endF row s) row.length (end_le row s)
    show 0 ≤ repF _ _ _ _ ∧ repF _ _ _ _ < 2 ^ volF (row.length :: lensF rows)
    rw [volF_cons, Nat.mul_comm]
    exact this
theorem gTp2 {i j : Nat} {f : Bool} {s : Span} {Γ : Gam} {μ : Mu} : gTp 2 (gsCons (gNm i) (gsCons (gNm j) gsNil)) (.one (.v f (spanD s))) Γ μ = some ((Γ.set i (some (intT s.1))).set j (some (.v true (hiD s.2)))) := by
  have e : items μ (.v f (spanD s)) = some (false, [intT s.1, .v true (hiD s.2)]) := by
    show some (false, [mkT f (.int s.1), mkT f (hiD s.2)]) = _
    rw [mkT_int, mkT_atom (hi_atom _)]
  unfold gTp
  simp only [e]
  rfl
theorem cells_of_box_ev (cs : List (List Int)) (b : Bx) (f g : Bool) (hc : CutsOk cs) (hb : FitB cs b) : d_cells_of_box [.v f (boxD b), .v g (cutsD cs)] [] = some (.ok (intT (cobF cs b)) []) := by
  show retD 0 (b_cells_of_box 0 [some (.v f (boxD b)), some (.v g (cutsD cs)), none, none, none, none, none, none, none] []) = _
  unfold b_cells_of_box
  have hlen : (cs.map intsD).length = cs.length := List.length_map ..
  obtain ⟨Γ', μ', h1, rfl, o4, o5, o6, o7, o8, rfl⟩ := for_gen (l := List.range cs.length) (g := gNm 4) (it := iRevR1D (dBi lenV (aCons (dVar 1) aNil))) (y := fun i : Nat => .one (intT ((cs.length - 1 - i : Nat) : Int)))
    (Γ := [some (.v f (boxD b)), some (.v g (cutsD cs)), some (intT 1), some (intT 1), none, none, none, none, none]) (μ := [.tup [intT 1, intT 1]])
    (b := (sSeq (sAsg (d2 ixV (dVar 0) (dVar 4)) (gTp 2 (gsCons (gNm 5) (gsCons (gNm 6) gsNil)))) (sSeq (sSet 7 (dMt idxV (d2 ixV (dVar 1) (dVar 4)) (aCons (dVar 5) aNil))) (sSeq (sSet 8 (dIf (bOf (d2 (cmpVt .Is) (dVar 6) (dAtm .non))) (dBi lenV (aCons (d2 ixV (dVar 1) (dVar 4)) aNil)) (dMt idxV (d2 ixV (dVar 1) (dVar 4)) (aCons (d2 (binV false .Add) (dVar 6) (dAtm (.int 1))) aNil)))) (sSeq (sSet 2 (dCall d_repeated 4 false [false, false, false, false] (aCons (dVar 2) (aCons (dVar 3) (aCons (dVar 7) (aCons (dVar 8) aNil)))))) (sSet 3 (d2 (binV false .Mult) (dVar 3) (dBi lenV (aCons (d2 ixV (dVar 1) (dVar 4)) aNil)))))))))
    (fun i Γ μ => μ = [.tup [intT 1, intT 1]] ∧ ∃ o4 o5 o6 o7 o8, Γ = [some (.v f (boxD b)), some (.v g (cutsD cs)), some (intT (cobF (cs.drop (cs.length - i)) (b.drop (cs.length - i)))), some (intT (volF (lensF (cs.drop (cs.length - i))))), o4, o5, o6, o7, o8])
    (it_revR1 (n := ((cs.map intsD).length : Nat)) (ev_lenL (ev_var rfl)) ⟨by omega, by rw [hlen]; have := hc.1; omega⟩) (by simp [ItV.len]) (fun i Γ μ _ h => rfl) ⟨rfl, none, none, none, none, none, by
      rw [Nat.sub_zero, List.drop_of_length_le (Nat.le_refl _), List.drop_of_length_le (Nat.le_of_eq hb.len)]
      rfl⟩ (fun i hi Γ μ ⟨hm, o4, o5, o6, o7, o8, hj⟩ => by
      subst hm hj
      have hi : i < cs.length := by simpa using hi
      obtain ⟨k, hk⟩ : ∃ k, k = cs.length - 1 - i := ⟨_, rfl⟩
      have hkl : k < cs.length := by omega
      have hkb : k < b.length := by rw [hb.len]; exact hkl
      have e1 : cs.length - i = k + 1 := by omega
      have e2 : cs.length - (i + 1) = k := by omega
      have hrow := hc.2 _ (List.getElem_mem hkl)
      have d1 : cs.drop k = cs[k] :: cs.drop (k + 1) := List.drop_eq_getElem_cons hkl
      have d2' : b.drop k = atB b k :: b.drop (k + 1) := by
        rw [List.drop_eq_getElem_cons hkb]
        have := atB_get hkb
        rw [List.getElem?_eq_getElem hkb] at this
        rw [Option.some.inj this]
      have hcs : (cs.map intsD)[k]? = some (.lst (cs[k].map .int)) := by rw [List.getElem?_map, List.getElem?_eq_getElem hkl]; rfl
      have hcd := hc.drop (k + 1)
      have hbd := cobF_bound (cs.drop (k + 1)) (b.drop (k + 1)) (by rw [List.length_drop, List.length_drop, hb.len])
      have v1 := vol_small hcd
      have v2 : volF (lensF (cs.drop k)) ≤ 16777216 := vol_small (hc.drop k)
      have v3 : volF (lensF (cs.drop k)) = cs[k].length * volF (lensF (cs.drop (k + 1))) := by
        rw [d1]
        exact volF_cons _ _
      rw [e1]
      -- the row of cuts
      have hrw : ∀ (Γ : Gam) (μ : Mu), Γ[1]? = some (some (.v g (cutsD cs))) → Γ[4]? = some (some (intT (k : Nat))) → L3.d2 ixV (dVar 1) (dVar 4) Γ μ = some (.ok (.v g (.lst (cs[k].map .int))) μ) := fun Γ μ q1 q4 => by
        have := ev_ixL (μ := μ) (ev_var q1) (ev_var q4) rfl hcs
        rwa [mkT_lst] at this
      have hrl : ∀ μ, items μ (.v g (.lst (cs[k].map D.int))) = some (true, (cs[k].map D.int).map (mkT g)) := fun μ => items_lst _ _ _
      have hlo := hb.lo k hkl
      have hhi := hb.hi k hkl
      have e8 : ∀ (Γ : Gam) (μ : Mu), Γ[1]? = some (some (.v g (cutsD cs))) → Γ[4]? = some (some (intT (k : Nat))) → Γ[6]? = some (some (.v true (hiD (atB b k).2))) →
          dIf (bOf (L3.d2 (cmpVt .Is) (dVar 6) (dAtm .non))) (dBi lenV (aCons (L3.d2 ixV (dVar 1) (dVar 4)) aNil)) (dMt idxV (L3.d2 ixV (dVar 1) (dVar 4)) (aCons (L3.d2 (binV false .Add) (dVar 6) (dAtm (.int 1))) aNil)) Γ μ = some (.ok (intT (endF cs[k] (atB b k) : Nat)) μ) := fun Γ μ q1 q4 q6 => by
        refine ev_ite (ev_tst (ev_var q6) ev_atm (is_none _)) ?_
        cases hx : (atB b k).2 with
        | none =>
          have := ev_lenL (μ := μ) (hrw Γ μ q1 q4)
          rw [List.length_map] at this
          rw [show endF cs[k] (atB b k) = cs[k].length by unfold endF; rw [hx]]
          exact this
        | some x =>
          rw [show endF cs[k] (atB b k) = cs[k].idxOf (x + 1) by unfold endF; rw [hx]]
          rw [hx] at q6
          exact ev_mt (hrw Γ μ q1 q4) (hrl _) (ev_cons (ev_bin (i := x) (j := 1) (ev_var q6) ev_atm rfl) ev_nil) (idx_evI (hhi x hx))
      have hy : cs.length - 1 - (List.range cs.length)[i]'(by simpa using hi) = k := by rw [List.getElem_range]; omega
      simp only [hy]
      refine ⟨_, _, _, ?_, rfl, .inl (st_seq (st_asg (t := .v f (spanD (atB b k))) ?_ gTp2) (st_seq (st_set (ev_mt (hrw _ _ rfl rfl) (hrl _) (ev_cons (ev_var rfl) ev_nil) (idx_evI hlo))) (st_seq (st_set (e8 _ _ rfl rfl rfl)) (st_seq (st_set (ev_call (ev_cons (ev_var rfl) (ev_cons (ev_var rfl) (ev_cons (ev_var rfl) (ev_cons (ev_var rfl) ev_nil)))) rfl rfl rfl
        (repeated_ev (cobF (cs.drop (k + 1)) (b.drop (k + 1))) (volF (lensF (cs.drop (k + 1)))) (lowF cs[k] (atB b k)) (endF cs[k] (atB b k)) ?_ ?_ ?_ ?_ ?_))) (st_set (ev_bin (ev_var rfl) (ev_lenL (hrw _ _ rfl rfl)) (mul_ev ?_))))))), rfl, some (intT (k : Nat)), some (intT (atB b k).1), some (.v true (hiD (atB b k).2)), some (intT (lowF cs[k] (atB b k) : Nat)), some (intT (endF cs[k] (atB b k) : Nat)), ?_⟩
      · show some (Yl.one (intT (0 + (((cs.map intsD).length : Nat) : Int).toNat - 1 + (i : Nat) * (-1)))) = some (Yl.one (intT (k : Nat)))
        rw [hlen, Int.toNat_natCast]
        congr 4
        omega
      · have := ev_ixL (xs := b.map spanD) (f := f) (g := true) (i := (k : Nat)) (n := k) (x := spanD (atB b k)) (ga := dVar 0) (gb := dVar 4) (μ := [.tup [intT 1, intT 1]]) (μ1 := [.tup [intT 1, intT 1]]) (μ2 := [.tup [intT 1, intT 1]])
          (Γ := [some (.v f (boxD b)), some (.v g (cutsD cs)), some (intT (cobF (cs.drop (k + 1)) (b.drop (k + 1)))), some (intT (volF (lensF (cs.drop (k + 1))))), some (intT (k : Nat)), o5, o6, o7, o8]) (ev_var rfl) (ev_var rfl) rfl (box_get hkb)
        rw [show mkT f (spanD (atB b k)) = .v f (spanD (atB b k)) from mkT_tup] at this
        exact this
      · exact Nat.le_trans (bits_lt hbd.1 hbd.2) (by omega)
      · refine Nat.le_trans (Nat.mul_le_mul_left _ (end_le _ _)) ?_
        rw [Nat.mul_comm, ← v3]
        omega
      · have := low_le cs[k] (atB b k); omega
      · have := end_le cs[k] (atB b k); omega
      · omega
      · have b1 := bits_nat v1
        have b2 := bits_nat (show (cs[k].map D.int).length ≤ 64 by rw [List.length_map]; omega)
        have l1 : Nat.log2 16777216 = 24 := by decide
        have l2 : Nat.log2 64 = 6 := by decide
        omega
      · rw [e2, d1, d2']
        have q1 : cobF (cs[k] :: cs.drop (k + 1)) (atB b k :: b.drop (k + 1)) = repF (cobF (cs.drop (k + 1)) (b.drop (k + 1))) (volF (lensF (cs.drop (k + 1)))) (lowF cs[k] (atB b k)) (endF cs[k] (atB b k)) := rfl
        have q2 : ((volF (lensF (cs[k] :: cs.drop (k + 1))) : Nat) : Int) = (volF (lensF (cs.drop (k + 1))) : Nat) * ((cs[k].map D.int).length : Nat) := by
          rw [show lensF (cs[k] :: cs.drop (k + 1)) = cs[k].length :: lensF (cs.drop (k + 1)) from rfl, volF_cons, List.length_map, Int.natCast_mul, Int.mul_comm]
        rw [q1, q2]
        rfl)
  rw [List.length_range, Nat.sub_self, List.drop_zero, List.drop_zero] at h1
  exact rt_ev (st_seq (st_asgL (ev_cons ev_atm (ev_cons ev_atm ev_nil)) (by decide) rfl) (st_seq h1 (st_ret (ev_var rfl)))) (ret_v0 _ _ _)
end Qk08

set_option Elab.async false
set_option linter.all false
set_option maxRecDepth 100000
set_option maxHeartbeats 4000000
/-! families: the cells of boxes; a box of ranges -/
namespace Qk08
open PySem PySem.Spec PyProof.Rows L2 L3
def cellsF (cs : List (List Int)) (bs : List Bx) : Int := bs.foldl (fun c b => Builtin.bitOr c (cobF cs b)) 0
theorem cells_of_ev (cs : List (List Int)) (bs : List Bx) (f g : Bool) (hc : CutsOk cs) (hb : ∀ b ∈ bs, FitB cs b) : d_cells_of [.v f (boxesD bs), .v g (cutsD cs)] [] = some (.ok (intT (cellsF cs bs)) []) := by
  show retD 0 (b_cells_of 0 [some (.v f (boxesD bs)), some (.v g (cutsD cs)), none, none] []) = _
  unfold b_cells_of
  obtain ⟨Γ', μ', h1, rfl, o, rfl⟩ := for_gen (l := bs) (g := gNm 3) (it := iSeq true (dVar 0)) (y := fun b : Bx => .one (mkT f (boxD b)))
    (Γ := [some (.v f (boxesD bs)), some (.v g (cutsD cs)), some (intT 0), none]) (μ := []) (b := sSet 2 (d2 (binV false .BitOr) (dVar 2) (dCall d_cells_of_box 2 false [false, false] (aCons (dVar 3) (aCons (dVar 1) aNil)))))
    (fun i Γ μ => μ = [] ∧ ∃ o, Γ = [some (.v f (boxesD bs)), some (.v g (cutsD cs)), some (intT (cellsF cs (bs.take i))), o]) (it_lst (ev_var rfl)) (by simp [ItV.len]) (fun i Γ μ _ h => seq_walk) ⟨rfl, none, rfl⟩ (fun i hi Γ μ ⟨hm, o, hj⟩ => by
      subst hm hj
      refine ⟨_, _, _, at_lst i hi, rfl, .inl (st_set (ev_bin (ev_var rfl) (ev_call (us := [.v false (boxD bs[i]), .v false (cutsD cs)]) (ev_cons (ev_var rfl) (ev_cons (ev_var rfl) ev_nil)) rfl rfl rfl (cells_of_box_ev cs bs[i] false false hc (hb _ (List.getElem_mem hi)))) rfl)), rfl, some (mkT f (boxD bs[i])), ?_⟩
      · have e : bs.take (i + 1) = bs.take i ++ [bs[i]] := by rw [List.take_add_one]; simp [hi]
        rw [e]
        have e2 : cellsF cs (bs.take i ++ [bs[i]]) = Builtin.bitOr (cellsF cs (bs.take i)) (cobF cs bs[i]) := by
          unfold cellsF
          rw [List.foldl_append]
          rfl
        rw [e2]
        rfl)
  rw [List.take_of_length_le (Nat.le_refl _)] at h1
  exact rt_ev (st_seq (st_set ev_atm) (st_seq h1 (st_ret (ev_var rfl)))) (ret_v0 _ _ _)
def rngD (r : Nat × Nat) : D := .tup [.int (r.1 : Nat), .int (r.2 : Nat)]
def rangesD (rs : List (Nat × Nat)) : D := .tup (rs.map rngD)
def pairF (r : Nat × Nat) (row : List Int) : Span := (row.getD r.1 0, if r.2 = row.length then none else some (row.getD r.2 0 - 1))
theorem row_get {row : List Int} {k : Nat} (h : k < row.length) : (row.map D.int)[k]? = some (.int (row.getD k 0)) := by
  rw [List.getElem?_map, List.getD_eq_getElem?_getD, List.getElem?_eq_getElem h]
  rfl
theorem pair_of_ev (r : Nat × Nat) (row : List Int) (f : Bool) (h1 : r.1 < row.length) (h2 : r.2 ≤ row.length) : d_pair_of [intT (r.1 : Nat), intT (r.2 : Nat), .v f (intsD row)] [] = some (.ok (.v true (spanD (pairF r row))) []) := by
  show retD 0 (b_pair_of 0 [some (intT (r.1 : Nat)), some (intT (r.2 : Nat)), some (.v f (intsD row))] []) = _
  unfold b_pair_of
  refine rt_ev (μ := []) (st_ret (ev_tup (f := true) (ds := [.int (row.getD r.1 0), hiD (pairF r row).2]) (ts := [intT (row.getD r.1 0), .v true (hiD (pairF r row).2)]) (ev_cons (ev_ixLA (ev_var rfl) (ev_var rfl) rfl (row_get h1) rfl) (ev_cons ?_ ev_nil)) rfl (by show 2 ≤ 64; decide))) (ret_v0 _ _ _)
  have hlen := ev_lenL (ga := dVar 2) (f := f) (xs := row.map D.int) (Γ := [some (intT (r.1 : Nat)), some (intT (r.2 : Nat)), some (.v f (intsD row))]) (μ := []) (ev_var rfl)
  rw [List.length_map] at hlen
  refine ev_ite (ev_tst (b := decide ((r.2 : Int) = row.length)) (ev_var rfl) hlen rfl) ?_
  unfold pairF
  by_cases e : r.2 = row.length
  · have e' : ((r.2 : Nat) : Int) = (row.length : Nat) := by rw [e]
    rw [if_pos e, if_pos (by simpa using e')]
    exact ev_atm
  · have e' : ¬ ((r.2 : Nat) : Int) = (row.length : Nat) := by omega
    rw [if_neg e, if_neg (by simpa using e')]
    exact ev_bin (ev_ixLA (ev_var rfl) (ev_var rfl) rfl (row_get (by omega)) rfl) ev_atm rfl
def boxOfF (rs : List (Nat × Nat)) (cs : List (List Int)) : Bx := (rs.zip cs).map fun p => pairF p.1 p.2
theorem gTpR {f g : Bool} {r : Nat × Nat} {row : List Int} {Γ : Gam} {μ : Mu} : gTp 2 (gsCons (gTp 2 (gsCons (gNm 2) (gsCons (gNm 3) gsNil))) (gsCons (gNm 4) gsNil)) (.two (.v f (rngD r)) (.v g (intsD row))) Γ μ =
    some (((Γ.set 2 (some (intT (r.1 : Nat)))).set 3 (some (intT (r.2 : Nat)))).set 4 (some (.v g (intsD row)))) := by
  have e : items μ (.v f (rngD r)) = some (false, [intT (r.1 : Nat), intT (r.2 : Nat)]) := by
    show some (false, [mkT f (.int (r.1 : Nat)), mkT f (.int (r.2 : Nat))]) = _
    rw [mkT_int, mkT_int]
  have e2 : gTp 2 (gsCons (gNm 2) (gsCons (gNm 3) gsNil)) (.one (.v f (rngD r))) Γ μ = some ((Γ.set 2 (some (intT (r.1 : Nat)))).set 3 (some (intT (r.2 : Nat)))) := by
    unfold gTp
    simp only [e]
    rfl
  show (if 2 = 2 then gsCons (gTp 2 (gsCons (gNm 2) (gsCons (gNm 3) gsNil))) (gsCons (gNm 4) gsNil) [.v f (rngD r), .v g (intsD row)] Γ μ else none) = _
  rw [if_pos rfl]
  show (match gTp 2 (gsCons (gNm 2) (gsCons (gNm 3) gsNil)) (.one (.v f (rngD r))) Γ μ with | some Γ' => gsCons (gNm 4) gsNil [.v g (intsD row)] Γ' μ | none => none) = _
  rw [e2]
  rfl
theorem box_of_ev (rs : List (Nat × Nat)) (cs : List (List Int)) (f g : Bool) (hz : cs.length ≤ 64) (h : ∀ p ∈ rs.zip cs, p.1.1 < p.2.length ∧ p.1.2 ≤ p.2.length) : d_box_of [.v f (rangesD rs), .v g (cutsD cs)] [] = some (.ok (.m 0) [.lst (((boxOfF rs cs).map spanD).map (T.v true))]) := by
  show retD 0 (b_box_of 0 [some (.v f (rangesD rs)), some (.v g (cutsD cs)), none, none, none] []) = _
  unfold b_box_of
  refine rt_ev (st_ret (dlc_genL (l := rs.zip cs) (y := fun p => .two (.v f (rngD p.1)) (.v g (intsD p.2))) (P := fun _ => true) (E := fun p => spanD (pairF p.1 p.2)) (it_zipM (ev_cons (ev_var rfl) (ev_cons (ev_var rfl) ev_nil))) (by simp [ItV.len]) (by rw [List.length_zip, sizeLine_eq]; omega) (fun acc => ok_zipM) (fun i hi acc => ?_) (fun p hp acc ha => ⟨_, gTpR, rfl, fun _ => ?_⟩))) ?_
  · rw [List.length_zip] at hi
    have := at_zipM (f := f) (g := g) (xs := rs.map rngD) (ys := cs.map intsD) (μ := [] ++ [Cell.lst acc]) i (by simp; omega) (by simp; omega)
    rw [this, List.getElem_map, List.getElem_map, List.getElem_zip]
    rw [show mkT f (rngD rs[i]) = .v f (rngD rs[i]) from mkT_tup, show mkT g (intsD cs[i]) = .v g (intsD cs[i]) from mkT_lst]
  · exact ev_callV (us := [intT (p.1.1 : Nat), intT (p.1.2 : Nat), .v false (intsD p.2)]) (ev_cons (ev_var rfl) (ev_cons (ev_var rfl) (ev_cons (ev_var rfl) ev_nil))) rfl rfl rfl (pair_of_ev p.1 p.2 false (h p hp).1 (h p hp).2) (low1 ha)
  · rw [filter_yes, List.nil_append]
    show retD 0 (some (.rt (.m 0) _)) = _
    rw [ret_c]
    unfold boxOfF
    simp only [List.map_map]
    rfl
end Qk08

set_option Elab.async false
set_option linter.all false
set_option maxRecDepth 100000
set_option maxHeartbeats 4000000
/-! families: blocks that begin with a layer -/
namespace Qk08
open PySem PySem.Spec PyProof.Rows L2 L3
theorem and_nat (a b : Nat) : Builtin.bitAnd (a : Nat) (b : Nat) = ((a &&& b : Nat) : Int) := by
  rw [bitAnd_pp (Int.natCast_nonneg a) (Int.natCast_nonneg b), Int.toNat_natCast, Int.toNat_natCast]
/-- a block: its ranges, its cells -/
abbrev Blk := List (Nat × Nat) × Nat
def blkD (b : Blk) : D := .tup [rangesD b.1, .int (b.2 : Nat)]
def repN (c w lo hi : Nat) : Nat := ((List.range (hi - lo)).map fun i => c * 2 ^ (w * (lo + i))).sum
theorem sum_cast : ∀ l : List Nat, (l.map fun n : Nat => (n : Int)).sum = ((l.sum : Nat) : Int)
  | [] => rfl
  | a :: l => by rw [List.map_cons, List.sum_cons, List.sum_cons, sum_cast l, Int.natCast_add]
theorem repN_cast (c w lo hi : Nat) : repF (c : Nat) w lo hi = (repN c w lo hi : Nat) := by
  unfold repF repN
  rw [← sum_cast, List.map_map]
  congr 1
/-- the blocks of what all layers share, with one more range -/
def newN (bl : List Blk) (w low e before behind : Nat) : List Blk := (bl.filter fun b => !decide (b.2 &&& before = b.2) && !decide (b.2 &&& behind = b.2)).map fun b => ((low, e) :: b.1, repN b.2 w low e)
def fromN (r : Nat → List Blk) (w low : Nat) (lay : List Nat) : Nat → Nat → Nat → List Blk
  | 0, _, _ => []
  | k + 1, e, c => if (c &&& lay.getD e 0) &&& lay.getD low 0 = c &&& lay.getD e 0 then [] else
      (if (c &&& lay.getD e 0) &&& lay.getD (e + 1) 0 = c &&& lay.getD e 0 then [] else newN (r (c &&& lay.getD e 0)) w low e (lay.getD low 0) (lay.getD (e + 1) 0)) ++ fromN r w low lay k (e + 1) (c &&& lay.getD e 0)
/-- a def that gives back a list that is new -/
def Gives (g : List T → Mu → Ot T) (us : List T) (ds : List D) : Prop := g us [] = some (.ok (.m 0) [.lst (ds.map (T.v true))]) ∨ g us [] = some (.ok (.v true (.lst ds)) [])
theorem ev_gives {gd : List T → Mu → Ot T} {n m0 : Nat} {rf : List Bool} {ts us : List T} {ds : List D} {Γ : Gam} {μ : Mu} {da : Da} (h : da Γ μ = some (.ok ts μ)) (hn : ts.length = n) (hrf : refsOf rf ts = []) (ha : argsIn μ false rf ts 0 = some us) (hg : Gives gd us ds) (hm : m0 ≤ μ.length) (hl : μ.all (Cell.low μ.length) = true) :
    dFrz m0 (dCall gd n false rf da) Γ μ = some (.ok (.v true (.lst ds)) μ) := by
  rcases hg with hg | hg
  · exact ev_callL h hn hrf ha hg hm hl
  · exact ev_callV h hn hrf ha hg hl
theorem lay_get {lay : List Nat} {k : Nat} (h : k < lay.length) : (lay.map fun n : Nat => D.int (n : Nat))[k]? = some (.int ((lay.getD k 0 : Nat) : Int)) := by
  rw [List.getElem?_map, List.getD_eq_getElem?_getD, List.getElem?_eq_getElem h]
  rfl
theorem eq_natV {μ : Mu} {f g : Bool} (a b : Nat) : cmpV .Eq μ (.v f (.int (a : Nat))) (.v g (.int (b : Nat))) = some (decide (a = b)) := by
  show some (decide ((a : Int) = (b : Int))) = _
  congr 1
  exact decide_eq_decide.mpr (by omega)
theorem ne_natV {μ : Mu} {f g : Bool} (a b : Nat) : cmpV .NotEq μ (.v f (.int (a : Nat))) (.v g (.int (b : Nat))) = some (!decide (a = b)) := by
  show (some (decide ((a : Int) = (b : Int)))).map (!·) = _
  rw [Option.map_some]
  congr 2
  exact decide_eq_decide.mpr (by omega)
theorem plain_blks (l : List Blk) (n : Nat) : ([Cell.lst ((l.map blkD).map (T.v true))] : Mu).all (Cell.low n) = true := by
  refine low1 (acc := (l.map blkD).map (T.v true)) ?_
  rw [List.all_eq_true]
  intro t ht
  obtain ⟨d, _, rfl⟩ := List.mem_map.mp ht
  rfl
theorem gTpB {i j : Nat} {f : Bool} {b : Blk} {Γ : Gam} {μ : Mu} : gTp 2 (gsCons (gNm i) (gsCons (gNm j) gsNil)) (.one (.v f (blkD b))) Γ μ = some ((Γ.set i (some (.v f (rangesD b.1)))).set j (some (intT (b.2 : Nat)))) := by
  have e : items μ (.v f (blkD b)) = some (false, [.v f (rangesD b.1), intT (b.2 : Nat)]) := by
    show some (false, [mkT f (rangesD b.1), mkT f (.int (b.2 : Nat))]) = _
    rw [mkT_int, show mkT f (rangesD b.1) = .v f (rangesD b.1) from mkT_tup]
  unfold gTp
  simp only [e]
  rfl
theorem catT_ev {μ : Mu} {a : D} {xs : List D} (hz : xs.length ≤ 1000) : catTV μ (.v true (.tup [a])) (.v true (.tup xs)) = some (.v true (.tup (a :: xs)), μ) := by
  unfold catTV
  rw [itemsP_tup, itemsP_tup]
  simp only [List.length_map, List.length_cons, List.length_nil, List.map_cons, List.map_nil]
  rw [if_pos (by rw [sizeLine_eq]; omega), if_neg (by simp)]
  by_cases h : xs = []
  · subst h
    simp
  · rw [if_neg (by simpa using h)]
    obtain ⟨q, h1, h2⟩ := pack_mk true xs
    have := h2 rfl
    subst this
    unfold newU
    have e : pack ([mkT true a] ++ xs.map (mkT true)) = some (true, a :: xs) := pack_app (p := true) (q := true) (ds := [a]) (by show (match pack [] with | some (g, ds) => some ((true || a.atom) && g, a :: ds) | none => none) = _; rfl) h1
    rw [e]
/-- the slots of blocks_from -/
abbrev fG (low : Nat) (lay : List Nat) (f : Bool) (w : Nat) (g : Bool) (sz : List Nat) (before c : Nat) (o7 o8 o9 o10 : Option T) : Gam :=
  [some (intT (low : Nat)), some (.v f (natsD lay)), some (intT (w : Nat)), some (.v g (natsD sz)), some (intT (before : Nat)), some (intT (c : Nat)), some (.m 0), o7, o8, o9, o10]
/-- the list of blocks that grows -/
abbrev bL (l : List Blk) : Cell := .lst ((l.map blkD).map (T.v true))
theorem app_blk {Γ : Gam} {l : List Blk} {b : Blk} {ge : De} (h6 : Γ[6]? = some (some (.m 0))) (hz : l.length < 16777216) (he : ge Γ [bL l] = some (.ok (.v true (blkD b)) [bL l])) : dMt appV (dVar 6) (aCons ge aNil) Γ [bL l] = some (.ok (.v true .non) [bL (l ++ [b])]) := by
  refine ev_mt (t := .m 0) (ev_var h6) rfl (ev_cons he ev_nil) ?_
  have e : L3.cellOf [bL l] (.m 0) = some (0, (l.map blkD).map (T.v true)) := rfl
  unfold appV
  simp only [e]
  rw [if_pos (by rw [List.length_map, List.length_map, sizeLine_eq]; exact hz)]
  show some (T.v true D.non, [Cell.lst (((l.map blkD).map (T.v true)) ++ [.v true (blkD b)])]) = _
  rw [show bL (l ++ [b]) = Cell.lst (((l ++ [b]).map blkD).map (T.v true)) from rfl, List.map_append, List.map_append]
  rfl
section
variable {w low : Nat} {lay : List Nat} {f g : Bool} {sz : List Nat}
theorem new_blk {μ : Mu} {before c e behind : Nat} {b : Blk} {f9 : Bool} (q1 : bitsI ((b.2 : Nat) : Int) ≤ 20000000) (q2 : b.1.length ≤ 1000) (hf : f9 = true) (hw : w * e ≤ 20000000) (hw2 : w ≤ 20000000) (hlow : low ≤ 1024) (he : e ≤ 1024) :
    dTup (aCons (d2 catTV (dTup (aCons (dTup (aCons (dVar 0) (aCons (dVar 7) aNil))) aNil)) (dVar 9)) (aCons (dCall d_repeated 4 false [false, false, false, false] (aCons (dVar 10) (aCons (dVar 2) (aCons (dVar 0) (aCons (dVar 7) aNil))))) aNil))
      (fG low lay f w g sz before c (some (intT (e : Nat))) (some (intT (behind : Nat))) (some (.v f9 (rangesD b.1))) (some (intT (b.2 : Nat)))) μ = some (.ok (.v true (blkD ((low, e) :: b.1, repN b.2 w low e))) μ) := by
  subst hf
  have h1 : d2 catTV (dTup (aCons (dTup (aCons (dVar 0) (aCons (dVar 7) aNil))) aNil)) (dVar 9) (fG low lay f w g sz before c (some (intT (e : Nat))) (some (intT (behind : Nat))) (some (.v true (rangesD b.1))) (some (intT (b.2 : Nat)))) μ = some (.ok (.v true (rangesD ((low, e) :: b.1))) μ) :=
    ev_catT (xs := [rngD (low, e)]) (ev_tup (f := true) (ts := [.v true (rngD (low, e))]) (ev_cons (ev_tup (f := true) (ts := [intT (low : Nat), intT (e : Nat)]) (ds := [.int (low : Nat), .int (e : Nat)]) (ev_cons (ev_var rfl) (ev_cons (ev_var rfl) ev_nil)) rfl (by show 2 ≤ 64; decide)) ev_nil) rfl (by show 1 ≤ 64; decide)) (ev_var rfl) (catT_ev (by rw [List.length_map]; exact q2))
  exact ev_tup (f := true) (ts := [.v true (rangesD ((low, e) :: b.1)), intT ((repN b.2 w low e : Nat) : Int)]) (ds := [rangesD ((low, e) :: b.1), .int ((repN b.2 w low e : Nat) : Int)]) (ev_cons h1
    (ev_cons (ev_call (us := [intT (b.2 : Nat), intT (w : Nat), intT (low : Nat), intT (e : Nat)]) (ev_cons (ev_var rfl) (ev_cons (ev_var rfl) (ev_cons (ev_var rfl) (ev_cons (ev_var rfl) ev_nil)))) rfl rfl rfl (by rw [← repN_cast]; exact repeated_ev _ w low e q1 hw hlow he hw2)) ev_nil)) rfl (by show 2 ≤ 64; decide)
theorem and_tst {Γ : Gam} {μ : Mu} {i j a b : Nat} (hi : Γ[i]? = some (some (intT (a : Nat)))) (hj : Γ[j]? = some (some (intT (b : Nat)))) : bOf (d2 (cmpVt .NotEq) (d2 (binV false .BitAnd) (dVar i) (dVar j)) (dVar i)) Γ μ = some (.ok (!decide (a &&& b = a)) μ) :=
  ev_tst (ev_bin (ev_var hi) (ev_var hj) (show L3.binI .BitAnd _ _ = some _ from congrArg some (and_nat a b))) (ev_var hi) (ne_natV _ _)
theorem and_tstE {Γ : Gam} {μ : Mu} {i j a b : Nat} (hi : Γ[i]? = some (some (intT (a : Nat)))) (hj : Γ[j]? = some (some (intT (b : Nat)))) : bOf (d2 (cmpVt .Eq) (d2 (binV false .BitAnd) (dVar i) (dVar j)) (dVar i)) Γ μ = some (.ok (decide (a &&& b = a)) μ) :=
  ev_tst (ev_bin (ev_var hi) (ev_var hj) (show L3.binI .BitAnd _ _ = some _ from congrArg some (and_nat a b))) (ev_var hi) (eq_natV _ _)
noncomputable abbrev innB : Ds := sIf (bAnd (bOf (d2 (cmpVt .NotEq) (d2 (binV false .BitAnd) (dVar 10) (dVar 4)) (dVar 10))) (bOf (d2 (cmpVt .NotEq) (d2 (binV false .BitAnd) (dVar 10) (dVar 8)) (dVar 10)))) (sExp (dMt appV (dVar 6) (aCons (dTup (aCons (d2 catTV (dTup (aCons (dTup (aCons (dVar 0) (aCons (dVar 7) aNil))) aNil)) (dVar 9)) (aCons (dCall d_repeated 4 false [false, false, false, false] (aCons (dVar 10) (aCons (dVar 2) (aCons (dVar 0) (aCons (dVar 7) aNil))))) aNil))) aNil))) L3.sNil
/-- the blocks behind one another -/
theorem inner_ev (acc bl : List Blk) (c e before behind : Nat) (o9 o10 : Option T) (hbl : ∀ b ∈ bl, bitsI ((b.2 : Nat) : Int) ≤ 20000000 ∧ b.1.length ≤ 1000) (hw : w * e ≤ 20000000) (hw2 : w ≤ 20000000) (hlow : low ≤ 1024) (he : e ≤ 1024) (hz : acc.length + bl.length < 16777216) {it : De}
    (hit : it (fG low lay f w g sz before c (some (intT (e : Nat))) (some (intT (behind : Nat))) o9 o10) [bL acc] = some (.ok (.v true (.lst (bl.map blkD))) [bL acc])) :
    ∃ o9' o10', sFor (iSeq true it) (gTp 2 (gsCons (gNm 9) (gsCons (gNm 10) gsNil))) innB (fG low lay f w g sz before c (some (intT (e : Nat))) (some (intT (behind : Nat))) o9 o10) [bL acc] =
      some (.nx (fG low lay f w g sz before c (some (intT (e : Nat))) (some (intT (behind : Nat))) o9' o10') [bL (acc ++ newN bl w low e before behind)]) := by
  have hN : ∀ l : List Blk, (newN l w low e before behind).length ≤ l.length := fun l => by
    unfold newN
    rw [List.length_map]
    exact List.length_filter_le _ _
  obtain ⟨Γ', μ', h1, rfl, o9', o10', rfl⟩ := for_gen (l := bl) (g := gTp 2 (gsCons (gNm 9) (gsCons (gNm 10) gsNil))) (it := iSeq true it) (y := fun b : Blk => .one (.v true (blkD b)))
    (Γ := fG low lay f w g sz before c (some (intT (e : Nat))) (some (intT (behind : Nat))) o9 o10) (μ := [bL acc]) (b := innB)
    (fun i Γ μ => μ = [bL (acc ++ newN (bl.take i) w low e before behind)] ∧ ∃ o9 o10, Γ = fG low lay f w g sz before c (some (intT (e : Nat))) (some (intT (behind : Nat))) o9 o10)
    (it_lst hit) (by simp [ItV.len]) (fun i Γ μ _ h => seq_walk) ⟨by rw [show newN (bl.take 0) w low e before behind = [] from rfl, List.append_nil], o9, o10, rfl⟩ (fun i hi Γ μ ⟨hm, o9, o10, hj⟩ => by
      subst hm hj
      have hat := at_lst (f := true) (μ := [bL (acc ++ newN (bl.take i) w low e before behind)]) (l := bl) (Dx := blkD) i hi
      rw [show mkT true (blkD bl[i]) = .v true (blkD bl[i]) from mkT_tup] at hat
      have e3 : bl.take (i + 1) = bl.take i ++ [bl[i]] := by rw [List.take_add_one]; simp [hi]
      have e4 : newN (bl.take (i + 1)) w low e before behind = newN (bl.take i) w low e before behind ++ newN [bl[i]] w low e before behind := by
        rw [e3]
        unfold newN
        rw [List.filter_append, List.map_append]
      obtain ⟨q1, q2⟩ := hbl _ (List.getElem_mem hi)
      rw [e4, ← List.append_assoc]
      refine ⟨_, fG low lay f w g sz before c (some (intT (e : Nat))) (some (intT (behind : Nat))) (some (.v true (rangesD bl[i].1))) (some (intT (bl[i].2 : Nat))), [bL (acc ++ newN (bl.take i) w low e before behind ++ newN [bl[i]] w low e before behind)], hat, gTpB, .inl (st_if (ev_and (and_tst rfl rfl) fun _ => and_tst rfl rfl) ?_), rfl, _, _, rfl⟩
      by_cases hp : (!decide (bl[i].2 &&& before = bl[i].2) && !decide (bl[i].2 &&& behind = bl[i].2)) = true
      · have e5 : newN [bl[i]] w low e before behind = [((low, e) :: bl[i].1, repN bl[i].2 w low e)] := by
          unfold newN
          rw [List.filter_cons, if_pos hp]
          rfl
        rw [e5, if_pos hp]
        refine st_exp (app_blk rfl ?_ (new_blk q1 q2 rfl hw hw2 hlow he))
        have := hN (bl.take i)
        rw [List.length_append]
        rw [List.length_take] at this
        omega
      · have e5 : newN [bl[i]] w low e before behind = [] := by
          unfold newN
          rw [List.filter_cons, if_neg hp]
          rfl
        rw [e5, if_neg hp, List.append_nil]
        exact st_nil)
  exact ⟨o9', o10', by rw [List.take_of_length_le (Nat.le_refl _)] at h1; exact h1⟩
end
end Qk08

set_option Elab.async false
set_option linter.all false
set_option maxRecDepth 100000
set_option maxHeartbeats 4000000
/-! families: blocks -/
namespace Qk08
open PySem PySem.Spec PyProof.Rows L2 L3
noncomputable abbrev outB (r : List T → Mu → Ot T) : Ds := (sSeq (sSet 5 (d2 (binV false .BitAnd) (dVar 5) (d2 ixV (dVar 1) (dVar 7)))) (sSeq (sIf (bOf (d2 (cmpVt .Eq) (d2 (binV false .BitAnd) (dVar 5) (dVar 4)) (dVar 5))) sBrk L3.sNil) (sSeq (sSet 8 (d2 ixV (dVar 1) (d2 (binV false .Add) (dVar 7) (dAtm (.int 1))))) (sIf (bOf (d2 (cmpVt .NotEq) (d2 (binV false .BitAnd) (dVar 5) (dVar 8)) (dVar 5))) (sFor (iSeq true (dFrz 0 (dCall r 2 false [false, false] (aCons (dVar 5) (aCons (dSl false (dVar 3) (some (dAtm (.int 1))) none) aNil))))) (gTp 2 (gsCons (gNm 9) (gsCons (gNm 10) gsNil))) innB) L3.sNil))))
section
variable {r : List T → Mu → Ot T} {rN : Nat → List Blk} {w low s B : Nat} {lay : List Nat} {f g : Bool} {rest : List Nat}
theorem fG_ev (hr : ∀ c, c < 2 ^ w → Gives r [intT (c : Nat), .v false (natsD rest)] ((rN c).map blkD)) (hB : ∀ c, c < 2 ^ w → (rN c).length ≤ B ∧ ∀ b ∈ rN c, bitsI ((b.2 : Nat) : Int) ≤ 20000000 ∧ b.1.length ≤ 1000) (hlay : lay.length = s + 2) (hlow : low < s) (hs : s ≤ 1000) (hw : w * s ≤ 20000000) (hw2 : w ≤ 20000000) :
    ∀ (k i c : Nat) (acc : List Blk) (o7 o8 o9 o10 : Option T), i + k = s - low → acc.length + k * B ≤ 16000000 → c < 2 ^ w → ∃ c' o7' o8' o9' o10', forD (.rng ((low + 1 : Nat) : Int) (s - low)) (gNm 7) (outB r) k i (fG low lay f w g (s :: rest) (lay.getD low 0) c o7 o8 o9 o10) [bL acc] =
      some (.nx (fG low lay f w g (s :: rest) (lay.getD low 0) c' o7' o8' o9' o10') [bL (acc ++ fromN rN w low lay k (low + 1 + i) c)])
  | 0, i, c, acc, o7, o8, o9, o10, hi, _, _ => ⟨c, o7, o8, o9, o10, by rw [show fromN rN w low lay 0 (low + 1 + i) c = [] from rfl, List.append_nil]; rfl⟩
  | k + 1, i, c, acc, o7, o8, o9, o10, hi, hz, hc => by
    have he : low + 1 + i ≤ s := by omega
    have hc' : c &&& lay.getD (low + 1 + i) 0 < 2 ^ w := Nat.lt_of_le_of_lt Nat.and_le_left hc
    have v1 : ((low + 1 : Nat) : Int) + (i : Nat) = ((low + 1 + i : Nat) : Int) := rfl
    have hat : (ItV.rng ((low + 1 : Nat) : Int) (s - low)).at [bL acc] i = some (.one (intT ((low + 1 + i : Nat) : Int))) := rfl
    have hset : ∀ (Γ : Gam) (μ : Mu), Γ[1]? = some (some (.v f (natsD lay))) → ∀ (gi : De) (n : Nat), n < lay.length → gi Γ μ = some (.ok (intT (n : Nat)) μ) → d2 ixV (dVar 1) gi Γ μ = some (.ok (intT ((lay.getD n 0 : Nat) : Int)) μ) := fun Γ μ h1 gi n hn hg => ev_ixLA (ev_var h1) hg rfl (lay_get hn) rfl
    obtain ⟨c1, hc1⟩ : ∃ c1, c1 = c &&& lay.getD (low + 1 + i) 0 := ⟨_, rfl⟩
    have s1 : sSet 5 (d2 (binV false .BitAnd) (dVar 5) (d2 ixV (dVar 1) (dVar 7))) (fG low lay f w g (s :: rest) (lay.getD low 0) c (some (intT ((low + 1 + i : Nat) : Int))) o8 o9 o10) [bL acc] = some (.nx (fG low lay f w g (s :: rest) (lay.getD low 0) c1 (some (intT ((low + 1 + i : Nat) : Int))) o8 o9 o10) [bL acc]) := by
      rw [hc1]
      exact st_set (ev_bin (ev_var rfl) (hset _ _ rfl _ (low + 1 + i) (by omega) (ev_var rfl)) (congrArg some (and_nat _ _)))
    rw [← hc1] at hc'
    unfold forD
    rw [show (ItV.rng ((low + 1 : Nat) : Int) (s - low)).ok [bL acc] = true from rfl, if_pos rfl, hat]
    show ∃ c' o7' o8' o9' o10', (match outB r (fG low lay f w g (s :: rest) (lay.getD low 0) c (some (intT ((low + 1 + i : Nat) : Int))) o8 o9 o10) [bL acc] with
      | some (.nx Γ2 μ2) => forD (.rng ((low + 1 : Nat) : Int) (s - low)) (gNm 7) (outB r) k (i + 1) Γ2 μ2
      | some (.ct Γ2 μ2) => forD (.rng ((low + 1 : Nat) : Int) (s - low)) (gNm 7) (outB r) k (i + 1) Γ2 μ2
      | some (.bk Γ2 μ2) => some (.nx Γ2 μ2)
      | r => r) = _
    by_cases hbk : c1 &&& lay.getD low 0 = c1
    · have eo : outB r (fG low lay f w g (s :: rest) (lay.getD low 0) c (some (intT ((low + 1 + i : Nat) : Int))) o8 o9 o10) [bL acc] = some (.bk (fG low lay f w g (s :: rest) (lay.getD low 0) c1 (some (intT ((low + 1 + i : Nat) : Int))) o8 o9 o10) [bL acc]) :=
        st_seq s1 (st_bk (st_if (b := true) (by rw [and_tstE (i := 5) (j := 4) (a := c1) (b := lay.getD low 0) rfl rfl]; rw [decide_eq_true hbk]) rfl))
      rw [eo]
      refine ⟨c1, some (intT ((low + 1 + i : Nat) : Int)), o8, o9, o10, ?_⟩
      have ef : fromN rN w low lay (k + 1) (low + 1 + i) c = [] := by
        unfold fromN
        rw [← hc1, if_pos hbk]
      rw [ef, List.append_nil]
    · have s2 : sIf (bOf (d2 (cmpVt .Eq) (d2 (binV false .BitAnd) (dVar 5) (dVar 4)) (dVar 5))) sBrk L3.sNil (fG low lay f w g (s :: rest) (lay.getD low 0) c1 (some (intT ((low + 1 + i : Nat) : Int))) o8 o9 o10) [bL acc] = some (.nx (fG low lay f w g (s :: rest) (lay.getD low 0) c1 (some (intT ((low + 1 + i : Nat) : Int))) o8 o9 o10) [bL acc]) :=
        st_if (b := false) (by rw [and_tstE (i := 5) (j := 4) (a := c1) (b := lay.getD low 0) rfl rfl, decide_eq_false hbk]) rfl
      have s3 : sSet 8 (d2 ixV (dVar 1) (d2 (binV false .Add) (dVar 7) (dAtm (.int 1)))) (fG low lay f w g (s :: rest) (lay.getD low 0) c1 (some (intT ((low + 1 + i : Nat) : Int))) o8 o9 o10) [bL acc] = some (.nx (fG low lay f w g (s :: rest) (lay.getD low 0) c1 (some (intT ((low + 1 + i : Nat) : Int))) (some (intT ((lay.getD (low + 1 + i + 1) 0 : Nat) : Int))) o9 o10) [bL acc]) :=
        st_set (hset _ _ rfl _ (low + 1 + i + 1) (by omega) (ev_bin (k := ((low + 1 + i + 1 : Nat) : Int)) (ev_var rfl) ev_atm rfl))
      obtain ⟨z1, z2⟩ := hB c1 hc'
      have hacc : acc.length + B ≤ 16000000 := by
        have := Nat.add_mul k 1 B
        omega
      by_cases hbh : c1 &&& lay.getD (low + 1 + i + 1) 0 = c1
      · have s4 : sIf (bOf (d2 (cmpVt .NotEq) (d2 (binV false .BitAnd) (dVar 5) (dVar 8)) (dVar 5))) (sFor (iSeq true (dFrz 0 (dCall r 2 false [false, false] (aCons (dVar 5) (aCons (dSl false (dVar 3) (some (dAtm (.int 1))) none) aNil))))) (gTp 2 (gsCons (gNm 9) (gsCons (gNm 10) gsNil))) innB) L3.sNil
            (fG low lay f w g (s :: rest) (lay.getD low 0) c1 (some (intT ((low + 1 + i : Nat) : Int))) (some (intT ((lay.getD (low + 1 + i + 1) 0 : Nat) : Int))) o9 o10) [bL acc] = some (.nx (fG low lay f w g (s :: rest) (lay.getD low 0) c1 (some (intT ((low + 1 + i : Nat) : Int))) (some (intT ((lay.getD (low + 1 + i + 1) 0 : Nat) : Int))) o9 o10) [bL acc]) :=
          st_if (b := false) (by rw [and_tst (i := 5) (j := 8) (a := c1) (b := lay.getD (low + 1 + i + 1) 0) rfl rfl, decide_eq_true hbh]; rfl) rfl
        have eo : outB r (fG low lay f w g (s :: rest) (lay.getD low 0) c (some (intT ((low + 1 + i : Nat) : Int))) o8 o9 o10) [bL acc] = _ := st_seq s1 (st_seq s2 (st_seq s3 s4))
        rw [eo]
        obtain ⟨c', p7, p8, p9, p10, ih⟩ := fG_ev hr hB hlay hlow hs hw hw2 k (i + 1) c1 acc (some (intT ((low + 1 + i : Nat) : Int))) (some (intT ((lay.getD (low + 1 + i + 1) 0 : Nat) : Int))) o9 o10 (by omega) (by have := Nat.add_mul k 1 B; omega) hc'
        refine ⟨c', p7, p8, p9, p10, ?_⟩
        have ef : fromN rN w low lay (k + 1) (low + 1 + i) c = fromN rN w low lay k (low + 1 + (i + 1)) c1 := by
          rw [fromN, ← hc1, if_neg hbk, if_pos hbh, List.nil_append]
          rfl
        rw [ef]
        exact ih
      · obtain ⟨qf, hq, _⟩ := ev_from (ga := dVar 3) (gb := dAtm (.int 1)) (a := 1) (f := g) (g := true) (xs := (s :: rest).map fun n : Nat => D.int (n : Nat)) (Γ := fG low lay f w g (s :: rest) (lay.getD low 0) c1 (some (intT ((low + 1 + i : Nat) : Int))) (some (intT ((lay.getD (low + 1 + i + 1) 0 : Nat) : Int))) o9 o10) (μ := [bL acc]) (ev_var rfl) ev_atm
        obtain ⟨o9', o10', hin⟩ := inner_ev (it := dFrz 0 (dCall r 2 false [false, false] (aCons (dVar 5) (aCons (dSl false (dVar 3) (some (dAtm (.int 1))) none) aNil)))) (low := low) (lay := lay) (f := f) (g := g) (sz := s :: rest) acc (rN c1) c1 (low + 1 + i) (lay.getD low 0) (lay.getD (low + 1 + i + 1) 0) o9 o10 z2 (Nat.le_trans (Nat.mul_le_mul_left w he) hw) hw2 (by omega) (by omega) (by omega)
          (ev_gives (m0 := 0) (us := [intT (c1 : Nat), .v false (natsD rest)]) (ev_cons (ev_var rfl) (ev_cons hq ev_nil)) rfl rfl rfl (hr c1 hc') (Nat.zero_le _) (plain_blks acc _))
        have s4 : sIf (bOf (d2 (cmpVt .NotEq) (d2 (binV false .BitAnd) (dVar 5) (dVar 8)) (dVar 5))) (sFor (iSeq true (dFrz 0 (dCall r 2 false [false, false] (aCons (dVar 5) (aCons (dSl false (dVar 3) (some (dAtm (.int 1))) none) aNil))))) (gTp 2 (gsCons (gNm 9) (gsCons (gNm 10) gsNil))) innB) L3.sNil
            (fG low lay f w g (s :: rest) (lay.getD low 0) c1 (some (intT ((low + 1 + i : Nat) : Int))) (some (intT ((lay.getD (low + 1 + i + 1) 0 : Nat) : Int))) o9 o10) [bL acc] = _ :=
          st_if (b := true) (by rw [and_tst (i := 5) (j := 8) (a := c1) (b := lay.getD (low + 1 + i + 1) 0) rfl rfl, decide_eq_false hbh]; rfl) hin
        have eo : outB r (fG low lay f w g (s :: rest) (lay.getD low 0) c (some (intT ((low + 1 + i : Nat) : Int))) o8 o9 o10) [bL acc] = _ := st_seq s1 (st_seq s2 (st_seq s3 s4))
        rw [eo]
        have hnl : (newN (rN c1) w low (low + 1 + i) (lay.getD low 0) (lay.getD (low + 1 + i + 1) 0)).length ≤ B := by
          unfold newN
          rw [List.length_map]
          exact Nat.le_trans (List.length_filter_le _ _) z1
        obtain ⟨c', p7, p8, p9, p10, ih⟩ := fG_ev hr hB hlay hlow hs hw hw2 k (i + 1) c1 (acc ++ newN (rN c1) w low (low + 1 + i) (lay.getD low 0) (lay.getD (low + 1 + i + 1) 0)) (some (intT ((low + 1 + i : Nat) : Int))) (some (intT ((lay.getD (low + 1 + i + 1) 0 : Nat) : Int))) o9' o10' (by omega) (by
          rw [List.length_append]
          have := Nat.add_mul k 1 B
          omega) hc'
        refine ⟨c', p7, p8, p9, p10, ?_⟩
        have ef : fromN rN w low lay (k + 1) (low + 1 + i) c = newN (rN c1) w low (low + 1 + i) (lay.getD low 0) (lay.getD (low + 1 + i + 1) 0) ++ fromN rN w low lay k (low + 1 + (i + 1)) c1 := by
          rw [fromN, ← hc1, if_neg hbk, if_neg hbh]
          rfl
        rw [ef, ← List.append_assoc]
        exact ih
end
end Qk08

set_option Elab.async false
set_option linter.all false
set_option maxRecDepth 100000
set_option maxHeartbeats 4000000
/-! families: all blocks -/
namespace Qk08
open PySem PySem.Spec PyProof.Rows L2 L3
def layN (c : Int) (w s : Nat) : List Nat := [0] ++ (List.range s).map (fun a => (Builtin.bitAnd (c / 2 ^ (w * a)) (2 ^ w - 1)).toNat) ++ [0]
def blkL (r : Nat → List Blk) (w s : Nat) (lay : List Nat) : List Blk := (List.range s).flatMap fun low => fromN r w low lay (s - low) (low + 1) (lay.getD (low + 1) 0)
def blkN : List Nat → Nat → List Blk
  | [], c => if c = 0 then [] else [([], c)]
  | s :: rest, c => blkL (blkN rest) (volF rest) s (layN (c : Nat) (volF rest) s)
def blkI (s : Nat) (rest : List Nat) (c : Int) : List Blk := blkL (blkN rest) (volF rest) s (layN c (volF rest) s)
theorem pow_pos' (w : Nat) : (0 : Int) ≤ 2 ^ w - 1 := by
  have : (0 : Int) < 2 ^ w := Int.pow_pos (by decide)
  omega
theorem and_cast (x : Int) (w : Nat) : ((Builtin.bitAnd x (2 ^ w - 1)).toNat : Int) = Builtin.bitAnd x (2 ^ w - 1) := Int.toNat_of_nonneg (bitAnd_range x (pow_pos' w)).1
theorem and_lt (x : Int) (w : Nat) : (Builtin.bitAnd x (2 ^ w - 1)).toNat < 2 ^ w := by
  have h := (bitAnd_range x (pow_pos' w)).2
  have e : ((2 : Int) ^ w) = ((2 ^ w : Nat) : Int) := by rw [Int.natCast_pow]; rfl
  have := and_cast x w
  omega
theorem lay_len (c : Int) (w s : Nat) : (layN c w s).length = s + 2 := by simp [layN]
theorem lay_lt (c : Int) (w s : Nat) : ∀ x ∈ layN c w s, x < 2 ^ w := by
  intro x hx
  have h0 : 0 < 2 ^ w := Nat.pow_pos (by decide)
  simp only [layN, List.mem_append, List.mem_cons, List.not_mem_nil, or_false, List.mem_map] at hx
  rcases hx with (rfl | ⟨a, _, rfl⟩) | rfl
  · exact h0
  · exact and_lt _ _
  · exact h0
theorem getD_lt {lay : List Nat} {w : Nat} (h : ∀ x ∈ lay, x < 2 ^ w) (k : Nat) : lay.getD k 0 < 2 ^ w := by
  rw [List.getD_eq_getElem?_getD]
  by_cases hk : k < lay.length
  · rw [List.getElem?_eq_getElem hk]
    exact h _ (List.getElem_mem hk)
  · rw [List.getElem?_eq_none (by omega)]
    exact Nat.pow_pos (by decide)
/-! how many, how great -/
def RngIn (sizes : List Nat) (rs : List (Nat × Nat)) : Prop := rs.length = sizes.length ∧ ∀ p ∈ rs.zip sizes, p.1.1 < p.1.2 ∧ p.1.2 ≤ p.2
theorem repN_lt {c w lo hi m : Nat} (hc : c < 2 ^ w) (h : hi ≤ m) : repN c w lo hi < 2 ^ (w * m) := by
  have := (repF_lt (c := (c : Nat)) (w := w) (Int.natCast_nonneg _) (by exact_mod_cast hc) lo hi m h).2
  rw [repN_cast] at this
  exact_mod_cast this
section
variable {rN : Nat → List Blk} {w low s B : Nat} {lay : List Nat} {rest : List Nat}
theorem from_len (hB : ∀ c, c < 2 ^ w → (rN c).length ≤ B) : ∀ (k e c : Nat), c < 2 ^ w → (fromN rN w low lay k e c).length ≤ k * B
  | 0, e, c, _ => by simp [fromN]
  | k + 1, e, c, hc => by
    have hc' : c &&& lay.getD e 0 < 2 ^ w := Nat.lt_of_le_of_lt Nat.and_le_left hc
    have ih := from_len hB k (e + 1) _ hc'
    have hn : (newN (rN (c &&& lay.getD e 0)) w low e (lay.getD low 0) (lay.getD (e + 1) 0)).length ≤ B := by
      unfold newN
      rw [List.length_map]
      exact Nat.le_trans (List.length_filter_le _ _) (hB _ hc')
    have := Nat.add_mul k 1 B
    unfold fromN
    split
    · exact Nat.zero_le _
    · rw [List.length_append]
      split
      · rw [List.length_nil]; omega
      · omega
theorem from_mem (hR : ∀ c, c < 2 ^ w → ∀ b ∈ rN c, b.2 < 2 ^ w ∧ RngIn rest b.1) : ∀ (k e c : Nat), c < 2 ^ w → low < e → e + k ≤ s + 1 → ∀ b ∈ fromN rN w low lay k e c, b.2 < 2 ^ (w * s) ∧ RngIn (s :: rest) b.1
  | 0, e, c, _, _, _, b, hb => by cases hb
  | k + 1, e, c, hc, hl, he, b, hb => by
    have hc' : c &&& lay.getD e 0 < 2 ^ w := Nat.lt_of_le_of_lt Nat.and_le_left hc
    unfold fromN at hb
    split at hb
    · cases hb
    · rcases List.mem_append.mp hb with hb | hb
      · split at hb
        · cases hb
        · unfold newN at hb
          obtain ⟨b', hb', rfl⟩ := List.mem_map.mp hb
          obtain ⟨q1, q2, q3⟩ := hR _ hc' b' (List.mem_filter.mp hb').1
          refine ⟨repN_lt q1 (by omega), by show b'.1.length + 1 = _; rw [q2]; rfl, fun p hp => ?_⟩
          rcases List.mem_cons.mp (show p ∈ ((low, e), s) :: b'.1.zip rest from hp) with rfl | hp
          · exact ⟨hl, by show e ≤ s; omega⟩
          · exact q3 p hp
      · exact from_mem hR k (e + 1) _ hc' (by omega) (by omega) b hb
end
theorem blkL_len {rN : Nat → List Blk} {w B s : Nat} {lay : List Nat} (hB : ∀ c, c < 2 ^ w → (rN c).length ≤ B) (hl : ∀ x ∈ lay, x < 2 ^ w) : ∀ n, n ≤ s → ((List.range n).flatMap fun low => fromN rN w low lay (s - low) (low + 1) (lay.getD (low + 1) 0)).length ≤ n * (s * B)
  | 0, _ => by simp
  | n + 1, h => by
    rw [List.range_succ, List.flatMap_append, List.length_append]
    have ih := blkL_len (s := s) hB hl n (by omega)
    have h1 := from_len (low := n) (lay := lay) hB (s - n) (n + 1) _ (getD_lt hl (n + 1))
    have h2 : (s - n) * B ≤ s * B := Nat.mul_le_mul_right B (Nat.sub_le _ _)
    have := Nat.add_mul n 1 (s * B)
    simp only [List.flatMap_cons, List.flatMap_nil, List.append_nil]
    omega
theorem blkL_mem {rN : Nat → List Blk} {w s : Nat} {lay rest : List Nat} (hR : ∀ c, c < 2 ^ w → ∀ b ∈ rN c, b.2 < 2 ^ w ∧ RngIn rest b.1) (hl : ∀ x ∈ lay, x < 2 ^ w) : ∀ b ∈ blkL rN w s lay, b.2 < 2 ^ (w * s) ∧ RngIn (s :: rest) b.1 := by
  intro b hb
  obtain ⟨low, hlow, hb⟩ := List.mem_flatMap.mp hb
  have hlow := List.mem_range.mp hlow
  exact from_mem hR (s - low) (low + 1) _ (getD_lt hl _) (by omega) (by omega) b hb
theorem blkN_ok : ∀ (sizes : List Nat) (c : Nat), c < 2 ^ volF sizes → (blkN sizes c).length ≤ volF sizes * volF sizes ∧ ∀ b ∈ blkN sizes c, b.2 < 2 ^ volF sizes ∧ RngIn sizes b.1
  | [], c, hc => by
    unfold blkN
    split
    · exact ⟨by decide, fun b hb => by cases hb⟩
    · refine ⟨by show 1 ≤ volF [] * volF []; decide, fun b hb => ?_⟩
      obtain rfl := List.mem_singleton.mp hb
      exact ⟨hc, rfl, fun p hp => by cases hp⟩
  | s :: rest, c, hc => by
    have ih := fun c hc => blkN_ok rest c hc
    constructor
    · have := blkL_len (s := s) (B := volF rest * volF rest) (fun c hc => (ih c hc).1) (lay_lt (c : Nat) (volF rest) s) s (Nat.le_refl _)
      rw [volF_cons]
      refine Nat.le_trans this (Nat.le_of_eq ?_)
      rw [← Nat.mul_assoc, Nat.mul_mul_mul_comm]
    · intro b hb
      have := blkL_mem (s := s) (rest := rest) (fun c hc => (ih c hc).2) (lay_lt (c : Nat) (volF rest) s) b hb
      rw [volF_cons, Nat.mul_comm]
      exact this
theorem blkI_ok (s : Nat) (rest : List Nat) (c : Int) : (blkI s rest c).length ≤ volF (s :: rest) * volF (s :: rest) ∧ ∀ b ∈ blkI s rest c, b.2 < 2 ^ volF (s :: rest) ∧ RngIn (s :: rest) b.1 := by
  have ih := fun c hc => blkN_ok rest c hc
  constructor
  · have := blkL_len (s := s) (B := volF rest * volF rest) (fun c hc => (ih c hc).1) (lay_lt c (volF rest) s) s (Nat.le_refl _)
    rw [volF_cons]
    refine Nat.le_trans this (Nat.le_of_eq ?_)
    rw [← Nat.mul_assoc, Nat.mul_mul_mul_comm]
  · intro b hb
    have := blkL_mem (s := s) (rest := rest) (fun c hc => (ih c hc).2) (lay_lt c (volF rest) s) b hb
    rw [volF_cons, Nat.mul_comm]
    exact this
end Qk08

set_option Elab.async false
set_option linter.all false
set_option maxRecDepth 100000
set_option maxHeartbeats 4000000
/-! families: all blocks, as the program finds them -/
namespace Qk08
open PySem PySem.Spec PyProof.Rows L2 L3
section
variable {r : List T → Mu → Ot T} {rN : Nat → List Blk} {w low s B : Nat} {lay : List Nat} {f g : Bool} {rest : List Nat}
theorem blocks_from_ev (hr : ∀ c, c < 2 ^ w → Gives r [intT (c : Nat), .v false (natsD rest)] ((rN c).map blkD)) (hB : ∀ c, c < 2 ^ w → (rN c).length ≤ B ∧ ∀ b ∈ rN c, bitsI ((b.2 : Nat) : Int) ≤ 20000000 ∧ b.1.length ≤ 1000) (hl : ∀ x ∈ lay, x < 2 ^ w) (hlay : lay.length = s + 2) (hlow : low < s) (hs : s ≤ 1000) (hw : w * s ≤ 20000000) (hw2 : w ≤ 20000000) (hz : s * B ≤ 16000000) :
    d_blocks_from r [intT (low : Nat), .v f (natsD lay), intT (w : Nat), .v g (natsD (s :: rest))] [] = some (.ok (.m 0) [bL (fromN rN w low lay (s - low) (low + 1) (lay.getD (low + 1) 0))]) := by
  show retD 0 (b_blocks_from r 0 [some (intT (low : Nat)), some (.v f (natsD lay)), some (intT (w : Nat)), some (.v g (natsD (s :: rest))), none, none, none, none, none, none, none] []) = _
  unfold b_blocks_from
  obtain ⟨c', p7, p8, p9, p10, h1⟩ := fG_ev (f := f) (g := g) hr hB hlay hlow hs hw hw2 (s - low) 0 (lay.getD (low + 1) 0) [] none none none none (by omega) (by
    have : (s - low) * B ≤ s * B := Nat.mul_le_mul_right B (Nat.sub_le _ _)
    rw [List.length_nil]
    omega) (getD_lt hl _)
  have hix : ∀ (Γ : Gam) (μ : Mu), Γ[1]? = some (some (.v f (natsD lay))) → ∀ (gi : De) (n : Nat), n < lay.length → gi Γ μ = some (.ok (intT (n : Nat)) μ) → d2 ixV (dVar 1) gi Γ μ = some (.ok (intT ((lay.getD n 0 : Nat) : Int)) μ) := fun Γ μ h1 gi n hn hg => ev_ixLA (ev_var h1) hg rfl (lay_get hn) rfl
  have hsz : ∀ (Γ : Gam) (μ : Mu), Γ[3]? = some (some (.v g (natsD (s :: rest)))) → d2 ixV (dVar 3) (dAtm (.int 0)) Γ μ = some (.ok (intT (s : Nat)) μ) := fun Γ μ h3 => ev_ixLA (n := 0) (ev_var h3) ev_atm rfl rfl rfl
  have e0 : (((s + 1 : Nat) : Int) - ((low + 1 : Nat) : Int)).toNat = s - low := by omega
  have hit : ∀ (Γ : Gam) (μ : Mu), Γ[0]? = some (some (intT (low : Nat))) → Γ[3]? = some (some (.v g (natsD (s :: rest)))) → iRng2D (aCons (d2 (binV false .Add) (dVar 0) (dAtm (.int 1))) (aCons (d2 (binV false .Add) (d2 ixV (dVar 3) (dAtm (.int 0))) (dAtm (.int 1))) aNil)) Γ μ = some (.ok (.rng ((low + 1 : Nat) : Int) (s - low)) μ) := fun Γ μ h0 h3 => by
    rw [← e0]
    exact it_rng2 (ev_cons (ev_bin (k := ((low + 1 : Nat) : Int)) (ev_var h0) ev_atm rfl) (ev_cons (ev_bin (k := ((s + 1 : Nat) : Int)) (hsz Γ μ h3) ev_atm rfl) ev_nil)) ⟨by omega, by omega, by omega, by omega⟩
  refine rt_ev (st_seq (st_set (hix _ _ rfl _ low (by omega) (ev_var rfl))) (st_seq (st_set (hix _ _ rfl _ (low + 1) (by omega) (ev_bin (ev_var rfl) ev_atm rfl))) (st_seq (st_set (ev_lstL ev_nil (by decide))) (st_seq (for_ev (hit _ _ rfl rfl) h1) (st_ret (ev_var rfl)))))) ?_
  rw [List.nil_append]
  exact ret_c _
theorem blocks_nil (c : Nat) (hc : c < 2 ^ 20000000) : Gives (d1_blocks r) [intT (c : Nat), .v g (natsD [])] ((blkN [] c).map blkD) := by
  refine .inr ?_
  show retD 0 (b_blocks r 0 [some (intT (c : Nat)), some (.v g (natsD [])), none, none, none, none, none, none] []) = _
  unfold b_blocks
  refine rt_ev (μ := []) (t := .v true (.lst ((blkN [] c).map blkD))) (st_rt (st_if (b := true) (ev_not (b := false) (ev_tru (ev_var rfl) rfl)) ?_)) (ret_v0 _ _ _)
  rw [if_pos rfl]
  refine st_ret (ev_ite (b := decide (c ≠ 0)) (ev_tru (ev_var rfl) ?_) ?_)
  · show some (((c : Nat) : Int) != 0) = _
    congr 1
    by_cases h : c = 0
    · subst h; rfl
    · have h' : ¬ ((c : Nat) : Int) = 0 := by omega
      simp [h]
  · unfold blkN
    by_cases h : c = 0
    · rw [decide_eq_false (by simpa using h), if_pos h]
      exact ev_lst ev_nil rfl (by decide)
    · rw [decide_eq_true h, if_neg h]
      exact ev_lst (ts := [.v true (blkD ([], c))]) (ev_cons (ev_tup (ts := [.v true (.tup []), intT (c : Nat)]) (ev_cons (ev_tup ev_nil rfl (by decide)) (ev_cons (ev_var rfl) ev_nil)) rfl (by show 2 ≤ 64; decide)) ev_nil) rfl (by show 1 ≤ 64; decide)
theorem ext_blk {Γ : Gam} {l l2 : List Blk} {ge : De} (h6 : Γ[6]? = some (some (.m 0))) (hz : l.length + l2.length ≤ 16777216) (he : ge Γ [bL l] = some (.ok (.v true (.lst (l2.map blkD))) [bL l])) : dMt extV (dVar 6) (aCons ge aNil) Γ [bL l] = some (.ok (.v true .non) [bL (l ++ l2)]) := by
  refine ev_mt (t := .m 0) (ev_var h6) rfl (ev_cons he ev_nil) ?_
  have e : L3.cellOf [bL l] (.m 0) = some (0, (l.map blkD).map (T.v true)) := rfl
  have e2 : itemsP [bL l] (.v true (.lst (l2.map blkD))) = some (true, (l2.map blkD).map (T.v true)) := by
    show some (true, (l2.map blkD).map (mkT true)) = _
    rfl
  unfold extV
  simp only [e, e2]
  rw [if_pos (by rw [List.length_map, List.length_map, List.length_map, List.length_map, sizeLine_eq]; exact hz)]
  show some (T.v true D.non, [Cell.lst (((l.map blkD).map (T.v true)) ++ (l2.map blkD).map (T.v true))]) = _
  rw [show bL (l ++ l2) = Cell.lst (((l ++ l2).map blkD).map (T.v true)) from rfl, List.map_append, List.map_append]
theorem lay_ev {Γ : Gam} {c : Int} {w s : Nat} {sz : List Nat} {g : Bool} (h0 : Γ[0]? = some (some (intT c))) (h1 : Γ[1]? = some (some (.v g (natsD (s :: sz))))) (h2 : Γ[2]? = some (some (intT (w : Nat)))) (h3 : Γ[3]? = some (some (intT (2 ^ w - 1)))) (hn : Γ.length = 8) (hs : s ≤ 1000) (hw : w ≤ 20000000) :
    ∃ q, d2 (binV false .Add) (d2 (binV false .Add) (dLst false (aCons (dAtm (.int 0)) aNil)) (dLc false 0 (iRng1D (aCons (d2 ixV (dVar 1) (dAtm (.int 0))) aNil)) (gNm 5) bYes (d2 (binV false .BitAnd) (d2 (binV false .RShift) (dVar 0) (d2 (binV false .Mult) (dVar 2) (dVar 5))) (dVar 3)) [5])) (dLst false (aCons (dAtm (.int 0)) aNil)) Γ [] = some (.ok (.v q (natsD (layN c w s))) []) := by
  have hg : ∀ (k i : Nat) (t : T), k ≠ 5 → ((wipeG Γ [5]).set 5 (some t))[k]? = Γ[k]? := fun k i t hk => by
    unfold wipeG wipeG
    rw [List.getElem?_set_ne (by omega), List.getElem?_set_ne (by omega)]
  have e := dlc_genF (m0 := 0) (l := List.range s) (it := iRng1D (aCons (d2 ixV (dVar 1) (dAtm (.int 0))) aNil)) (g := gNm 5) (c := bYes) (e := d2 (binV false .BitAnd) (d2 (binV false .RShift) (dVar 0) (d2 (binV false .Mult) (dVar 2) (dVar 5))) (dVar 3)) (own := [5]) (Γ := Γ) (μ := []) (y := fun k : Nat => .one (intT (k : Nat))) (P := fun _ => true) (E := fun k : Nat => .int (((Builtin.bitAnd (c / 2 ^ (w * k)) (2 ^ w - 1)).toNat : Nat) : Int))
    (it_rng1 (ev_cons (ev_ixLA (n := 0) (x := .int (s : Nat)) (ev_var h1) ev_atm rfl rfl rfl) ev_nil) (by omega)) (by simp [ItV.len]) (by rw [List.length_range, sizeLine_eq]; omega) (fun acc => rfl) (fun i h acc => at_rng0 h) (fun k hk acc ha => ⟨_, rfl, rfl, fun _ => ?_⟩) (Nat.zero_le _) rfl
  · rw [filter_yes] at e
    obtain ⟨q1, e1, _⟩ := ev_catL (ev_lst (f := true) (ts := [intT 0]) (ds := [.int 0]) (ev_cons ev_atm ev_nil) rfl (by decide)) e (by rw [List.length_map, List.length_range, sizeLine_eq]; show 1 + s ≤ _; omega)
    obtain ⟨q2, e2, _⟩ := ev_catL e1 (ev_lst (f := true) (ds := [.int 0]) (ts := [intT 0]) (ev_cons ev_atm ev_nil) rfl (by decide)) (by rw [List.length_append, List.length_map, List.length_range, sizeLine_eq]; show 1 + s + 1 ≤ _; omega)
    refine ⟨q2, ?_⟩
    rw [e2]
    congr 4
    unfold layN
    rw [List.map_append, List.map_append, List.map_map]
    rfl
  · have hk : k < s := List.mem_range.mp hk
    rw [and_cast]
    have b1 := bits_nat hw
    have b2 := bits_nat (show k ≤ 1024 by omega)
    have l1 : Nat.log2 20000000 ≤ 24 := by decide
    have l2 : Nat.log2 1024 = 10 := by decide
    refine ev_bin (i := c / 2 ^ (w * k)) (j := 2 ^ w - 1) (ev_bin (i := c) (j := ((w * k : Nat) : Int)) (ev_var (by rw [hg 0 0 _ (by decide)]; exact h0)) (ev_bin (i := w) (j := k) (k := ((w * k : Nat) : Int)) (ev_var (by rw [hg 2 0 _ (by decide)]; exact h2)) (ev_var (t := intT (k : Nat)) ?_) (by rw [Int.natCast_mul]; exact mul_ev (by omega))) ?_) (ev_var (by rw [hg 3 0 _ (by decide)]; exact h3)) rfl
    · rw [List.getElem?_set_self (by unfold wipeG wipeG; rw [List.length_set]; omega)]
    · show (if 0 ≤ ((w * k : Nat) : Int) then some (c / 2 ^ ((w * k : Nat) : Int).toNat) else none) = _
      rw [if_pos (by omega), Int.toNat_natCast]
end
end Qk08

set_option Elab.async false
set_option linter.all false
set_option maxRecDepth 100000
set_option maxHeartbeats 4000000
/-! families: all blocks, the greatest boxes -/
namespace Qk08
open PySem PySem.Spec PyProof.Rows L2 L3
structure SizesOk (sizes : List Nat) : Prop where
  each : ∀ s ∈ sizes, 0 < s ∧ s ≤ 64
  vol : volF sizes ≤ 4000
  len : sizes.length ≤ 4
theorem SizesOk.tail {s : Nat} {rest : List Nat} (h : SizesOk (s :: rest)) : SizesOk rest := by
  refine ⟨fun x hx => h.each x (List.mem_cons_of_mem _ hx), ?_, by have := h.len; simp at this; omega⟩
  have h1 := h.vol
  have h2 := (h.each s List.mem_cons_self).1
  rw [volF_cons] at h1
  exact Nat.le_trans (Nat.le_mul_of_pos_left _ h2) h1
theorem bits_nlt {c n : Nat} (h : c < 2 ^ n) : bitsI ((c : Nat) : Int) ≤ n := bits_lt (Int.natCast_nonneg _) (by exact_mod_cast h)
section
variable {r : List T → Mu → Ot T} {f g : Bool} {s : Nat} {rest : List Nat}
theorem blocks_cons (S : SizesOk (s :: rest)) (hr : ∀ c, c < 2 ^ volF rest → Gives r [intT (c : Nat), .v false (natsD rest)] ((blkN rest c).map blkD)) (c : Int) : Gives (d1_blocks r) [intT c, .v g (natsD (s :: rest))] ((blkI s rest c).map blkD) := by
  refine .inl ?_
  show retD 0 (b_blocks r 0 [some (intT c), some (.v g (natsD (s :: rest))), none, none, none, none, none, none] []) = _
  unfold b_blocks
  have hs := S.each s List.mem_cons_self
  have hV := S.vol
  have hv := S.tail.vol
  have hvs : s * volF rest ≤ 4000 := by rw [← volF_cons]; exact hV
  obtain ⟨qs, e1, _⟩ := ev_from (ga := dVar 1) (gb := dAtm (.int 1)) (a := 1) (f := g) (g := true) (xs := (s :: rest).map fun n : Nat => D.int (n : Nat)) (Γ := [some (intT c), some (.v g (natsD (s :: rest))), none, none, none, none, none, none]) (μ := []) (ev_var rfl) ev_atm
  have e2 : dCall d_volume 1 false [false] (aCons (dSl false (dVar 1) (some (dAtm (.int 1))) none) aNil) [some (intT c), some (.v g (natsD (s :: rest))), none, none, none, none, none, none] [] = some (.ok (intT (volF rest : Nat)) []) :=
    ev_call (us := [.v false (natsD rest)]) (ev_cons e1 ev_nil) rfl rfl rfl (volume_ev rest false (fun n hn => Nat.le_trans (S.each n (List.mem_cons_of_mem _ hn)).2 (by decide)) (by have := S.len; simp at this; omega))
  have e3 : ∀ (Γ : Gam), Γ[2]? = some (some (intT (volF rest : Nat))) → d2 (binV false .Sub) (d2 (binV false .LShift) (dAtm (.int 1)) (dVar 2)) (dAtm (.int 1)) Γ [] = some (.ok (intT (2 ^ volF rest - 1)) []) := fun Γ h2 => by
    refine ev_bin (i := 2 ^ volF rest) (j := 1) (ev_bin (i := 1) (j := (volF rest : Nat)) ev_atm (ev_var h2) ?_) ev_atm rfl
    show (if 0 ≤ ((volF rest : Nat) : Int) ∧ bitsI 1 + 1 + ((volF rest : Nat) : Int).toNat ≤ 100000000 then some (1 * 2 ^ ((volF rest : Nat) : Int).toNat) else none) = _
    have b1 : bitsI 1 = 0 := by decide
    rw [Int.toNat_natCast, if_pos ⟨by omega, by omega⟩, Int.one_mul]
  obtain ⟨ql, e4⟩ := lay_ev (Γ := [some (intT c), some (.v g (natsD (s :: rest))), some (intT (volF rest : Nat)), some (intT (2 ^ volF rest - 1)), none, none, none, none]) (c := c) (w := volF rest) (s := s) (sz := rest) (g := g) rfl rfl rfl rfl rfl (by omega) (by omega)
  have hB : ∀ c, c < 2 ^ volF rest → (blkN rest c).length ≤ volF rest * volF rest ∧ ∀ b ∈ blkN rest c, bitsI ((b.2 : Nat) : Int) ≤ 20000000 ∧ b.1.length ≤ 1000 := fun c hc => by
    obtain ⟨h1, h2⟩ := blkN_ok rest c hc
    refine ⟨h1, fun b hb => ?_⟩
    obtain ⟨h3, h4, _⟩ := h2 b hb
    have := S.len
    simp at this
    exact ⟨Nat.le_trans (bits_nlt h3) (by omega), by rw [h4]; omega⟩
  have hsB : s * (s * (volF rest * volF rest)) ≤ 16000000 := by
    have : s * (s * (volF rest * volF rest)) = (s * volF rest) * (s * volF rest) := by rw [← Nat.mul_assoc, Nat.mul_mul_mul_comm]
    rw [this]
    exact Nat.le_trans (Nat.mul_le_mul hvs hvs) (by decide)
  have hsB1 : s * (volF rest * volF rest) ≤ 16000000 := Nat.le_trans (Nat.le_mul_of_pos_left _ hs.1) hsB
  have hws : volF rest * s ≤ 4000 := by rw [Nat.mul_comm]; exact hvs
  have hll := lay_len c (volF rest) s
  have hlt := lay_lt c (volF rest) s
  have one : ∀ n, n ≤ s → ((List.range n).flatMap fun low => fromN (blkN rest) (volF rest) low (layN c (volF rest) s) (s - low) (low + 1) ((layN c (volF rest) s).getD (low + 1) 0)).length ≤ 16000000 := fun n hn => by
    refine Nat.le_trans (blkL_len (s := s) (fun c hc => (hB c hc).1) hlt n hn) (Nat.le_trans (Nat.mul_le_mul_right _ hn) hsB)
  obtain ⟨Γ', μ', h1, rfl, o7, rfl⟩ := for_gen (l := List.range s) (g := gNm 7) (it := iRng1D (aCons (d2 ixV (dVar 1) (dAtm (.int 0))) aNil)) (y := fun k : Nat => .one (intT (k : Nat)))
    (Γ := [some (intT c), some (.v g (natsD (s :: rest))), some (intT (volF rest : Nat)), some (intT (2 ^ volF rest - 1)), some (.v ql (natsD (layN c (volF rest) s))), none, some (.m 0), none]) (μ := [bL []])
    (b := sExp (dMt extV (dVar 6) (aCons (dFrz 0 (dCall (d_blocks_from r) 4 false [false, false, false, false] (aCons (dVar 7) (aCons (dVar 4) (aCons (dVar 2) (aCons (dVar 1) aNil)))))) aNil)))
    (fun i Γ μ => μ = [bL ((List.range i).flatMap fun low => fromN (blkN rest) (volF rest) low (layN c (volF rest) s) (s - low) (low + 1) ((layN c (volF rest) s).getD (low + 1) 0))] ∧ ∃ o7, Γ = [some (intT c), some (.v g (natsD (s :: rest))), some (intT (volF rest : Nat)), some (intT (2 ^ volF rest - 1)), some (.v ql (natsD (layN c (volF rest) s))), none, some (.m 0), o7])
    (it_rng1 (ev_cons (ev_ixLA (n := 0) (x := .int (s : Nat)) (ev_var rfl) ev_atm rfl rfl rfl) ev_nil) (by omega)) (by simp [ItV.len]) (fun i Γ μ _ h => rfl) ⟨rfl, none, rfl⟩ (fun i hi Γ μ ⟨hm, o7, hj⟩ => by
      subst hm hj
      have hat := at_rng0 (μ := [bL ((List.range i).flatMap fun low => fromN (blkN rest) (volF rest) low (layN c (volF rest) s) (s - low) (low + 1) ((layN c (volF rest) s).getD (low + 1) 0))]) (n := s) hi
      have hi' : i < s := by simpa using hi
      have hri : (List.range s)[i] = i := List.getElem_range _
      simp only [hri] at hat ⊢
      refine ⟨_, _, [bL ((List.range (i + 1)).flatMap fun low => fromN (blkN rest) (volF rest) low (layN c (volF rest) s) (s - low) (low + 1) ((layN c (volF rest) s).getD (low + 1) 0))], hat, rfl, .inl (st_exp (t := .v true .non) ?_), rfl, _, rfl⟩
      have el : ((List.range (i + 1)).flatMap fun low => fromN (blkN rest) (volF rest) low (layN c (volF rest) s) (s - low) (low + 1) ((layN c (volF rest) s).getD (low + 1) 0)) =
          ((List.range i).flatMap fun low => fromN (blkN rest) (volF rest) low (layN c (volF rest) s) (s - low) (low + 1) ((layN c (volF rest) s).getD (low + 1) 0)) ++ fromN (blkN rest) (volF rest) i (layN c (volF rest) s) (s - i) (i + 1) ((layN c (volF rest) s).getD (i + 1) 0) := by
        rw [List.range_succ, List.flatMap_append]
        simp
      have hz := one (i + 1) hi'
      rw [el]
      rw [el, List.length_append] at hz
      exact ext_blk rfl (by omega) (ev_callL (us := [intT (i : Nat), .v false (natsD (layN c (volF rest) s)), intT (volF rest : Nat), .v false (natsD (s :: rest))]) (ev_cons (ev_var rfl) (ev_cons (ev_var rfl) (ev_cons (ev_var rfl) (ev_cons (ev_var rfl) ev_nil)))) rfl rfl rfl
        (blocks_from_ev hr hB hlt hll hi' (by omega) (by omega) (by omega) hsB1) (Nat.zero_le _) (plain_blks _ _)))
  rw [List.length_range] at h1
  refine rt_ev (st_seq (st_if (b := false) (ev_not (b := true) (ev_tru (ev_var rfl) rfl)) rfl) (st_seq (st_set e2) (st_seq (st_set (e3 _ rfl)) (st_seq (st_set e4) (st_seq (st_set (ev_lstL ev_nil (by decide))) (st_seq h1 (st_ret (ev_var rfl)))))))) ?_
  exact ret_c _
end
theorem blocks_rec : ∀ (n : Nat) (sizes : List Nat), sizes.length < n → SizesOk sizes → ∀ (g : Bool) (c : Nat), c < 2 ^ volF sizes → Gives (dR_blocks n) [intT (c : Nat), .v g (natsD sizes)] ((blkN sizes c).map blkD)
  | 0, _, h, _, _, _, _ => absurd h (Nat.not_lt_zero _)
  | n + 1, [], _, S, g, c, hc => blocks_nil (r := dR_blocks n) c (Nat.lt_of_lt_of_le hc (Nat.pow_le_pow_right (by decide) (Nat.le_trans S.vol (by decide))))
  | n + 1, s :: rest, h, S, g, c, hc => blocks_cons (r := dR_blocks n) S (fun c hc => blocks_rec n rest (by simp at h; omega) S.tail false c hc) (c : Nat)
theorem d_blocks_ev {s : Nat} {rest : List Nat} (S : SizesOk (s :: rest)) (h : rest.length < 3) (g : Bool) (c : Int) : Gives d_blocks [intT c, .v g (natsD (s :: rest))] ((blkI s rest c).map blkD) :=
  blocks_cons (r := dR_blocks 3) S (fun c hc => blocks_rec 3 rest h S.tail false c hc) c
/-- cuts as they come, few in all -/
structure CutsFew (cs : List (List Int)) : Prop where
  each : ∀ row ∈ cs, 0 < row.length ∧ row.length < 64
  vol : volF (lensF cs) ≤ 4000
  len : 0 < cs.length ∧ cs.length ≤ 3
theorem CutsFew.ok {cs : List (List Int)} (h : CutsFew cs) : CutsOk cs := ⟨Nat.le_trans h.len.2 (by decide), h.each⟩
theorem CutsFew.sizes {cs : List (List Int)} (h : CutsFew cs) : SizesOk (lensF cs) := by
  refine ⟨fun s hs => ?_, h.vol, by unfold lensF; rw [List.length_map]; exact Nat.le_trans h.len.2 (by decide)⟩
  obtain ⟨row, hr, rfl⟩ := List.mem_map.mp hs
  exact ⟨(h.each row hr).1, Nat.le_of_lt (h.each row hr).2⟩
def blksF (cs : List (List Int)) (c : Int) : List Blk := match lensF cs with
  | [] => []
  | s :: rest => blkI s rest c
def greatF (cs : List (List Int)) (c : Int) : List Bx := (blksF cs c).map fun b => boxOfF b.1 cs
theorem natsD_lens (cs : List (List Int)) : D.lst ((cs.map fun c => (c.length : Int)).map D.int) = natsD (lensF cs) := by
  unfold natsD lensF
  rw [List.map_map, List.map_map]
  rfl
theorem zip_lens : ∀ (rs : List (Nat × Nat)) (cs : List (List Int)) (p : (Nat × Nat) × List Int), p ∈ rs.zip cs → (p.1, p.2.length) ∈ rs.zip (lensF cs)
  | [], _, p, h => by simp at h
  | _ :: _, [], p, h => by simp at h
  | r :: rs, c :: cs, p, h => by
    rcases List.mem_cons.mp (show p ∈ (r, c) :: rs.zip cs from h) with rfl | h
    · exact List.mem_cons_self
    · exact List.mem_cons_of_mem _ (zip_lens rs cs p h)
theorem greatest_ev (cs : List (List Int)) (g : Bool) (S : CutsFew cs) (c : Int) : d_greatest_boxes [intT c, .v g (cutsD cs)] [] = some (.ok (.m 0) [.lst (((greatF cs c).map boxD).map (T.v true))]) := by
  show retD 0 (b_greatest_boxes 0 [some (intT c), some (.v g (cutsD cs)), none, none] []) = _
  unfold b_greatest_boxes
  have e1 : dFrz 0 (dCall d_sizes_of 1 false [false] (aCons (dVar 1) aNil)) [some (intT c), some (.v g (cutsD cs)), none, none] [] = some (.ok (.v true (natsD (lensF cs))) []) := by
    rw [← natsD_lens]
    exact ev_callL (us := [.v false (cutsD cs)]) (ev_cons (ev_var rfl) ev_nil) rfl rfl rfl (sizes_ev cs false (by have := S.len.2; omega) fun r hr => by have := (S.each r hr).2; rw [sizeLine_eq]; omega) (Nat.zero_le _) rfl
  have hb : Gives d_blocks [intT c, .v false (natsD (lensF cs))] ((blksF cs c).map blkD) ∧ (blksF cs c).length ≤ 16000000 ∧ ∀ b ∈ blksF cs c, RngIn (lensF cs) b.1 := by
    have hS := S.sizes
    have hl : (lensF cs).length ≤ 3 := by unfold lensF; rw [List.length_map]; exact S.len.2
    have hl0 : (lensF cs).length ≠ 0 := by unfold lensF; rw [List.length_map]; have := S.len.1; omega
    unfold blksF
    generalize lensF cs = sz at hS hl hl0
    cases sz with
    | nil => simp at hl0
    | cons s rest =>
      obtain ⟨k1, k2⟩ := blkI_ok s rest c
      exact ⟨d_blocks_ev hS (by simp at hl; omega) false c, Nat.le_trans k1 (Nat.le_trans (Nat.mul_le_mul hS.vol hS.vol) (by decide)), fun b hb => (k2 b hb).2⟩
  obtain ⟨hb1, hb2, hb3⟩ := hb
  refine rt_ev (st_ret (dlc_genL (l := blksF cs c) (y := fun b => .one (.v true (blkD b))) (P := fun _ => true) (E := fun b => boxD (boxOfF b.1 cs)) (it_lst (ev_gives (us := [intT c, .v false (natsD (lensF cs))]) (ev_cons (ev_var rfl) (ev_cons e1 ev_nil)) rfl rfl rfl hb1 (Nat.zero_le _) rfl)) (by simp [ItV.len]) (by rw [sizeLine_eq]; omega) (fun acc => seq_walk) (fun i hi acc => ?_) (fun b hb acc ha => ⟨_, gTpB, rfl, fun _ => ?_⟩))) ?_
  · rw [at_lst i hi, show mkT true (blkD (blksF cs c)[i]) = .v true (blkD (blksF cs c)[i]) from mkT_tup]
  · have h3 := hb3 b hb
    exact ev_callL (us := [.v false (rangesD b.1), .v false (cutsD cs)]) (ev_cons (ev_var rfl) (ev_cons (ev_var rfl) ev_nil)) rfl rfl rfl (box_of_ev b.1 cs false false (by have := S.len.2; omega) (fun p hp => by
      have := h3.2 _ (zip_lens _ _ _ hp)
      exact ⟨by simp at this; omega, this.2⟩)) (Nat.zero_le _) (low1 ha)
  · rw [filter_yes, List.nil_append]
    show retD 0 (some (.rt (.m 0) _)) = _
    rw [ret_c]
    unfold greatF
    simp only [List.map_map]
    rfl
end Qk08

set_option Elab.async false
set_option linter.all false
set_option maxRecDepth 100000
set_option maxHeartbeats 4000000
/-! families: what is a box; a family is made, or not -/
namespace Qk08
open PySem PySem.Spec PyProof.Rows L2 L3
def spanOk (s : Span) : Bool := decide (0 ≤ s.1) && (match s.2 with
  | none => true
  | some h => decide (0 ≤ h) && decide (s.1 ≤ h))
def boxOk (n : Nat) (b : Bx) : Bool := decide (b.length = n) && b.all spanOk
theorem is_number_ev (i : Int) : d_is_number [intT i] [] = some (.ok (blT (decide (0 ≤ i))) []) := by
  show retD 0 (b_is_number 0 [some (intT i)] []) = _
  unfold b_is_number
  exact rt_ev (st_ret (ev_dAnd (b := true) (ev_d1 (ev_var rfl) rfl) fun _ => ev_dAnd (b := true) (ev_dNot (b := false) (ev_d1 (ev_var rfl) rfl)) fun _ => ev_cmp (ev_var rfl) ev_atm rfl)) (ret_v0 _ _ _)
theorem is_pair_ev (s : Span) (f : Bool) : d_is_pair [.v f (spanD s)] [] = some (.ok (blT (spanOk s)) []) := by
  show retD 0 (b_is_pair 0 [some (.v f (spanD s)), none, none] []) = _
  unfold b_is_pair
  have e2 : dOr (d2 (cmpVt .Is) (dVar 2) (dAtm .non)) (dAnd (dCall d_is_number 1 false [false] (aCons (dVar 2) aNil)) (d2 (cmpVt .GtE) (dVar 2) (dVar 1))) [some (.v f (spanD s)), some (intT s.1), some (.v true (hiD s.2))] [] = some (.ok (blT (match s.2 with | none => true | some h => decide (0 ≤ h) && decide (s.1 ≤ h))) []) := by
    cases hs : s.2 with
    | none => exact ev_dOr (b := true) (r := false) (ev_cmp (t := .v true .non) (ev_var rfl) ev_atm rfl) fun h => by cases h
    | some h => exact ev_dOr (b := false) (ev_cmp (t := .v true (.int h)) (ev_var rfl) ev_atm rfl) fun _ => ev_dAnd (ev_call (us := [intT h]) (ev_cons (t := intT h) (ev_var rfl) ev_nil) rfl rfl rfl (is_number_ev h)) fun _ => ev_cmp (t := intT h) (ev_var rfl) (ev_var rfl) rfl
  have e1 : bOr (bNot (bTru (d1 (isTV .tuple) (dVar 0)))) (bOf (d2 (cmpVt .NotEq) (dBi lenV (aCons (dVar 0) aNil)) (dAtm (.int 2)))) [some (.v f (spanD s)), none, none] [] = some (.ok false []) :=
    ev_or (b := false) (c := false) (ev_not (b := true) (ev_tru (t := blT true) (ev_d1 (ev_var rfl) rfl) rfl)) fun _ => ev_tst (t := intT 2) (ev_lenT (f := f) (xs := [.int s.1, hiD s.2]) (ev_var rfl)) ev_atm rfl
  exact rt_ev (μ := []) (t := blT (spanOk s)) (st_seq (st_no e1 st_nil) (st_seq (st_asg (ev_var rfl) gTp2) (st_ret (ev_dAnd (ev_call (us := [intT s.1]) (ev_cons (ev_var rfl) ev_nil) rfl rfl rfl (is_number_ev s.1)) fun _ => e2)))) (ret_v0 _ _ _)
theorem bools_ev {α : Type} (P : α → Bool) : ∀ l : List α, boolsOf ((l.map fun x => D.bl (P x)).map (mkT true)) = some (l.map P)
  | [] => rfl
  | x :: l => by
    rw [List.map_cons, List.map_cons, mkT_atom rfl, boolsOf, bools_ev P l]
    rfl
theorem all_map {α : Type} (P : α → Bool) : ∀ l : List α, (l.map P).all id = l.all P
  | [] => rfl
  | x :: l => by
    rw [List.map_cons, List.all_cons, List.all_cons, all_map P l]
    rfl
theorem is_box_ev (b : Bx) (n : Nat) (f : Bool) (hz : b.length ≤ 1000) : d_is_box [.v f (boxD b), intT (n : Nat)] [] = some (.ok (blT (boxOk n b)) []) := by
  show retD 0 (b_is_box 0 [some (.v f (boxD b)), some (intT (n : Nat)), none] []) = _
  unfold b_is_box
  have e := dlc_genF (m0 := 0) (l := b) (it := iSeq true (dVar 0)) (g := gNm 2) (c := bYes) (e := dCall d_is_pair 1 false [false] (aCons (dVar 2) aNil)) (own := [2]) (Γ := [some (.v f (boxD b)), some (intT (n : Nat)), none]) (μ := []) (y := fun s => .one (.v f (spanD s))) (P := fun _ => true) (E := fun s => .bl (spanOk s))
    (it_lst (ev_var rfl)) (by simp [ItV.len]) (by rw [sizeLine_eq]; omega) (fun acc => seq_walk) (fun i hi acc => by rw [at_lst i hi, show mkT f (spanD b[i]) = .v f (spanD b[i]) from mkT_tup]) (fun s hs acc ha => ⟨_, rfl, rfl, fun _ => ev_call (us := [.v false (spanD s)]) (ev_cons (ev_var rfl) ev_nil) rfl rfl rfl (is_pair_ev s false)⟩) (Nat.zero_le _) rfl
  rw [filter_yes] at e
  have e2 : onBools (fun bs => bs.all id) [] [.v true (.lst (b.map fun s => D.bl (spanOk s)))] = some (blT (b.all spanOk), []) := by
    unfold onBools
    simp only [items_lst, bools_ev, all_map]
  have el := ev_lenL (ga := dVar 0) (f := f) (xs := b.map spanD) (Γ := [some (.v f (boxD b)), some (intT (n : Nat)), none]) (μ := []) (ev_var rfl)
  rw [List.length_map] at el
  refine rt_ev (μ := []) (t := blT (boxOk n b)) (st_ret (ev_dAnd (b := decide (b.length = n)) (ev_cmp el (ev_var rfl) (eq_natV _ _)) fun _ => ev_bi (ev_cons e ev_nil) e2)) (ret_v0 _ _ _)
/-! a family -/
def famD (n : Nat) (bs : List Bx) : D := .obj 0 [.int (n : Nat), boxesD bs]
abbrev iG (n : Nat) (bs : List Bx) (f : Bool) (o3 o4 o5 : Option T) : Gam := [some (.m 0), some (intT (n : Nat)), some (.v f (boxesD bs)), o3, o4, o5]
theorem box_at {bs : List Bx} {f : Bool} (i : Nat) (h : i < bs.length) {μ : Mu} : (ItV.enum (.v f (boxesD bs)) (bs.map boxD).length).at μ i = some (.two (intT (i : Nat)) (.v f (boxD bs[i]))) := by
  have := at_enum (f := f) (μ := μ) (l := bs) (Dx := boxD) i h
  rwa [show mkT f (boxD bs[i]) = .v f (boxD bs[i]) from mkT_lst] at this
noncomputable abbrev ckB : Ds := sIf (bNot (bTru (dCall d_is_box 2 false [false, false] (aCons (dVar 4) (aCons (dVar 1) aNil))))) (sRaise 1 (dVar 3)) L3.sNil
theorem check_step {n : Nat} {bs : List Bx} {f : Bool} (i : Nat) (h : i < bs.length) (hz : bs[i].length ≤ 1000) (o3 o4 o5 : Option T) (c : Cell) : ckB (iG n bs f (some (intT (i : Nat))) (some (.v f (boxD bs[i]))) o5) [c] =
    if boxOk n bs[i] then some (.nx (iG n bs f (some (intT (i : Nat))) (some (.v f (boxD bs[i]))) o5) [c]) else some (.ex (iG n bs f (some (intT (i : Nat))) (some (.v f (boxD bs[i]))) o5) 1 (intT (i : Nat)) [c]) := by
  have e := ev_not (ev_tru (t := blT (boxOk n bs[i])) (b := boxOk n bs[i]) (ev_call (gd := d_is_box) (n := 2) (rf := [false, false]) (da := aCons (dVar 4) (aCons (dVar 1) aNil)) (Γ := iG n bs f (some (intT (i : Nat))) (some (.v f (boxD bs[i]))) o5) (μ := [c]) (us := [.v false (boxD bs[i]), intT (n : Nat)]) (ev_cons (ev_var rfl) (ev_cons (ev_var rfl) ev_nil)) rfl rfl rfl (is_box_ev bs[i] n false hz)) rfl)
  cases hb : boxOk n bs[i] with
  | true =>
    rw [hb] at e
    exact st_no e st_nil
  | false =>
    rw [hb] at e
    exact st_yes e (st_raise (ev_var rfl))
theorem check_run {n : Nat} {bs : List Bx} {f : Bool} {c : Cell} (hz : ∀ b ∈ bs, b.length ≤ 1000) : ∀ (k i : Nat) (o3 o4 o5 : Option T), i + k = bs.length →
    (∀ j (h : j < bs.length), i ≤ j → boxOk n bs[j] = true) → ∃ o3' o4', forD (.enum (.v f (boxesD bs)) (bs.map boxD).length) (gTp 2 (gsCons (gNm 3) (gsCons (gNm 4) gsNil))) ckB k i (iG n bs f o3 o4 o5) [c] = some (.nx (iG n bs f o3' o4' o5) [c])
  | 0, i, o3, o4, o5, hi, _ => ⟨o3, o4, forD_0 ok_enum⟩
  | k + 1, i, o3, o4, o5, hi, h => by
    have hlt : i < bs.length := by omega
    obtain ⟨p3, p4, ih⟩ := check_run (n := n) (f := f) (c := c) hz k (i + 1) (some (intT (i : Nat))) (some (.v f (boxD bs[i]))) o5 (by omega) fun j hj hij => h j hj (by omega)
    refine ⟨p3, p4, ?_⟩
    have e := check_step (n := n) (f := f) i hlt (hz _ (List.getElem_mem hlt)) o3 o4 o5 c
    rw [if_pos (h i hlt (Nat.le_refl _))] at e
    exact (forD_nx ok_enum (box_at i hlt) rfl e).trans ih
theorem check_bad {n : Nat} {bs : List Bx} {f : Bool} {c : Cell} (hz : ∀ b ∈ bs, b.length ≤ 1000) (w : Nat) (hw : w < bs.length) (hb : boxOk n bs[w] = false) : ∀ (k i : Nat) (o3 o4 o5 : Option T), i + k = bs.length → i ≤ w →
    (∀ j (h : j < bs.length), i ≤ j → j < w → boxOk n bs[j] = true) → ∃ o3' o4', forD (.enum (.v f (boxesD bs)) (bs.map boxD).length) (gTp 2 (gsCons (gNm 3) (gsCons (gNm 4) gsNil))) ckB k i (iG n bs f o3 o4 o5) [c] = some (.ex (iG n bs f o3' o4' o5) 1 (intT (w : Nat)) [c])
  | 0, i, o3, o4, o5, hi, hiw, _ => absurd hw (by omega)
  | k + 1, i, o3, o4, o5, hi, hiw, h => by
    have hlt : i < bs.length := by omega
    have e := check_step (n := n) (f := f) i hlt (hz _ (List.getElem_mem hlt)) o3 o4 o5 c
    by_cases ew : i = w
    · subst ew
      rw [hb, if_neg Bool.false_ne_true] at e
      exact ⟨_, _, forD_ex ok_enum (box_at i hlt) rfl e⟩
    · rw [if_pos (h i hlt (Nat.le_refl _) (by omega))] at e
      obtain ⟨p3, p4, ih⟩ := check_bad hz w hw hb k (i + 1) (some (intT (i : Nat))) (some (.v f (boxD bs[i]))) o5 (by omega) (by omega) fun j hj h1 h2 => h j hj (by omega) h2
      exact ⟨p3, p4, (forD_nx ok_enum (box_at i hlt) rfl e).trans ih⟩
/-- boxes from which a family can be made -/
structure BoxesOk (n : Nat) (bs : List Bx) : Prop where
  ok : ∀ b ∈ bs, boxOk n b = true
  many : bs.length ≤ 8000000
  kinds : 0 < n ∧ n ≤ 3
  few : ∀ k, k < n → (cutF bs k).length < 64
  vol : volF (lensF (cutsF n bs)) ≤ 4000
theorem boxOk_len {n : Nat} {b : Bx} (h : boxOk n b = true) : b.length = n := by
  unfold boxOk at h
  rw [Bool.and_eq_true_iff] at h
  simpa using h.1
theorem cuts_get {n : Nat} {bs : List Bx} {k : Nat} (h : k < (cutsF n bs).length) : (cutsF n bs)[k] = cutF bs k := by
  simp [cutsF]
theorem cuts_len (n : Nat) (bs : List Bx) : (cutsF n bs).length = n := by unfold cutsF; rw [List.length_map, List.length_range]
theorem fit_of {n : Nat} {bs : List Bx} (S : BoxesOk n bs) : ∀ b ∈ bs, FitB (cutsF n bs) b := fun b hb => by
  refine ⟨by rw [cuts_len, boxOk_len (S.ok b hb)], fun k hk => ?_, fun k hk x hx => ?_⟩
  · rw [cuts_get hk]
    refine ssetI_mem.mpr (List.mem_cons_of_mem _ (List.mem_append_left _ (List.mem_map.mpr ⟨b, hb, rfl⟩)))
  · rw [cuts_get hk]
    refine ssetI_mem.mpr (List.mem_cons_of_mem _ (List.mem_append_right _ (List.mem_map.mpr ⟨b, List.mem_filter.mpr ⟨hb, by rw [hx]; rfl⟩, by rw [hx]; rfl⟩)))
theorem cut_pos (bs : List Bx) (k : Nat) : 0 < (cutF bs k).length := List.length_pos_of_mem (ssetI_mem.mpr List.mem_cons_self : (0 : Int) ∈ _)
theorem few_of {n : Nat} {bs : List Bx} (S : BoxesOk n bs) : CutsFew (cutsF n bs) := by
  refine ⟨fun row hr => ?_, S.vol, by rw [cuts_len]; exact S.kinds⟩
  obtain ⟨k, hk, rfl⟩ := List.mem_map.mp (show row ∈ (List.range n).map (cutF bs) from hr)
  exact ⟨cut_pos bs k, S.few k (List.mem_range.mp hk)⟩
/-- the boxes that the family keeps -/
def famF (n : Nat) (bs : List Bx) : List Bx := greatF (cutsF n bs) (cellsF (cutsF n bs) bs)
theorem family_init_ev {n : Nat} {bs : List Bx} (S : BoxesOk n bs) (f : Bool) : d_Family_init [.m 0, intT (n : Nat), .v f (boxesD bs)] [.obj 0 []] = some (.ok (.v true .non) [.obj 0 [intT (n : Nat), .v true (boxesD (famF n bs))]]) := by
  show retD 1 (b_Family_init 1 (iG n bs f none none none) [.obj 0 []]) = _
  unfold b_Family_init
  have hz : ∀ b ∈ bs, b.length ≤ 1000 := fun b hb => by rw [boxOk_len (S.ok b hb)]; have := S.kinds; omega
  obtain ⟨o3, o4, h1⟩ := check_run (n := n) (f := f) (c := .obj 0 []) hz bs.length 0 none none none (by omega) fun j hj _ => S.ok _ (List.getElem_mem hj)
  have F := few_of S
  have e2 : dFrz 1 (dCall d_cuts_of 2 false [false, false] (aCons (dVar 1) (aCons (dVar 2) aNil))) (iG n bs f o3 o4 none) [.obj 0 []] = some (.ok (.v true (cutsD (cutsF n bs))) [.obj 0 []]) :=
    ev_callL (ds := (cutsF n bs).map intsD) (us := [intT (n : Nat), .v false (boxesD bs)]) (ev_cons (ev_var rfl) (ev_cons (ev_var rfl) ev_nil)) rfl rfl rfl (cuts_ev n bs false (fun b hb => Nat.le_of_eq (boxOk_len (S.ok b hb)).symm) S.many S.few (by have := S.kinds; omega)) (Nat.le_refl 1) rfl
  have e3 : dFrz 1 (dCall d_greatest_boxes 2 false [false, false] (aCons (dCall d_cells_of 2 false [false, false] (aCons (dVar 2) (aCons (dVar 5) aNil))) (aCons (dVar 5) aNil))) (iG n bs f o3 o4 (some (.v true (cutsD (cutsF n bs))))) [.obj 0 [intT (n : Nat)]] = some (.ok (.v true (boxesD (famF n bs))) [.obj 0 [intT (n : Nat)]]) :=
    ev_callL (ds := (famF n bs).map boxD) (us := [intT (cellsF (cutsF n bs) bs), .v false (cutsD (cutsF n bs))]) (ev_cons (ev_call (us := [.v false (boxesD bs), .v false (cutsD (cutsF n bs))]) (ev_cons (ev_var rfl) (ev_cons (ev_var rfl) ev_nil)) rfl rfl rfl (cells_of_ev (cutsF n bs) bs false false F.ok (fit_of S))) (ev_cons (ev_var rfl) ev_nil)) rfl rfl rfl (greatest_ev (cutsF n bs) false F _) (Nat.le_refl 1) rfl
  exact nx_ev (μ := [.obj 0 [intT (n : Nat), .v true (boxesD (famF n bs))]]) (Γ1 := iG n bs f o3 o4 (some (.v true (cutsD (cutsF n bs))))) (st_seq (for_ev (it_enum (ev_cons (ev_var rfl) ev_nil)) (by rw [show ItV.len (ItV.enum (T.v f (D.lst (bs.map boxD))) (bs.map boxD).length) = bs.length from List.length_map ..]; exact h1)) (st_seq (st_set e2) (st_seq (st_fld (t := intT (n : Nat)) (u := .m 0) (ev_var rfl) (ev_var rfl) rfl) (st_fld (u := .m 0) e3 (ev_var rfl) rfl)))) rfl
theorem family_init_bad {n : Nat} {bs : List Bx} (hz : ∀ b ∈ bs, b.length ≤ 1000) (w : Nat) (hw : w < bs.length) (hb : boxOk n bs[w] = false) (ha : ∀ j (h : j < bs.length), j < w → boxOk n bs[j] = true) (f : Bool) : d_Family_init [.m 0, intT (n : Nat), .v f (boxesD bs)] [.obj 0 []] = some (.exc 1 (intT (w : Nat)) [.obj 0 []]) := by
  show retD 1 (b_Family_init 1 (iG n bs f none none none) [.obj 0 []]) = _
  unfold b_Family_init
  obtain ⟨o3, o4, h1⟩ := check_bad (n := n) (f := f) (c := .obj 0 []) hz w hw hb bs.length 0 none none none (by omega) (Nat.zero_le _) fun j hj _ h => ha j hj h
  rw [st_ex (for_ev (it_enum (ev_cons (ev_var rfl) ev_nil)) (by rw [show ItV.len (ItV.enum (T.v f (D.lst (bs.map boxD))) (bs.map boxD).length) = bs.length from List.length_map ..]; exact h1))]
  rfl
end Qk08

set_option Elab.async false
set_option linter.all false
set_option maxRecDepth 100000
set_option maxHeartbeats 4000000
/-! the law's own defs: draws, spans -/
namespace Qk08
open PySem PySem.Spec PyProof.Rows L2 L3
/-- what a mill's numbers may be; n: so many draws may come -/
structure MillOk (n : Nat) (a b c : Int) : Prop where
  a0 : 0 ≤ a
  aB : bitsI a ≤ 1100000
  b0 : 0 ≤ b
  bB : b < 10 ^ 32
  c0 : 0 ≤ c
  cB : c + n ≤ 1000000000
theorem MillOk.less {n m : Nat} {a b c : Int} (h : MillOk n a b c) (hm : m ≤ n) : MillOk m a b c := ⟨h.a0, h.aB, h.b0, h.bB, h.c0, by have := h.cB; omega⟩
theorem grain_ev {n : Nat} {a b c : Int} (many : Nat) (ok : MillOk (n + 1) a b c) (hm : 0 < many) (hb : many ≤ 10 ^ 100) :
    ∃ k : Nat, ∃ a' b' c', d_law_grain [.m 0, intT (many : Nat)] [M3 a b c] = some (.ok (intT (k : Nat)) [M3 a' b' c']) ∧ MillOk n a' b' c' ∧ k < many := by
  have hb2 : bitsI ((many : Nat) : Int) < 9000 := by
    have := bits_nat hb
    have e : Nat.log2 (10 ^ 100) < 9000 := by decide +kernel
    omega
  have hm' : (0 : Int) < (many : Nat) := by omega
  have hix : ∀ (a b c : Int) (Γ : Gam), Γ[0]? = some (some (.m 0)) → d2 ixV (dVar 0) (dAtm (.int 0)) Γ [M3 a b c] = some (.ok (intT a) [M3 a b c]) := fun a b c Γ h0 => ev_ixM (n := 0) (ts := [intT a, intT b, intT c]) (ev_var h0) ev_atm rfl rfl rfl
  have hix1 : ∀ (a b c : Int) (Γ : Gam), Γ[0]? = some (some (.m 0)) → d2 ixV (dVar 0) (dAtm (.int 1)) Γ [M3 a b c] = some (.ok (intT b) [M3 a b c]) := fun a b c Γ h0 => ev_ixM (n := 1) (ts := [intT a, intT b, intT c]) (ev_var h0) ev_atm rfl rfl rfl
  have hix2 : ∀ (a b c : Int) (Γ : Gam), Γ[0]? = some (some (.m 0)) → d2 ixV (dVar 0) (dAtm (.int 2)) Γ [M3 a b c] = some (.ok (intT c) [M3 a b c]) := fun a b c Γ h0 => ev_ixM (n := 2) (ts := [intT a, intT b, intT c]) (ev_var h0) ev_atm rfl rfl rfl
  have nat : ∀ x : Int, 0 ≤ x → x < (many : Nat) → ∃ k : Nat, x = (k : Nat) ∧ k < many := fun x h0 h1 => ⟨x.toNat, by omega, by omega⟩
  by_cases ha : 0 < a
  · obtain ⟨k, hk, hkm⟩ := nat (a % (many : Nat)) (Int.emod_nonneg _ (by omega)) (Int.emod_lt_of_pos _ hm')
    refine ⟨k, a / (many : Nat), b, c, ?_, ⟨Int.ediv_nonneg ok.a0 (by omega), Nat.le_trans (bits_le (Int.ediv_nonneg ok.a0 (by omega)) (Int.ediv_le_self _ ok.a0)) ok.aB, ok.b0, ok.bB, ok.c0, by have := ok.cB; omega⟩, hkm⟩
    show retD 1 (b_law_grain 1 [some (.m 0), some (intT (many : Nat)), none, none] [M3 a b c]) = _
    unfold b_law_grain
    rw [← hk]
    refine rt_ev (μ := [M3 (a / (many : Nat)) b c]) (t := intT (a % (many : Nat))) (st_rt (st_if (b := true) (ev_tst (hix a b c _ rfl) ev_atm (by show some (decide (0 < a)) = _; rw [decide_eq_true ha])) ?_)) rfl
    rw [if_pos rfl]
    exact st_seq (st_set (ev_bin (ev_bi (ev_cons (hix a b c _ rfl) ev_nil) rfl) (ev_var rfl) (mod_ev hm'))) (st_seq (st_put (o := .m 0) (i := intT 0) (ev_bin (hix a b c _ rfl) (ev_var rfl) (div_ev hm' hb2)) (ev_var rfl) ev_atm rfl) (st_ret (ev_var rfl)))
  · obtain ⟨m1, hm1⟩ : ∃ m1, m1 = (b + 32452843 * (c + 1)) ^ 3 % (10 ^ 29 + 319) := ⟨_, rfl⟩
    obtain ⟨m2, hm2⟩ : ∃ m2, m2 = (m1 + 122949823 * (c + 1)) ^ 2 % (10 ^ 28 + 331) := ⟨_, rfl⟩
    obtain ⟨k, hk, hkm⟩ := nat (m2 / 4096 % (many : Nat)) (Int.emod_nonneg _ (by omega)) (Int.emod_lt_of_pos _ hm')
    have hc0 := ok.c0
    have hcB := ok.cB
    have c1 : bitsI (c + 1) ≤ 40 := bits_lt (by omega) (by
      have : (2 : Int) ^ 40 = 1099511627776 := by decide
      omega)
    have l1 : bitsI 32452843 ≤ 40 := by decide
    have l2 : bitsI 122949823 ≤ 40 := by decide
    have x1 : bitsI (b + 32452843 * (c + 1)) ≤ 200 := by
      refine bits_lt (by have := ok.b0; omega) ?_
      have e : (2 : Int) ^ 200 = 1606938044258990275541962092341162602522202993782792835301376 := by decide +kernel
      have e2 : (10 : Int) ^ 32 = 100000000000000000000000000000000 := by decide +kernel
      have := ok.bB
      omega
    have m10 : 0 ≤ m1 := by rw [hm1]; exact Int.emod_nonneg _ (by decide)
    have m1l : m1 < 10 ^ 29 + 319 := by rw [hm1]; exact Int.emod_lt_of_pos _ (by decide)
    have x2 : bitsI (m1 + 122949823 * (c + 1)) ≤ 200 := by
      refine bits_lt (by omega) ?_
      have e : (2 : Int) ^ 200 = 1606938044258990275541962092341162602522202993782792835301376 := by decide +kernel
      have e2 : (10 : Int) ^ 29 = 100000000000000000000000000000 := by decide +kernel
      omega
    have p29 : L3.binI .Add (10 ^ 29) 319 = some (10 ^ 29 + 319) := rfl
    have b10 : bitsI 10 = 3 := by decide
    refine ⟨k, a, b, c + 1, ?_, ⟨ok.a0, ok.aB, ok.b0, ok.bB, by omega, by omega⟩, hkm⟩
    show retD 1 (b_law_grain 1 [some (.m 0), some (intT (many : Nat)), none, none] [M3 a b c]) = _
    unfold b_law_grain
    rw [← hk]
    refine rt_ev (μ := [M3 a b (c + 1)]) (t := intT (m2 / 4096 % (many : Nat))) (st_seq (st_if (b := false) (ev_tst (hix a b c _ rfl) ev_atm (by show some (decide (0 < a)) = _; rw [decide_eq_false ha])) st_nil) (st_seq (μ1 := [M3 a b (c + 1)]) (st_put (o := .m 0) (i := intT 2) (ev_bin (hix2 a b c _ rfl) ev_atm rfl) (ev_var rfl) ev_atm rfl)
      (st_seq (st_set (ev_bin (i := (b + 32452843 * (c + 1)) ^ 3) (j := 10 ^ 29 + 319) (k := m1) (ev_bin (i := b + 32452843 * (c + 1)) (j := 3) (ev_bi (ev_cons (ev_bin (i := b) (j := 32452843 * (c + 1)) (hix1 a b (c + 1) _ rfl) (ev_bin (i := 32452843) (j := c + 1) ev_atm (hix2 a b (c + 1) _ rfl) (mul_ev (by omega))) rfl) ev_nil) rfl) ev_atm (pow_ev (n := 3) (by omega))) (ev_bin (i := 10 ^ 29) (j := 319) (ev_bin (i := 10) (j := 29) ev_atm ev_atm (pow_ev (n := 29) (by omega))) ev_atm rfl) (by rw [hm1]; exact mod_ev (by decide))))
      (st_seq (st_set (ev_bin (i := (m1 + 122949823 * (c + 1)) ^ 2) (j := 10 ^ 28 + 331) (k := m2) (ev_bin (i := m1 + 122949823 * (c + 1)) (j := 2) (ev_bi (ev_cons (ev_bin (i := m1) (j := 122949823 * (c + 1)) (ev_var rfl) (ev_bin (i := 122949823) (j := c + 1) ev_atm (hix2 a b (c + 1) _ rfl) (mul_ev (by omega))) rfl) ev_nil) rfl) ev_atm (pow_ev (n := 2) (by omega))) (ev_bin (i := 10 ^ 28) (j := 331) (ev_bin (i := 10) (j := 28) ev_atm ev_atm (pow_ev (n := 28) (by omega))) ev_atm rfl) (by rw [hm2]; exact mod_ev (by decide))))
      (st_ret (ev_bin (i := m2 / 4096) (ev_bi (ev_cons (ev_bin (i := m2) (j := 4096) (ev_var rfl) ev_atm (div_ev (by decide) (by decide))) ev_nil) rfl) (ev_var rfl) (mod_ev hm'))))))) rfl
/-- a draw, in a def that holds the mill -/
theorem draw {n : Nat} {a b c : Int} {μ : Mu} {Γ : Gam} {i j : Nat} {gb : De} (many : Nat) (ok : MillOk (n + 1) a b c) (hm : 0 < many) (hb : many ≤ 10 ^ 100) (hi : Γ[i]? = some (some (.m j))) (hj : μ[j]? = some (M3 a b c)) (hg : gb Γ μ = some (.ok (intT (many : Nat)) μ)) :
    ∃ k : Nat, ∃ a' b' c', dCall d_law_grain 2 false [true, false] (aCons (dVar i) (aCons gb aNil)) Γ μ = some (.ok (intT (k : Nat)) (μ.set j (M3 a' b' c'))) ∧ MillOk n a' b' c' ∧ k < many := by
  obtain ⟨k, a', b', c', h1, h2, h3⟩ := grain_ev many ok hm hb
  exact ⟨k, a', b', c', dCallM hi (ev_cons hg ev_nil) rfl (callM_v hj rfl rfl h1 rfl), h2, h3⟩
def SpanIn (top : Nat) (s : Span) : Prop := 0 ≤ s.1 ∧ s.1 ≤ top ∧ ∀ h, s.2 = some h → s.1 ≤ h ∧ h ≤ top
theorem span_ev {n : Nat} {a b c : Int} (top : Nat) (ok : MillOk (n + 4) a b c) (ht : top ≤ 1000) :
    ∃ s a' b' c', d_law_span [.m 0, intT (top : Nat)] [M3 a b c] = some (.ok (.v true (spanD s)) [M3 a' b' c']) ∧ MillOk n a' b' c' ∧ SpanIn top s := by
  have h100 : ∀ x : Nat, x ≤ 2000 → x ≤ 10 ^ 100 := fun x hx => Nat.le_trans hx (by decide +kernel)
  obtain ⟨k1, a1, b1, c1, e1, ok1, l1⟩ := draw (Γ := [some (.m 0), some (intT (top : Nat)), none]) (i := 0) (j := 0) (μ := [M3 a b c]) (gb := d2 (binV false .Add) (dVar 1) (dAtm (.int 1))) (top + 1) ok (by omega) (h100 _ (by omega)) rfl rfl (ev_bin (ev_var rfl) ev_atm rfl)
  obtain ⟨k2, a2, b2, c2, e2, ok2, l2⟩ := draw (Γ := [some (.m 0), some (intT (top : Nat)), none]) (i := 0) (j := 0) (μ := [M3 a1 b1 c1]) (gb := dAtm (.int 3)) 3 ok1 (by omega) (h100 _ (by omega)) rfl rfl ev_atm
  obtain ⟨low, hlow⟩ : ∃ low : Nat, low = k1 * (if 0 < k2 then 1 else 0) := ⟨_, rfl⟩
  have hll : low ≤ top := by
    rw [hlow]
    split <;> omega
  have e3 : d2 (binV false .Mult) (dCall d_law_grain 2 false [true, false] (aCons (dVar 0) (aCons (d2 (binV false .Add) (dVar 1) (dAtm (.int 1))) aNil))) (dBi intV (aCons (d2 (cmpVt .Gt) (dCall d_law_grain 2 false [true, false] (aCons (dVar 0) (aCons (dAtm (.int 3)) aNil))) (dAtm (.int 0))) aNil)) [some (.m 0), some (intT (top : Nat)), none] [M3 a b c] = some (.ok (intT (low : Nat)) [M3 a2 b2 c2]) := by
    refine ev_bin (g := true) (i := (k1 : Nat)) (j := ((if 0 < k2 then 1 else 0 : Nat) : Int)) e1 (ev_bi (ev_cons (ev_cmp e2 ev_atm (show cmpV .Gt _ _ _ = some (decide ((0 : Int) < (k2 : Nat))) from rfl)) ev_nil) ?_) ?_
    · by_cases h : 0 < k2
      · have h' : (0 : Int) < (k2 : Nat) := by omega
        rw [decide_eq_true h', if_pos h]
        rfl
      · have h' : ¬ (0 : Int) < (k2 : Nat) := by omega
        rw [decide_eq_false h', if_neg h]
        rfl
    · rw [hlow, Int.natCast_mul]
      refine mul_ev ?_
      have q1 := bits_nat (show k1 ≤ 1024 by omega)
      have q2 := bits_nat (show (if 0 < k2 then 1 else 0 : Nat) ≤ 1 by split <;> omega)
      have q3 : Nat.log2 1024 = 10 := by decide
      have q4 : Nat.log2 1 = 0 := by decide
      omega
  obtain ⟨k4, a4, b4, c4, e4, ok4, l4⟩ := draw (Γ := [some (.m 0), some (intT (top : Nat)), some (intT (low : Nat))]) (i := 0) (j := 0) (μ := [M3 a2 b2 c2]) (gb := dAtm (.int 3)) 3 ok2 (by omega) (h100 _ (by omega)) rfl rfl ev_atm
  by_cases h4 : k4 = 0
  · refine ⟨((low : Nat), none), a4, b4, c4, ?_, ok4.less (by omega), by show (0 : Int) ≤ (low : Nat); omega, by show ((low : Nat) : Int) ≤ _; omega, fun h hh => by cases hh⟩
    show retD 1 (b_law_span 1 [some (.m 0), some (intT (top : Nat)), none] [M3 a b c]) = _
    unfold b_law_span
    exact rt_ev (μ := [M3 a4 b4 c4]) (st_seq (st_set e3) (st_ret (ev_tup (f := true) (ts := [intT (low : Nat), .v true .non]) (ev_cons (ev_var rfl) (ev_cons (ev_yes (ev_tst e4 ev_atm (by show some (decide (((k4 : Nat) : Int) = 0)) = _; subst h4; rfl)) ev_atm) ev_nil)) rfl (by show 2 ≤ 64; decide)))) rfl
  · obtain ⟨k5, a5, b5, c5, e5, ok5, l5⟩ := draw (Γ := [some (.m 0), some (intT (top : Nat)), some (intT (low : Nat))]) (i := 0) (j := 0) (μ := [M3 a4 b4 c4]) (gb := d2 (binV false .Sub) (d2 (binV false .Add) (dVar 1) (dAtm (.int 1))) (dVar 2)) (top + 1 - low) ok4 (by omega) (h100 _ (by omega)) rfl rfl (ev_bin (i := ((top + 1 : Nat) : Int)) (ev_bin (ev_var rfl) ev_atm rfl) (ev_var rfl) (by show some (((top + 1 : Nat) : Int) - (low : Nat)) = _; congr 1; omega))
    refine ⟨((low : Nat), some ((low + k5 : Nat) : Int)), a5, b5, c5, ?_, ok5, by show (0 : Int) ≤ (low : Nat); omega, by show ((low : Nat) : Int) ≤ _; omega, fun h hh => ?_⟩
    · show retD 1 (b_law_span 1 [some (.m 0), some (intT (top : Nat)), none] [M3 a b c]) = _
      unfold b_law_span
      exact rt_ev (μ := [M3 a5 b5 c5]) (st_seq (st_set e3) (st_ret (ev_tup (f := true) (ts := [intT (low : Nat), intT ((low + k5 : Nat) : Int)]) (ev_cons (ev_var rfl) (ev_cons (ev_no (ev_tst e4 ev_atm (by show some (decide (((k4 : Nat) : Int) = 0)) = _; rw [decide_eq_false (by omega)])) (ev_bin (ev_var rfl) e5 rfl)) ev_nil)) rfl (by show 2 ≤ 64; decide)))) rfl
    · cases hh
      show ((low : Nat) : Int) ≤ ((low + k5 : Nat) : Int) ∧ ((low + k5 : Nat) : Int) ≤ _
      omega
end Qk08

set_option Elab.async false
set_option linter.all false
set_option maxRecDepth 100000
set_option maxHeartbeats 4000000
/-! the law's own defs: boxes that are drawn -/
namespace Qk08
open PySem PySem.Spec PyProof.Rows L2 L3
theorem quern_ev (ns : List Int) (f : Bool) (place : Nat) (hp : place < 64) (hB : ∀ z ∈ ns, Builtin.Int.intBits z ≤ 1048576) (n : Nat) (hn : n ≤ 1000000000) :
    ∃ a b c, d_law_quern [.v f (.scr ns), intT (place : Nat)] [] = some (.ok (.m 0) [M3 a b c]) ∧ MillOk n a b c := by
  have key : ∀ x : Int, bitsI x ≤ 1048576 → ∀ Γ : Gam, Γ[1]? = some (some (intT (place : Nat))) → Γ.length = 4 → Γ[2]? = some (some (intT x)) →
      ∃ a b c, sSeq (sSet 3 (d2 (binV false .Sub) (dBi absV (aCons (dVar 2) aNil)) (d2 (binV false .Pow) (dAtm (.int 10)) (dAtm (.int 17))))) (sRet (dLst true (aCons (dIf (bOf (d2 (cmpVt .Gt) (dVar 3) (dAtm (.int 0)))) (dVar 3) (dAtm (.int 0))) (aCons (d2 (binV false .Mod) (dBi intV (aCons (d2 (binV false .Add) (d2 (binV false .Add) (d2 (binV false .Mult) (dAtm (.int 5)) (dVar 2)) (d2 (binV false .Mult) (dAtm (.int 67867979)) (dVar 1))) (dAtm (.int 49979693))) aNil)) (d2 (binV false .Add) (d2 (binV false .Pow) (dAtm (.int 10)) (dAtm (.int 31))) (dAtm (.int 33)))) (aCons (dAtm (.int 0)) aNil))))) Γ [] = some (.rt (.m 0) [M3 a b c]) ∧ MillOk n a b c := by
    intro x hx Γ h1 hl h2
    obtain ⟨rest, hr⟩ : ∃ rest, rest = (x.natAbs : Int) - 10 ^ 17 := ⟨_, rfl⟩
    have b5 : bitsI 5 = 2 := by decide
    have b6 : bitsI 67867979 ≤ 40 := by decide
    have b10 : bitsI 10 = 3 := by decide
    have bp := bits_nat (show place ≤ 64 by omega)
    have l64 : Nat.log2 64 = 6 := by decide
    have g1 : (Γ.set 3 (some (intT rest)))[1]? = some (some (intT (place : Nat))) := by rw [List.getElem?_set_ne (by decide)]; exact h1
    have g2 : (Γ.set 3 (some (intT rest)))[2]? = some (some (intT x)) := by rw [List.getElem?_set_ne (by decide)]; exact h2
    have g3 : (Γ.set 3 (some (intT rest)))[3]? = some (some (intT rest)) := by rw [List.getElem?_set_self (by omega)]
    have eabs : dBi absV (aCons (dVar 2) aNil) Γ [] = some (.ok (intT (x.natAbs : Int)) []) := ev_bi (ev_cons (ev_var h2) ev_nil) (by
      show some (T.v true (.int _), ([] : Mu)) = _
      congr 3
      by_cases h : x < 0
      · simp [h]; omega
      · simp [h]; omega)
    have habs : bitsI (x.natAbs : Int) ≤ 1048576 := by
      unfold bitsI at hx ⊢
      simpa using hx
    have hrb : bitsI (if 0 < rest then rest else 0) ≤ 1100000 := by
      have q : (10 : Int) ^ 17 = 100000000000000000 := by decide +kernel
      split
      · exact Nat.le_trans (bits_le (by omega) (show rest ≤ (x.natAbs : Int) by omega)) (by omega)
      · decide
    refine ⟨if 0 < rest then rest else 0, (5 * x + 67867979 * (place : Nat) + 49979693) % (10 ^ 31 + 33), 0, ?_, ⟨?_, hrb, Int.emod_nonneg _ (by decide +kernel), Int.lt_of_lt_of_le (Int.emod_lt_of_pos _ (by decide +kernel)) (by decide +kernel), Int.le_refl _, by omega⟩⟩
    · have e1 : dIf (bOf (d2 (cmpVt .Gt) (dVar 3) (dAtm (.int 0)))) (dVar 3) (dAtm (.int 0)) (Γ.set 3 (some (intT rest))) [] = some (.ok (intT (if 0 < rest then rest else 0)) []) := by
        by_cases h : 0 < rest
        · rw [if_pos h]
          exact ev_yes (ev_tst (ev_var g3) ev_atm (by show some (decide (0 < rest)) = _; rw [decide_eq_true h])) (ev_var g3)
        · rw [if_neg h]
          exact ev_no (ev_tst (ev_var g3) ev_atm (by show some (decide (0 < rest)) = _; rw [decide_eq_false h])) ev_atm
      have e2 : d2 (binV false .Add) (d2 (binV false .Add) (d2 (binV false .Mult) (dAtm (.int 5)) (dVar 2)) (d2 (binV false .Mult) (dAtm (.int 67867979)) (dVar 1))) (dAtm (.int 49979693)) (Γ.set 3 (some (intT rest))) [] = some (.ok (intT (5 * x + 67867979 * (place : Nat) + 49979693)) []) :=
        ev_bin (i := 5 * x + 67867979 * (place : Nat)) (j := 49979693) (ev_bin (i := 5 * x) (j := 67867979 * (place : Nat)) (ev_bin (i := 5) (j := x) ev_atm (ev_var g2) (mul_ev (by omega))) (ev_bin (i := 67867979) (j := (place : Nat)) ev_atm (ev_var g1) (mul_ev (by omega))) rfl) ev_atm rfl
      have e3 : d2 (binV false .Add) (d2 (binV false .Pow) (dAtm (.int 10)) (dAtm (.int 31))) (dAtm (.int 33)) (Γ.set 3 (some (intT rest))) [] = some (.ok (intT (10 ^ 31 + 33)) []) := ev_bin (i := 10 ^ 31) (j := 33) (ev_bin (i := 10) (j := 31) ev_atm ev_atm (pow_ev (n := 31) (by omega))) ev_atm rfl
      have e4 := ev_bin (l := false) (op := .Mod) (k := (5 * x + 67867979 * (place : Nat) + 49979693) % (10 ^ 31 + 33)) (ev_bi (h := intV) (t := intT (5 * x + 67867979 * (place : Nat) + 49979693)) (μ2 := []) (ev_cons e2 ev_nil) rfl) e3 (mod_ev (by decide +kernel))
      have e0 : d2 (binV false .Sub) (dBi absV (aCons (dVar 2) aNil)) (d2 (binV false .Pow) (dAtm (.int 10)) (dAtm (.int 17))) Γ [] = some (.ok (intT rest) []) := ev_bin (i := (x.natAbs : Int)) (j := 10 ^ 17) eabs (ev_bin (i := 10) (j := 17) ev_atm ev_atm (pow_ev (n := 17) (by omega))) (by rw [hr]; rfl)
      exact st_seq (st_set e0) (st_ret (ev_lstL (ev_cons e1 (ev_cons e4 (ev_cons ev_atm ev_nil))) (by show 3 ≤ 64; decide)))
    · split <;> omega
  by_cases hl : place < ns.length
  · obtain ⟨a, b, c, h1, h2⟩ := key ns[place] (bits_of (hB _ (List.getElem_mem hl))) [some (.v f (.scr ns)), some (intT (place : Nat)), some (intT ns[place]), none] rfl rfl rfl
    refine ⟨a, b, c, ?_, h2⟩
    show retD 0 (b_law_quern 0 [some (.v f (.scr ns)), some (intT (place : Nat)), none, none] []) = _
    unfold b_law_quern
    have e : d2 ixV (dVar 0) (dVar 1) [some (.v f (.scr ns)), some (intT (place : Nat)), some (intT 0), none] [] = some (.ok (intT ns[place]) []) := ev_d2 (ev_var rfl) (ev_var rfl) (ix_ev (b := true) (ts := ns.map fun n => .v true (.int n)) (by intro _ _ z; cases z) (items_scr _ _ _) (Int.natCast_nonneg _) (by simp [hl]))
    exact rt_ev (st_seq (st_set ev_atm) (st_seq (st_yes (ev_tst (ev_var rfl) (ev_lenS (ev_var rfl)) (by show some (decide ((place : Int) < (ns.length : Int))) = some true; rw [decide_eq_true (by omega)])) (st_set e)) h1)) (ret_c _)
  · obtain ⟨a, b, c, h1, h2⟩ := key 0 (by decide) [some (.v f (.scr ns)), some (intT (place : Nat)), some (intT 0), none] rfl rfl rfl
    refine ⟨a, b, c, ?_, h2⟩
    show retD 0 (b_law_quern 0 [some (.v f (.scr ns)), some (intT (place : Nat)), none, none] []) = _
    unfold b_law_quern
    exact rt_ev (st_seq (st_set ev_atm) (st_seq (st_no (ev_tst (ev_var rfl) (ev_lenS (ev_var rfl)) (by show some (decide ((place : Int) < (ns.length : Int))) = some false; rw [decide_eq_false (by omega)])) st_nil) h1)) (ret_c _)
end Qk08

set_option Elab.async false
set_option linter.all false
set_option maxRecDepth 100000
set_option maxHeartbeats 4000000
/-! the law's own defs: boxes near to others, drawn boxes -/
namespace Qk08
open PySem PySem.Spec PyProof.Rows L2 L3
theorem small100 {x : Nat} (h : x ≤ 1000000) : x ≤ 10 ^ 100 := Nat.le_trans h (by decide +kernel)
def BoxIn (top n : Nat) (b : Bx) : Prop := b.length = n ∧ ∀ s ∈ b, SpanIn top s
theorem low_of {μ : Mu} {f : Bool} (h : Option Int) (top : Int) : h ≠ none → cmpV .Lt μ (.v true (hiD h)) (.v f (.int top)) = some (decide (h.getD 0 < top)) := by
  cases h with
  | none => intro z; exact absurd rfl z
  | some x => intro _; rfl
/-- crate[:at] + [span] + crate[at + 1:] -/
theorem cut_in {Γ : Gam} {μ : Mu} {b : Bx} {f : Bool} {k : Nat} {s : Span} {i : Nat} {fs : Bool} {g1 : De} (h1 : Γ[1]? = some (some (.v f (boxD b)))) (hk : dVar i Γ μ = some (.ok (intT (k : Nat)) μ)) (h4 : g1 Γ μ = some (.ok (.v fs (.lst [spanD s])) μ)) (hz : b.length ≤ 1000) :
    ∃ xs q, d2 (binV true .Add) (d2 (binV false .Add) (dSl false (dVar 1) none (some (dVar i))) g1) (dSl false (dVar 1) (some (d2 (binV false .Add) (dVar i) (dAtm (.int 1)))) none) Γ μ = some (.ok (.m μ.length) (μ ++ [.lst xs])) ∧ pack xs = some (q, (b.take k ++ s :: b.drop (k + 1)).map spanD) := by
  obtain ⟨q1, e1, _⟩ := ev_to (ga := dVar 1) (gb := dVar i) (a := k) (xs := b.map spanD) (ev_var h1) hk
  obtain ⟨q2, e2, _⟩ := ev_catL e1 h4 (by rw [List.length_take, List.length_map, sizeLine_eq]; show _ + 1 ≤ _; omega)
  obtain ⟨q3, e3, _⟩ := ev_from (ga := dVar 1) (gb := d2 (binV false .Add) (dVar i) (dAtm (.int 1))) (a := k + 1) (xs := b.map spanD) (Γ := Γ) (μ := μ) (ev_var h1) (ev_bin hk ev_atm rfl)
  have e4 := ev_catLL e2 e3 (by rw [List.length_append, List.length_take, List.length_drop, List.length_map, sizeLine_eq]; show _ + 1 + _ ≤ _; omega)
  obtain ⟨p1, h5, _⟩ := pack_mk q2 ((b.map spanD).take k ++ [spanD s])
  obtain ⟨p2, h6, _⟩ := pack_mk q3 ((b.map spanD).drop (k + 1))
  refine ⟨_, p1 && p2, e4, ?_⟩
  rw [pack_app h5 h6]
  simp [List.map_take, List.map_drop]
theorem BoxIn.put {top n k : Nat} {b : Bx} {s : Span} (h : BoxIn top n b) (hk : k < n) (hs : SpanIn top s) : BoxIn top n (b.take k ++ s :: b.drop (k + 1)) := by
  refine ⟨by have := h.1; simp; omega, fun x hx => ?_⟩
  rcases List.mem_append.mp hx with hx | hx
  · exact h.2 x (List.mem_of_mem_take hx)
  · rcases List.mem_cons.mp hx with rfl | hx
    · exact hs
    · exact h.2 x (List.mem_of_mem_drop hx)
/-- a low one and a high one of a box -/
theorem span_at {Γ : Gam} {μ : Mu} {b : Bx} {f : Bool} {k i j : Nat} (h1 : Γ[1]? = some (some (.v f (boxD b)))) (hk : dVar i Γ μ = some (.ok (intT (k : Nat)) μ)) (hl : k < b.length) {p q : Nat} : sAsg (d2 ixV (dVar 1) (dVar i)) (gTp 2 (gsCons (gNm p) (gsCons (gNm q) gsNil))) Γ μ = some (.nx ((Γ.set p (some (intT (atB b k).1))).set q (some (.v true (hiD (atB b k).2)))) μ) := by
  refine st_asg (t := .v f (spanD (atB b k))) ?_ gTp2
  have := ev_ixL (ev_var (μ := μ) h1) hk rfl (box_get hl)
  rwa [show mkT f (spanD (atB b k)) = .v f (spanD (atB b k)) from mkT_tup] at this
theorem atB_mem {b : Bx} {k : Nat} (h : k < b.length) : atB b k ∈ b := List.mem_of_getElem? (atB_get h)
theorem near_ev {n : Nat} {a b c : Int} (top kinds : Nat) (bx : Bx) (f : Bool) (ok : MillOk (n + 8) a b c) (ht : top ≤ 1000) (hb : BoxIn top kinds bx) (hk : 0 < kinds) (hk2 : kinds ≤ 1000) :
    ∃ bx' xs q a' b' c', d_law_near [.m 0, .v f (boxD bx), intT (top : Nat)] [M3 a b c] = some (.ok (.m 1) [M3 a' b' c', .lst xs]) ∧ pack xs = some (q, bx'.map spanD) ∧ MillOk n a' b' c' ∧ BoxIn top kinds bx' := by
  let Γ0 : Gam := [some (.m 0), some (.v f (boxD bx)), some (intT (top : Nat)), none, none, none, none, none]
  have elen := ev_lenL (ga := dVar 1) (f := f) (xs := bx.map spanD) (Γ := Γ0) (μ := [M3 a b c]) (ev_var rfl)
  rw [List.length_map, hb.1] at elen
  obtain ⟨at_, a1, b1, c1, e1, ok1, l1⟩ := draw (Γ := Γ0) (i := 0) (j := 0) (μ := [M3 a b c]) kinds ok hk (small100 (by omega)) rfl rfl elen
  obtain ⟨s0, a2, b2, c2, e2, ok2, in0⟩ := span_ev top ok1 ht
  have e2' : dFrz 1 (dCall d_law_span 2 false [true, false] (aCons (dVar 0) (aCons (dVar 2) aNil))) Γ0 [M3 a1 b1 c1] = some (.ok (.v true (spanD s0)) [M3 a2 b2 c2]) := frzM_v (j := 0) (dCallM (j := 0) rfl (ev_cons (ev_var rfl) ev_nil) rfl (callM_v (live := false) (j := 0) rfl rfl rfl e2 rfl)) rfl
  have hat : at_ < bx.length := by rw [hb.1]; exact l1
  have hsp := hb.2 _ (atB_mem hat)
  let Γ1 : Gam := [some (.m 0), some (.v f (boxD bx)), some (intT (top : Nat)), some (intT (at_ : Nat)), some (.v true (spanD s0)), some (intT (atB bx at_).1), some (.v true (hiD (atB bx at_).2)), none]
  obtain ⟨way, a3, b3, c3, e3, ok3, l3⟩ := draw (Γ := Γ1) (i := 0) (j := 0) (μ := [M3 a2 b2 c2]) (gb := dAtm (.int 4)) 4 ok2 (by omega) (small100 (by omega)) rfl rfl ev_atm
  let Γ2 : Span → Gam := fun s => [some (.m 0), some (.v f (boxD bx)), some (intT (top : Nat)), some (intT (at_ : Nat)), some (.v true (spanD s)), some (intT (atB bx at_).1), some (.v true (hiD (atB bx at_).2)), some (intT (way : Nat))]
  have eif : ∃ s' a' b' c', sIf (bAnd (bOf (d2 (cmpVt .Eq) (dVar 7) (dAtm (.int 0)))) (bAnd (bOf (d2 (cmpVt .IsNot) (dVar 6) (dAtm .non))) (bOf (d2 (cmpVt .Lt) (dVar 6) (dVar 2))))) (sSet 4 (dTup (aCons (d2 (binV false .Add) (dVar 6) (dAtm (.int 1))) (aCons (d2 ixV (dLst false (aCons (dAtm .non) (aCons (dVar 2) aNil))) (dCall d_law_grain 2 false [true, false] (aCons (dVar 0) (aCons (dAtm (.int 2)) aNil)))) aNil)))) (sIf (bAnd (bOf (d2 (cmpVt .Eq) (dVar 7) (dAtm (.int 1)))) (bOf (d2 (cmpVt .Gt) (dVar 5) (dAtm (.int 0))))) (sSet 4 (dTup (aCons (dCall d_law_grain 2 false [true, false] (aCons (dVar 0) (aCons (dVar 5) aNil))) (aCons (d2 (binV false .Sub) (dVar 5) (dAtm (.int 1))) aNil)))) L3.sNil) (Γ2 s0) [M3 a3 b3 c3] = some (.nx (Γ2 s') [M3 a' b' c']) ∧ MillOk n a' b' c' ∧ SpanIn top s' := by
    have w0 : bOf (d2 (cmpVt .Eq) (dVar 7) (dAtm (.int 0))) (Γ2 s0) [M3 a3 b3 c3] = some (.ok (decide (way = 0)) [M3 a3 b3 c3]) := ev_tst (ev_var rfl) ev_atm (eq_natV way 0)
    have w1 : bOf (d2 (cmpVt .Eq) (dVar 7) (dAtm (.int 1))) (Γ2 s0) [M3 a3 b3 c3] = some (.ok (decide (way = 1)) [M3 a3 b3 c3]) := ev_tst (ev_var rfl) ev_atm (eq_natV way 1)
    have w2 : bOf (d2 (cmpVt .IsNot) (dVar 6) (dAtm .non)) (Γ2 s0) [M3 a3 b3 c3] = some (.ok (atB bx at_).2.isSome [M3 a3 b3 c3]) := ev_tst (ev_var rfl) ev_atm (is_not_none _)
    have test0 : bAnd (bOf (d2 (cmpVt .Eq) (dVar 7) (dAtm (.int 0)))) (bAnd (bOf (d2 (cmpVt .IsNot) (dVar 6) (dAtm .non))) (bOf (d2 (cmpVt .Lt) (dVar 6) (dVar 2)))) (Γ2 s0) [M3 a3 b3 c3] = some (.ok (decide (way = 0) && ((atB bx at_).2.isSome && decide ((atB bx at_).2.getD 0 < (top : Nat)))) [M3 a3 b3 c3]) :=
      ev_and w0 fun _ => ev_and w2 fun h => ev_tst (ev_var rfl) (ev_var rfl) (low_of _ _ (by rw [Option.isSome_iff_ne_none] at h; exact h))
    have test1 : bAnd (bOf (d2 (cmpVt .Eq) (dVar 7) (dAtm (.int 1)))) (bOf (d2 (cmpVt .Gt) (dVar 5) (dAtm (.int 0)))) (Γ2 s0) [M3 a3 b3 c3] = some (.ok (decide (way = 1) && decide (0 < (atB bx at_).1)) [M3 a3 b3 c3]) :=
      ev_and w1 fun _ => ev_tst (ev_var rfl) ev_atm rfl
    by_cases h0 : (decide (way = 0) && ((atB bx at_).2.isSome && decide ((atB bx at_).2.getD 0 < (top : Nat)))) = true
    · rw [h0] at test0
      rw [Bool.and_eq_true_iff, Bool.and_eq_true_iff] at h0
      obtain ⟨_, h01, h02⟩ := h0
      obtain ⟨h, hh⟩ := Option.isSome_iff_exists.mp h01
      rw [hh] at h02
      have h02 : h < (top : Nat) := by simpa using h02
      obtain ⟨hlh, hht⟩ := hsp.2.2 h hh
      obtain ⟨k, a4, b4, c4, e4, ok4, l4⟩ := draw (Γ := Γ2 s0) (i := 0) (j := 0) (μ := [M3 a3 b3 c3]) (gb := dAtm (.int 2)) 2 ok3 (by omega) (small100 (by omega)) rfl rfl ev_atm
      have e6 : dVar 6 (Γ2 s0) [M3 a3 b3 c3] = some (.ok (intT h) [M3 a3 b3 c3]) := by
        have : dVar 6 (Γ2 s0) [M3 a3 b3 c3] = some (.ok (.v true (hiD (atB bx at_).2)) [M3 a3 b3 c3]) := ev_var rfl
        rw [this, hh]
        rfl
      have e7 : d2 ixV (dLst false (aCons (dAtm .non) (aCons (dVar 2) aNil))) (dCall d_law_grain 2 false [true, false] (aCons (dVar 0) (aCons (dAtm (.int 2)) aNil))) (Γ2 s0) [M3 a3 b3 c3] = some (.ok (.v true (hiD (if k = 0 then none else some (top : Nat)))) [M3 a4 b4 c4]) := by
        refine ev_ixLA (f := true) (xs := [.non, .int (top : Nat)]) (n := k) (ev_lst (ts := [.v true .non, intT (top : Nat)]) (ev_cons ev_atm (ev_cons (ev_var rfl) ev_nil)) rfl (by show 2 ≤ 64; decide)) e4 rfl ?_ (hi_atom _)
        obtain rfl | rfl : k = 0 ∨ k = 1 := by omega
        · rfl
        · rfl
      refine ⟨(h + 1, if k = 0 then none else some (top : Nat)), a4, b4, c4, st_yes test0 (st_set (ev_tup (f := true) (ts := [intT (h + 1), .v true (hiD (if k = 0 then none else some (top : Nat)))]) (ds := [.int (h + 1), hiD (if k = 0 then none else some (top : Nat))]) (ev_cons (ev_bin e6 ev_atm rfl) (ev_cons e7 ev_nil)) rfl (by show 2 ≤ 64; decide))), ok4.less (by omega), ?_⟩
      have := hsp.1
      refine ⟨by show 0 ≤ h + 1; omega, by show h + 1 ≤ _; omega, fun x hx => ?_⟩
      have hx : (if k = 0 then none else some ((top : Nat) : Int)) = some x := hx
      split at hx
      · cases hx
      · cases hx
        exact ⟨by show h + 1 ≤ _; omega, Int.le_refl _⟩
    · have h0 : (decide (way = 0) && ((atB bx at_).2.isSome && decide ((atB bx at_).2.getD 0 < (top : Nat)))) = false := by simpa using h0
      rw [h0] at test0
      by_cases h1 : (decide (way = 1) && decide (0 < (atB bx at_).1)) = true
      · rw [h1] at test1
        rw [Bool.and_eq_true_iff] at h1
        have hpos : 0 < (atB bx at_).1 := by simpa using h1.2
        obtain ⟨lowN, hlowN⟩ : ∃ lowN : Nat, (atB bx at_).1 = (lowN : Nat) := ⟨(atB bx at_).1.toNat, by omega⟩
        have hlt := hsp.2.1
        obtain ⟨k, a4, b4, c4, e4, ok4, l4⟩ := draw (Γ := Γ2 s0) (i := 0) (j := 0) (μ := [M3 a3 b3 c3]) (gb := dVar 5) lowN ok3 (by omega) (small100 (by omega)) rfl rfl (ev_var (by rw [← hlowN]; rfl))
        refine ⟨((k : Nat), some ((atB bx at_).1 - 1)), a4, b4, c4, st_no test0 (st_yes test1 (st_set (ev_tup (f := true) (ts := [intT (k : Nat), intT ((atB bx at_).1 - 1)]) (ds := [.int (k : Nat), .int ((atB bx at_).1 - 1)]) (ev_cons e4 (ev_cons (ev_bin (ev_var rfl) ev_atm rfl) ev_nil)) rfl (by show 2 ≤ 64; decide)))), ok4.less (by omega), by show (0 : Int) ≤ (k : Nat); omega, by show ((k : Nat) : Int) ≤ _; omega, fun x hx => ?_⟩
        cases hx
        constructor
        · show ((k : Nat) : Int) ≤ (atB bx at_).1 - 1
          omega
        · omega
      · have h1 : (decide (way = 1) && decide (0 < (atB bx at_).1)) = false := by simpa using h1
        rw [h1] at test1
        exact ⟨s0, a3, b3, c3, st_no test0 (st_no test1 st_nil), ok3.less (by omega), in0⟩
  obtain ⟨s', a', b', c', e5, ok5, in5⟩ := eif
  obtain ⟨xs, q, e6, hp⟩ := cut_in (i := 3) (Γ := Γ2 s') (μ := [M3 a' b' c']) (b := bx) (f := f) (k := at_) (s := s') (fs := true) (g1 := dLst false (aCons (dVar 4) aNil)) rfl (ev_var rfl) (ev_lst (ts := [.v true (spanD s')]) (ev_cons (ev_var rfl) ev_nil) rfl (by show 1 ≤ 64; decide)) (by rw [hb.1]; exact hk2)
  refine ⟨_, xs, q, a', b', c', ?_, hp, ok5, hb.put l1 in5⟩
  show retD 1 (b_law_near 1 Γ0 [M3 a b c]) = _
  unfold b_law_near
  refine rt_ev (st_seq (st_par (ev_cons e1 (ev_cons e2' ev_nil))) (st_seq (span_at (b := bx) (f := f) (k := at_) (i := 3) (j := 0) rfl (ev_var rfl) hat) (st_seq (st_set e3) (st_seq e5 (st_ret e6))))) ?_
  exact ret_m1 m3_low (pack_low hp)
end Qk08

set_option Elab.async false
set_option linter.all false
set_option maxRecDepth 100000
set_option maxHeartbeats 4000000
/-! the law's own defs: lists of boxes that are drawn -/
namespace Qk08
open PySem PySem.Spec PyProof.Rows L2 L3
section
variable {e : De} {own : List Nat} {s j r : Nat} {Γ : Gam} {μ : Mu} {Q : D → Prop}
/-- a comprehension over a range, each item drawn -/
theorem draws_lc {n : Nat} (hz : n ≤ 1000) (step : ∀ (m i : Nat) (a b c : Int) (acc : List T), MillOk (m + r) a b c → acc.all (T.low 0) = true → ∃ (d : D) (a' b' c' : Int), e ((wipeG Γ own).set s (some (intT (i : Nat)))) (μ.set j (M3 a b c) ++ [.lst acc]) = some (.ok (.v true d) (μ.set j (M3 a' b' c') ++ [.lst acc])) ∧ MillOk m a' b' c' ∧ Q d) :
    ∀ (k i m : Nat) (a b c : Int) (acc : List T), i + k = n → acc.length ≤ i → acc.all (T.low 0) = true → MillOk (m + k * r) a b c → ∃ (ds : List D) (a' b' c' : Int), lcD (.rng 0 n) (gNm s) bYes e own μ.length Γ k i (μ.set j (M3 a b c) ++ [.lst acc]) = some (μ.set j (M3 a' b' c') ++ [.lst (acc ++ ds.map (T.v true))]) ∧ MillOk m a' b' c' ∧ ds.length = k ∧ ∀ d ∈ ds, Q d
  | 0, i, m, a, b, c, acc, _, _, _, ok => ⟨[], a, b, c, by rw [List.map_nil, List.append_nil]; rfl, by rw [Nat.zero_mul] at ok; exact ok, rfl, fun d hd => by cases hd⟩
  | k + 1, i, m, a, b, c, acc, hi, ha, hlow, ok => by
    obtain ⟨d, a1, b1, c1, h1, ok1, q1⟩ := step (m + k * r) i a b c acc (by rw [Nat.add_mul, Nat.one_mul, ← Nat.add_assoc] at ok; exact ok) hlow
    obtain ⟨ds, a2, b2, c2, h2, ok2, l2, q2⟩ := draws_lc hz step k (i + 1) m a1 b1 c1 (acc ++ [.v true d]) (by omega) (by rw [List.length_append]; show _ + 1 ≤ _; omega) (by rw [List.all_append, hlow]; rfl) ok1
    refine ⟨d :: ds, a2, b2, c2, ?_, ok2, by rw [List.length_cons, l2], fun x hx => ?_⟩
    · have e0 : (μ.set j (M3 a1 b1 c1)).length = μ.length := List.length_set ..
      have hg : (μ.set j (M3 a1 b1 c1) ++ [Cell.lst acc])[μ.length]? = some (.lst acc) := by rw [← e0]; simp
      have hs : (μ.set j (M3 a1 b1 c1) ++ [Cell.lst acc]).set μ.length (.lst (acc ++ [.v true d])) = μ.set j (M3 a1 b1 c1) ++ [.lst (acc ++ [.v true d])] := by rw [← e0]; simp
      unfold lcD
      rw [if_pos (show (ItV.rng 0 n).ok (μ.set j (M3 a b c) ++ [Cell.lst acc]) = true from rfl)]
      have hat : (ItV.rng 0 n).at (μ.set j (M3 a b c) ++ [Cell.lst acc]) i = some (.one (intT (i : Nat))) := by
        show some (Yl.one (intT (0 + (i : Int)))) = _
        rw [Int.zero_add]
      rw [hat]
      have hgn : gNm s (.one (intT (i : Nat))) (wipeG Γ own) (μ.set j (M3 a b c) ++ [Cell.lst acc]) = some ((wipeG Γ own).set s (some (intT (i : Nat)))) := rfl
      simp only [hgn, bYes, h1, hg, hs]
      rw [if_pos (by rw [sizeLine_eq]; omega), h2]
      simp [List.append_assoc]
    · rcases List.mem_cons.mp hx with rfl | hx
      · exact q1
      · exact q2 x hx
theorem draws_ev {n m m0 : Nat} {a b c : Int} {it : Di} (hz : n ≤ 1000) (hit : it Γ (μ.set j (M3 a b c)) = some (.ok (.rng 0 n) (μ.set j (M3 a b c)))) (ok : MillOk (m + n * r) a b c) (hm : m0 ≤ μ.length) (hl : μ.all (Cell.low μ.length) = true)
    (step : ∀ (m i : Nat) (a b c : Int) (acc : List T), MillOk (m + r) a b c → acc.all (T.low 0) = true → ∃ (d : D) (a' b' c' : Int), e ((wipeG Γ own).set s (some (intT (i : Nat)))) (μ.set j (M3 a b c) ++ [.lst acc]) = some (.ok (.v true d) (μ.set j (M3 a' b' c') ++ [.lst acc])) ∧ MillOk m a' b' c' ∧ Q d) :
    ∃ (ds : List D) (a' b' c' : Int), dLc false m0 it (gNm s) bYes e own Γ (μ.set j (M3 a b c)) = some (.ok (.v true (.lst ds)) (μ.set j (M3 a' b' c'))) ∧ MillOk m a' b' c' ∧ ds.length = n ∧ ∀ d ∈ ds, Q d := by
  obtain ⟨ds, a', b', c', h1, h2, h3, h4⟩ := draws_lc (own := own) (s := s) hz step n 0 m a b c [] (by omega) (by simp) rfl ok
  refine ⟨ds, a', b', c', ?_, h2, h3, h4⟩
  have e0 : (μ.set j (M3 a b c)).length = μ.length := List.length_set ..
  have e1 : (μ.set j (M3 a' b' c')).length = μ.length := List.length_set ..
  unfold dLc
  rw [hit]
  show (match lcD (.rng 0 n) (gNm s) bYes e own (μ.set j (M3 a b c)).length Γ n 0 (μ.set j (M3 a b c) ++ [.lst []]) with | some μ2 => (lcEnd false (μ.set j (M3 a b c)).length m0 μ2).ot | none => none) = _
  rw [e0, h1]
  show (lcEnd false μ.length m0 (μ.set j (M3 a' b' c') ++ [Cell.lst (ds.map (T.v true))])).ot = _
  have hg : (μ.set j (M3 a' b' c') ++ [Cell.lst (ds.map (T.v true))])[μ.length]? = some (.lst (ds.map (T.v true))) := by rw [← e1]; simp
  have ht : (μ.set j (M3 a' b' c') ++ [Cell.lst (ds.map (T.v true))]).take μ.length = μ.set j (M3 a' b' c') := by rw [← e1, List.take_left]
  unfold lcEnd
  rw [if_neg Bool.false_ne_true, hg]
  simp only [pack_vs]
  rw [ht, if_pos ⟨hm, all_set hl m3_low⟩]
  rfl
end
/-! boxes are plain data -/
theorem span_plain {s : Span} (h1 : s.1.natAbs < 10 ^ 40) (h2 : ∀ h, s.2 = some h → h.natAbs < 10 ^ 40) : (spanD s).plain = true ∧ (spanD s).dep = 1 ∧ (spanD s).many = 2 := by
  obtain ⟨l, h⟩ := s
  cases h with
  | none => exact ⟨by simp [spanD, hiD, D.plain, D.plains]; exact h1, by simp [spanD, hiD, D.dep, D.deps], by simp [spanD, hiD, D.many, D.manys]⟩
  | some x =>
    have := h2 x rfl
    exact ⟨by simp [spanD, hiD, D.plain, D.plains]; exact ⟨h1, this⟩, by simp [spanD, hiD, D.dep, D.deps], by simp [spanD, hiD, D.many, D.manys]⟩
def SpanSm (s : Span) : Prop := s.1.natAbs < 10 ^ 40 ∧ ∀ h, s.2 = some h → h.natAbs < 10 ^ 40
theorem box_plain {b : Bx} (h : ∀ s ∈ b, SpanSm s) : (boxD b).plain = true ∧ (boxD b).dep ≤ 2 ∧ (boxD b).many ≤ b.length * 3 := by
  refine ⟨?_, ?_, ?_⟩
  · unfold boxD D.plain
    exact plains_of fun x hx => by obtain ⟨s, hs, rfl⟩ := List.mem_map.mp hx; exact (span_plain (h s hs).1 (h s hs).2).1
  · have : D.deps (b.map spanD) ≤ 1 := deps_of fun x hx => by obtain ⟨s, hs, rfl⟩ := List.mem_map.mp hx; exact Nat.le_of_eq (span_plain (h s hs).1 (h s hs).2).2.1
    unfold boxD D.dep
    omega
  · have := manys_of (n := 2) (xs := b.map spanD) fun x hx => by obtain ⟨s, hs, rfl⟩ := List.mem_map.mp hx; exact Nat.le_of_eq (span_plain (h s hs).1 (h s hs).2).2.2
    rw [List.length_map] at this
    unfold boxD D.many
    exact this
theorem boxes_plain {bs : List Bx} {m : Nat} (h : ∀ b ∈ bs, b.length ≤ m ∧ ∀ s ∈ b, SpanSm s) : D.plains (bs.map boxD) = true ∧ D.deps (bs.map boxD) ≤ 2 ∧ D.manys (bs.map boxD) ≤ bs.length * (m * 3 + 1) := by
  refine ⟨?_, ?_, ?_⟩
  · exact plains_of fun x hx => by obtain ⟨b, hb, rfl⟩ := List.mem_map.mp hx; exact (box_plain (h b hb).2).1
  · exact deps_of fun x hx => by obtain ⟨b, hb, rfl⟩ := List.mem_map.mp hx; exact (box_plain (h b hb).2).2.1
  · have := manys_of (n := m * 3) (xs := bs.map boxD) fun x hx => by
      obtain ⟨b, hb, rfl⟩ := List.mem_map.mp hx
      have := (box_plain (h b hb).2).2.2
      have := (h b hb).1
      omega
    rw [List.length_map] at this
    exact this
theorem SpanIn.sm {top : Nat} {s : Span} (h : SpanIn top s) (ht : top ≤ 1000) : SpanSm s := by
  have e : 1000 < 10 ^ 40 := by decide +kernel
  obtain ⟨h1, h2, h3⟩ := h
  refine ⟨by omega, fun x hx => ?_⟩
  obtain ⟨h4, h5⟩ := h3 x hx
  omega
end Qk08

set_option Elab.async false
set_option linter.all false
set_option maxRecDepth 100000
set_option maxHeartbeats 4000000
/-! the law's own defs: a list of boxes -/
namespace Qk08
open PySem PySem.Spec PyProof.Rows L2 L3
theorem ev_andT {Γ : Gam} {μ μ1 μ2 : Mu} {ta tb : Db} {c : Bool} (h : ta Γ μ = some (.ok true μ1)) (h2 : tb Γ μ1 = some (.ok c μ2)) : bAnd ta tb Γ μ = some (.ok c μ2) := by unfold bAnd; rw [h]; exact h2
theorem ev_andF {Γ : Gam} {μ μ1 : Mu} {ta tb : Db} (h : ta Γ μ = some (.ok false μ1)) : bAnd ta tb Γ μ = some (.ok false μ1) := by unfold bAnd; rw [h]; rfl
theorem ex_map {α : Type} {F : α → D} {P : α → Prop} : ∀ {ds : List D}, (∀ d ∈ ds, ∃ s, d = F s ∧ P s) → ∃ ss : List α, ds = ss.map F ∧ ∀ s ∈ ss, P s
  | [], _ => ⟨[], rfl, fun s hs => by cases hs⟩
  | d :: ds, h => by
    obtain ⟨s, e, hp⟩ := h d List.mem_cons_self
    obtain ⟨ss, e2, hp2⟩ := ex_map fun x hx => h x (List.mem_cons_of_mem _ hx)
    refine ⟨s :: ss, by rw [e, e2]; rfl, fun x hx => ?_⟩
    rcases List.mem_cons.mp hx with rfl | hx
    · exact hp
    · exact hp2 x hx
/-- xs.append(..), xs the second cell -/
theorem app2 {Γ : Gam} {c0 : Cell} {xs : List T} {t : T} {i : Nat} {ge : De} (hi : Γ[i]? = some (some (.m 1))) (hz : xs.length < 16777216) (he : ge Γ [c0, .lst xs] = some (.ok t [c0, .lst xs])) : dMt appV (dVar i) (aCons ge aNil) Γ [c0, .lst xs] = some (.ok (.v true .non) [c0, .lst (xs ++ [t])]) := by
  refine ev_mt (t := .m 1) (us := xs) (ev_var hi) rfl (ev_cons he ev_nil) ?_
  have e : L3.cellOf [c0, .lst xs] (.m 1) = some (1, xs) := rfl
  unfold appV
  simp only [e]
  rw [if_pos (by rw [sizeLine_eq]; exact hz)]
  rfl
theorem low2 {a b c : Int} {xs : List T} {q : Bool} {ds : List D} (hp : pack xs = some (q, ds)) {k : Nat} : ([M3 a b c, .lst xs] : Mu).all (Cell.low k) = true := by
  have h : (Cell.lst xs).low k = true := pack_low hp
  rw [List.all_cons, List.all_cons, m3_low, h]
  rfl
/-- a box is drawn, in a def that holds the mill and a list -/
theorem crate_ev {n : Nat} {a b c : Int} {kinds top : Nat} {xs : List T} {q : Bool} {ds : List D} {Γ : Gam} (hp : pack xs = some (q, ds)) (ok : MillOk (n + kinds * 4) a b c) (ht : top ≤ 1000) (hk : kinds ≤ 1000) (h0 : Γ[0]? = some (some (.m 0))) (h1 : Γ[1]? = some (some (intT (kinds : Nat)))) (h3 : Γ[3]? = some (some (intT (top : Nat)))) :
    ∃ (bx : Bx) (a' b' c' : Int), dLc false 1 (iRng1D (aCons (dVar 1) aNil)) (gNm 7) bYes (dFrz 1 (dCall d_law_span 2 false [true, false] (aCons (dVar 0) (aCons (dVar 3) aNil)))) [7] Γ [M3 a b c, .lst xs] = some (.ok (.v true (boxD bx)) [M3 a' b' c', .lst xs]) ∧ MillOk n a' b' c' ∧ BoxIn top kinds bx := by
  have hw : ∀ (k i : Nat), k ≠ 7 → ((wipeG Γ [7]).set 7 (some (intT (i : Nat))))[k]? = Γ[k]? := fun k i hk => by
    unfold wipeG wipeG
    rw [List.getElem?_set_ne (by omega), List.getElem?_set_ne (by omega)]
  obtain ⟨ds', a', b', c', e1, ok1, l1, q1⟩ := draws_ev (Q := fun d => ∃ s, d = spanD s ∧ SpanIn top s) (r := 4) (s := 7) (own := [7]) (j := 0) (μ := [M3 0 0 0, .lst xs]) (Γ := Γ) (e := dFrz 1 (dCall d_law_span 2 false [true, false] (aCons (dVar 0) (aCons (dVar 3) aNil)))) (it := iRng1D (aCons (dVar 1) aNil)) (n := kinds) (m := n) (m0 := 1) (a := a) (b := b) (c := c) hk (it_rng1 (ev_cons (ev_var h1) ev_nil) (by omega)) ok (by show 1 ≤ 2; decide) (low2 hp) (fun m i a b c acc okm hacc => by
      obtain ⟨s, a', b', c', e2, ok2, in2⟩ := span_ev top okm ht
      refine ⟨spanD s, a', b', c', ?_, ok2, s, rfl, in2⟩
      refine frzM_v (μ := [M3 a b c, .lst xs, .lst acc]) (j := 0) (dCallM (j := 0) (by rw [hw 0 i (by decide)]; exact h0) (ev_cons (ev_var (by rw [hw 3 i (by decide)]; exact h3)) ev_nil) rfl (callM_v (live := false) (j := 0) rfl rfl rfl e2 rfl)) ?_
      have g1 : (Cell.lst xs).low 3 = true := pack_low hp
      have g2 : (Cell.lst acc).low 3 = true := low_all hacc
      show ([M3 a b c, .lst xs, .lst acc] : Mu).all (Cell.low 3) = true
      rw [List.all_cons, List.all_cons, List.all_cons, m3_low, g1, g2]
      rfl)
  obtain ⟨bx, rfl, hbx⟩ := ex_map q1
  exact ⟨bx, a', b', c', e1, ok1, by rw [List.length_map] at l1; exact l1, hbx⟩
theorem drawn_ev {n : Nat} {a b c : Int} (kinds count top : Nat) (ok : MillOk (n + count * (kinds * 4 + 10) + 1) a b c) (ht : top ≤ 1000) (hk : 0 < kinds) (hk2 : kinds ≤ 1000) (hc : count ≤ 1000) :
    ∃ (bs : List Bx) (xs : List T) (q : Bool) (a' b' c' : Int), d_law_drawn [.m 0, intT (kinds : Nat), intT (count : Nat), intT (top : Nat)] [M3 a b c] = some (.ok (.m 1) [M3 a' b' c', .lst xs]) ∧ pack xs = some (q, bs.map boxD) ∧ MillOk n a' b' c' ∧ bs.length ≤ count ∧ ∀ b ∈ bs, BoxIn top kinds b := by
  let Γ0 : Option T → Option T → Option T → Gam := fun o5 o6 o7 => [some (.m 0), some (intT (kinds : Nat)), some (intT (count : Nat)), some (intT (top : Nat)), some (.m 1), o5, o6, o7]
  obtain ⟨cnt, a1, b1, c1, e1, ok1, l1⟩ := draw (Γ := Γ0 none none none) (i := 0) (j := 0) (μ := [M3 a b c, .lst []]) (gb := d2 (binV false .Add) (dVar 2) (dAtm (.int 1))) (count + 1) ok (by omega) (small100 (by omega)) rfl rfl (ev_bin (ev_var rfl) ev_atm rfl)
  let BODY : Ds := (sSeq (sSet 6 (dLc false 1 (iRng1D (aCons (dVar 1) aNil)) (gNm 7) bYes (dFrz 1 (dCall d_law_span 2 false [true, false] (aCons (dVar 0) (aCons (dVar 3) aNil)))) [7])) (sSeq (sIf (bAnd (bOf (d2 (cmpVt .NotEq) (dVar 4) (dLst false aNil))) (bOf (d2 (cmpVt .Eq) (dCall d_law_grain 2 false [true, false] (aCons (dVar 0) (aCons (dAtm (.int 2)) aNil))) (dAtm (.int 0))))) (sSet 6 (dFrz 1 (dCall d_law_near 3 false [true, false, false] (aCons (dVar 0) (aCons (d2 ixV (dVar 4) (dCall d_law_grain 2 false [true, false] (aCons (dVar 0) (aCons (dBi lenV (aCons (dVar 4) aNil)) aNil)))) (aCons (dVar 3) aNil)))))) L3.sNil) (sExp (dMt appV (dVar 4) (aCons (dVar 6) aNil)))))
  obtain ⟨Γ', μ', h1, a2, b2, c2, xs, q, bs, o5, o6, o7, rfl, rfl, hp, ok2, hl, hbs⟩ := for_gen (l := List.range cnt) (g := gNm 5) (it := iRng1D (aCons (dCall d_law_grain 2 false [true, false] (aCons (dVar 0) (aCons (d2 (binV false .Add) (dVar 2) (dAtm (.int 1))) aNil))) aNil)) (y := fun k : Nat => .one (intT (k : Nat)))
    (Γ := Γ0 none none none) (μ := [M3 a b c, .lst []]) (b := BODY)
    (fun i Γ μ => ∃ (a b c : Int) (xs : List T) (q : Bool) (bs : List Bx) (o5 o6 o7 : Option T), Γ = Γ0 o5 o6 o7 ∧ μ = [M3 a b c, .lst xs] ∧ pack xs = some (q, bs.map boxD) ∧ MillOk (n + (count - i) * (kinds * 4 + 10)) a b c ∧ bs.length = i ∧ ∀ b ∈ bs, BoxIn top kinds b)
    (it_rng1 (ev_cons e1 ev_nil) (by omega)) (by simp [ItV.len]) (fun i Γ μ _ h => rfl) ⟨a1, b1, c1, [], true, [], none, none, none, rfl, rfl, rfl, ok1, rfl, fun b hb => by cases hb⟩ (fun i hi Γ μ ⟨a, b, c, xs, q, bs, o5, o6, o7, hG, hm, hp, ok, hl, hbs⟩ => by
      subst hG hm
      have hi' : i < cnt := by simpa using hi
      have hat := at_rng0 (μ := [M3 a b c, .lst xs]) (n := cnt) hi
      obtain ⟨k, hk'⟩ : ∃ k, count - i = k + 1 := ⟨count - i - 1, by omega⟩
      have hk'' : count - (i + 1) = k := by omega
      rw [hk', Nat.add_mul, Nat.one_mul, ← Nat.add_assoc] at ok
      obtain ⟨t5, ht5⟩ : ∃ t5, t5 = intT (((List.range cnt)[i] : Nat) : Int) := ⟨_, rfl⟩
      rw [← ht5] at hat ⊢
      obtain ⟨bx, a1, b1, c1, e1, ok1, in1⟩ := crate_ev (Γ := Γ0 (some t5) o6 o7) hp (n := n + k * (kinds * 4 + 10) + 10) (ok.less (by omega)) ht hk2 rfl rfl rfl
      have hpl := boxes_plain (bs := bs) (m := kinds) fun b hb => ⟨Nat.le_of_eq (hbs b hb).1, fun s hs => ((hbs b hb).2 s hs).sm ht⟩
      have hne := ne_nilM (g := true) (μ := [M3 a1 b1 c1, .lst xs]) (j := 1) rfl hp hpl.1 (Nat.le_trans hpl.2.1 (by decide))
      have hxl : xs.length = bs.length := by rw [pack_len hp, List.length_map]
      -- the box, drawn near to another one or not
      have eif : ∃ (bx' : Bx) (p : Bool) (a' b' c' : Int), sIf (bAnd (bOf (d2 (cmpVt .NotEq) (dVar 4) (dLst false aNil))) (bOf (d2 (cmpVt .Eq) (dCall d_law_grain 2 false [true, false] (aCons (dVar 0) (aCons (dAtm (.int 2)) aNil))) (dAtm (.int 0))))) (sSet 6 (dFrz 1 (dCall d_law_near 3 false [true, false, false] (aCons (dVar 0) (aCons (d2 ixV (dVar 4) (dCall d_law_grain 2 false [true, false] (aCons (dVar 0) (aCons (dBi lenV (aCons (dVar 4) aNil)) aNil)))) (aCons (dVar 3) aNil)))))) L3.sNil (Γ0 (some t5) (some (.v true (boxD bx))) o7) [M3 a1 b1 c1, .lst xs] =
          some (.nx (Γ0 (some t5) (some (.v p (boxD bx'))) o7) [M3 a' b' c', .lst xs]) ∧ MillOk (n + k * (kinds * 4 + 10)) a' b' c' ∧ BoxIn top kinds bx' := by
        have t1 : bOf (d2 (cmpVt .NotEq) (dVar 4) (dLst false aNil)) (Γ0 (some t5) (some (.v true (boxD bx))) o7) [M3 a1 b1 c1, .lst xs] = some (.ok (!(bs.map boxD).isEmpty) [M3 a1 b1 c1, .lst xs]) := ev_tst (t := .m 1) (ev_var rfl) (ev_lst ev_nil rfl (by decide)) hne
        cases hb0 : bs with
        | nil =>
          rw [hb0] at t1
          exact ⟨bx, true, a1, b1, c1, st_no (ev_andF t1) st_nil, ok1.less (by omega), in1⟩
        | cons b0 br =>
          rw [hb0] at t1
          obtain ⟨k2, a2, b2, c2, e2, ok2, l2⟩ := draw (Γ := Γ0 (some t5) (some (.v true (boxD bx))) o7) (i := 0) (j := 0) (μ := [M3 a1 b1 c1, .lst xs]) (gb := dAtm (.int 2)) 2 (n := n + k * (kinds * 4 + 10) + 9) (ok1.less (by omega)) (by omega) (small100 (by omega)) rfl rfl ev_atm
          have t2 := ev_tst (op := .Eq) e2 (ev_atm (d := .int 0)) (eq_natV k2 0)
          by_cases hk2' : k2 = 0
          · rw [decide_eq_true hk2'] at t2
            have hbl : 0 < bs.length := by rw [hb0]; simp
            obtain ⟨k3, a3, b3, c3, e3, ok3, l3⟩ := draw (Γ := Γ0 (some t5) (some (.v true (boxD bx))) o7) (i := 0) (j := 0) (μ := [M3 a2 b2 c2, .lst xs]) (gb := dBi lenV (aCons (dVar 4) aNil)) bs.length (n := n + k * (kinds * 4 + 10) + 8) ok2 hbl (small100 (by omega)) rfl rfl (by rw [← hxl]; exact ev_lenM (j := 1) (ev_var rfl) rfl)
            obtain ⟨p3, hx3⟩ := pack_get (i := k3) (d := boxD (bs[k3]'l3)) hp (by rw [List.getElem?_map, List.getElem?_eq_getElem l3]; rfl)
            have e4 : d2 ixV (dVar 4) (dCall d_law_grain 2 false [true, false] (aCons (dVar 0) (aCons (dBi lenV (aCons (dVar 4) aNil)) aNil))) (Γ0 (some t5) (some (.v true (boxD bx))) o7) [M3 a2 b2 c2, .lst xs] = some (.ok (.v p3 (boxD (bs[k3]'l3))) [M3 a3 b3 c3, .lst xs]) := ev_ixM (j := 1) (n := k3) (ev_var rfl) e3 rfl rfl hx3
            obtain ⟨bx', xs', q', a4, b4, c4, e5, hp5, ok4, in4⟩ := near_ev top kinds (bs[k3]'l3) false (n := n + k * (kinds * 4 + 10)) (ok3.less (by omega)) ht (hbs _ (List.getElem_mem l3)) hk hk2
            refine ⟨bx', q', a4, b4, c4, st_yes (ev_andT t1 t2) (st_set (frzM_p (μ := [M3 a2 b2 c2, .lst xs]) (j := 0) ?_ hp5 (by show 1 ≤ 2; decide) (low2 hp))), ok4, in4⟩
            exact dCallG (ev_cons (ev_var rfl) (ev_cons e4 (ev_cons (ev_var rfl) ev_nil))) rfl (callM_p (μ := [M3 a3 b3 c3, .lst xs]) (j := 0) (rf := [false, false]) (ts := [.v p3 (boxD (bs[k3]'l3)), intT (top : Nat)]) (us := [.v false (boxD (bs[k3]'l3)), intT (top : Nat)]) rfl rfl rfl e5 hp5)
          · rw [decide_eq_false hk2'] at t2
            exact ⟨bx, true, a2, b2, c2, st_no (ev_andT t1 t2) st_nil, ok2.less (by omega), in1⟩
      obtain ⟨bx', p, a3, b3, c3, e3, ok3, in3⟩ := eif
      refine ⟨Γ0 (some t5) o6 o7, Γ0 (some t5) (some (.v p (boxD bx'))) o7, [M3 a3 b3 c3, .lst (xs ++ [.v p (boxD bx')])], hat, rfl, .inl (st_seq (st_set e1) (st_seq e3 (st_exp (app2 rfl (by omega) (ev_var rfl))))), a3, b3, c3, xs ++ [.v p (boxD bx')], q && p, bs ++ [bx'], some t5, some (.v p (boxD bx')), o7, rfl, rfl, ?_, by rw [hk'']; exact ok3, by rw [List.length_append, hl]; rfl, fun b hb => ?_⟩
      · rw [pack_app (q := p) (es := [boxD bx']) hp (by show some (p && true, [boxD bx']) = _; rw [Bool.and_true]), List.map_append]
        rfl
      · rcases List.mem_append.mp hb with hb | hb
        · exact hbs b hb
        · obtain rfl := List.mem_singleton.mp hb
          exact in3)
  rw [List.length_range] at hl ok2
  refine ⟨bs, xs, q, a2, b2, c2, ?_, hp, ok2.less (by omega), by omega, hbs⟩
  show retD 1 (b_law_drawn 1 [some (.m 0), some (intT (kinds : Nat)), some (intT (count : Nat)), some (intT (top : Nat)), none, none, none, none] [M3 a b c]) = _
  unfold b_law_drawn
  exact rt_ev (st_seq (st_set (ev_lstL ev_nil (by decide))) (st_seq h1 (st_ret (ev_var rfl)))) (ret_m1 m3_low (pack_low hp))
end Qk08

set_option Elab.async false
set_option linter.all false
set_option maxRecDepth 100000
set_option maxHeartbeats 4000000
/-! families: greatest boxes are boxes, their edges come from the cuts -/
namespace Qk08
open PySem PySem.Spec PyProof.Rows L2 L3
/-- boxes whose edges lie in a list of few numbers -/
structure Edged (M : List Int) (n : Nat) (bs : List Bx) : Prop where
  ok : ∀ b ∈ bs, boxOk n b = true
  ed : ∀ b ∈ bs, ∀ s ∈ b, s.1 ∈ M ∧ ∀ h, s.2 = some h → h + 1 ∈ M
theorem Edged.app {M : List Int} {n : Nat} {as bs : List Bx} (ha : Edged M n as) (hb : Edged M n bs) : Edged M n (as ++ bs) :=
  ⟨fun b h => (List.mem_append.mp h).elim (ha.ok b) (hb.ok b), fun b h => (List.mem_append.mp h).elim (ha.ed b) (hb.ed b)⟩
theorem cut_sub {M : List Int} {n : Nat} {bs : List Bx} (h : Edged M n bs) (h0 : (0 : Int) ∈ M) {k : Nat} (hk : k < n) : ∀ x ∈ cutF bs k, x ∈ M := by
  intro x hx
  have hx := ssetI_mem.mp hx
  rcases List.mem_cons.mp hx with rfl | hx
  · exact h0
  · rcases List.mem_append.mp hx with hx | hx
    · obtain ⟨b, hb, rfl⟩ := List.mem_map.mp hx
      exact (h.ed b hb _ (atB_mem (by rw [boxOk_len (h.ok b hb)]; exact hk))).1
    · obtain ⟨b, hb, rfl⟩ := List.mem_map.mp hx
      obtain ⟨hb, hs⟩ := List.mem_filter.mp hb
      obtain ⟨y, hy⟩ := Option.isSome_iff_exists.mp hs
      rw [hy]
      exact (h.ed b hb _ (atB_mem (by rw [boxOk_len (h.ok b hb)]; exact hk))).2 y hy
theorem vol_pow' {m : Nat} {cs : List (List Int)} (h : ∀ row ∈ cs, row.length ≤ m) : volF (lensF cs) ≤ m ^ cs.length := by
  induction cs with
  | nil => exact Nat.le_refl _
  | cons r cs ih =>
    show volF (r.length :: lensF cs) ≤ _
    rw [volF_cons, List.length_cons, Nat.pow_succ, Nat.mul_comm]
    exact Nat.mul_le_mul (ih fun x hx => h x (List.mem_cons_of_mem _ hx)) (h r List.mem_cons_self)
theorem Edged.boxes {M : List Int} {n : Nat} {bs : List Bx} (h : Edged M n bs) (h0 : (0 : Int) ∈ M) (hM : M.length ≤ 15) (hn : 0 < n) (hn3 : n ≤ 3) (hz : bs.length ≤ 8000000) : BoxesOk n bs := by
  have hc : ∀ k, k < n → (cutF bs k).length ≤ 15 := fun k hk => Nat.le_trans (nodup_sub_len (ssetI_nodup _) (cut_sub h h0 hk)) hM
  refine ⟨h.ok, hz, ⟨hn, hn3⟩, fun k hk => by have := hc k hk; omega, ?_⟩
  have h1 := vol_pow' (m := 15) (cs := cutsF n bs) fun row hr => by
    obtain ⟨k, hk, rfl⟩ := List.mem_map.mp (show row ∈ (List.range n).map (cutF bs) from hr)
    exact hc k (List.mem_range.mp hk)
  rw [cuts_len] at h1
  exact Nat.le_trans h1 (Nat.le_trans (Nat.pow_le_pow_right (by decide) hn3) (by decide))
/-- a pair of a rising row -/
theorem getD_at {row : List Int} {k : Nat} (h : k < row.length) : row.getD k 0 = row[k] := by
  rw [List.getD_eq_getElem?_getD, List.getElem?_eq_getElem h]
  rfl
theorem pair_ok {M : List Int} {row : List Int} {r : Nat × Nat} (hr : row.Pairwise (· < ·)) (hM : ∀ x ∈ row, x ∈ M) (h0 : ∀ x ∈ row, 0 ≤ x) (h1 : r.1 < r.2) (h2 : r.2 ≤ row.length) : spanOk (pairF r row) = true ∧ (pairF r row).1 ∈ M ∧ ∀ h, (pairF r row).2 = some h → h + 1 ∈ M := by
  have hl : r.1 < row.length := by omega
  have m1 : row.getD r.1 0 ∈ row := by rw [getD_at hl]; exact List.getElem_mem hl
  unfold pairF
  by_cases he : r.2 = row.length
  · rw [if_pos he]
    refine ⟨?_, hM _ m1, fun h hh => by cases hh⟩
    unfold spanOk
    show (decide (0 ≤ row.getD r.1 0) && true) = true
    rw [decide_eq_true (h0 _ m1)]
    rfl
  · rw [if_neg he]
    have hl2 : r.2 < row.length := by omega
    have m2 : row.getD r.2 0 ∈ row := by rw [getD_at hl2]; exact List.getElem_mem hl2
    have lt : row.getD r.1 0 < row.getD r.2 0 := by
      rw [getD_at hl, getD_at hl2]
      exact List.pairwise_iff_getElem.mp hr r.1 r.2 hl hl2 h1
    have p1 := h0 _ m1
    refine ⟨?_, hM _ m1, fun h hh => ?_⟩
    · unfold spanOk
      have a1 : (0 : Int) ≤ row.getD r.2 0 - 1 := by omega
      have a2 : row.getD r.1 0 ≤ row.getD r.2 0 - 1 := by omega
      show (decide (0 ≤ row.getD r.1 0) && (decide (0 ≤ row.getD r.2 0 - 1) && decide (row.getD r.1 0 ≤ row.getD r.2 0 - 1))) = true
      rw [decide_eq_true p1, decide_eq_true a1, decide_eq_true a2]
      rfl
    · cases hh
      have : row.getD r.2 0 - 1 + 1 = row.getD r.2 0 := by omega
      rw [this]
      exact hM _ m2
/-- rows that rise from zero, their numbers in a list -/
structure Rows (M : List Int) (cs : List (List Int)) : Prop where
  up : ∀ row ∈ cs, row.Pairwise (· < ·)
  sub : ∀ row ∈ cs, ∀ x ∈ row, x ∈ M
  pos : ∀ x ∈ M, (0 : Int) ≤ x
theorem cuts_rows {M : List Int} {n : Nat} {bs : List Bx} (h : Edged M n bs) (h0 : (0 : Int) ∈ M) (hp : ∀ x ∈ M, (0 : Int) ≤ x) : Rows M (cutsF n bs) := by
  refine ⟨fun row hr => ?_, fun row hr => ?_, hp⟩
  · obtain ⟨k, hk, rfl⟩ := List.mem_map.mp (show row ∈ (List.range n).map (cutF bs) from hr)
    exact ssetI_lt _
  · obtain ⟨k, hk, rfl⟩ := List.mem_map.mp (show row ∈ (List.range n).map (cutF bs) from hr)
    exact cut_sub h h0 (List.mem_range.mp hk)
theorem great_edged {M : List Int} {cs : List (List Int)} (R : Rows M cs) (hc : 0 < cs.length) (c : Int) : Edged M cs.length (greatF cs c) ∧ (greatF cs c).length ≤ volF (lensF cs) * volF (lensF cs) := by
  have hb : (blksF cs c).length ≤ volF (lensF cs) * volF (lensF cs) ∧ ∀ b ∈ blksF cs c, RngIn (lensF cs) b.1 := by
    unfold blksF
    cases cs with
    | nil => exact absurd hc (by decide)
    | cons row cs =>
      show (blkI row.length (lensF cs) c).length ≤ volF (row.length :: lensF cs) * volF (row.length :: lensF cs) ∧ ∀ b ∈ blkI row.length (lensF cs) c, RngIn (row.length :: lensF cs) b.1
      obtain ⟨h1, h2⟩ := blkI_ok row.length (lensF cs) c
      exact ⟨h1, fun b hb => (h2 b hb).2⟩
  have key : ∀ b ∈ greatF cs c, b.length = cs.length ∧ ∀ s ∈ b, spanOk s = true ∧ s.1 ∈ M ∧ ∀ h, s.2 = some h → h + 1 ∈ M := by
    intro b hbm
    obtain ⟨bl, hbl, rfl⟩ := List.mem_map.mp hbm
    obtain ⟨l1, l2⟩ := hb.2 bl hbl
    have hlen : (lensF cs).length = cs.length := List.length_map ..
    refine ⟨by unfold boxOfF; rw [List.length_map, List.length_zip, l1, hlen, Nat.min_self], fun s hs => ?_⟩
    obtain ⟨p, hp, rfl⟩ := List.mem_map.mp hs
    obtain ⟨q1, q2⟩ := l2 _ (zip_lens _ _ _ hp)
    have hr : p.2 ∈ cs := (List.of_mem_zip hp).2
    exact pair_ok (R.up _ hr) (R.sub _ hr) (fun x hx => R.pos x (R.sub _ hr x hx)) q1 q2
  refine ⟨⟨fun b hbm => ?_, fun b hbm s hs => (key b hbm).2 s hs |>.2⟩, by unfold greatF; rw [List.length_map]; exact hb.1⟩
  obtain ⟨k1, k2⟩ := key b hbm
  unfold boxOk
  rw [decide_eq_true k1, Bool.true_and, List.all_eq_true]
  exact fun s hs => (k2 s hs).1
/-- few edges: a family's boxes -/
structure FewM (M : List Int) (n : Nat) : Prop where
  zero : (0 : Int) ∈ M
  len : M.length ≤ 15
  pos : ∀ x ∈ M, (0 : Int) ≤ x
  vol : M.length ^ n ≤ 2000
  kinds : 0 < n ∧ n ≤ 3
section
variable {M : List Int} {n : Nat} {bs : List Bx}
theorem vol_few (F : FewM M n) (h : Edged M n bs) : volF (lensF (cutsF n bs)) ≤ 2000 := by
  have h1 := vol_pow' (m := M.length) (cs := cutsF n bs) fun row hr => by
    obtain ⟨k, hk, rfl⟩ := List.mem_map.mp (show row ∈ (List.range n).map (cutF bs) from hr)
    exact nodup_sub_len (ssetI_nodup _) (cut_sub h F.zero (List.mem_range.mp hk))
  rw [cuts_len] at h1
  exact Nat.le_trans h1 F.vol
theorem great_few (F : FewM M n) (h : Edged M n bs) (c : Int) : Edged M n (greatF (cutsF n bs) c) ∧ (greatF (cutsF n bs) c).length ≤ 4000000 := by
  have := great_edged (cuts_rows h F.zero F.pos) (by rw [cuts_len]; exact F.kinds.1) c
  rw [cuts_len] at this
  refine ⟨this.1, Nat.le_trans this.2 ?_⟩
  have hv := vol_few F h
  exact Nat.le_trans (Nat.mul_le_mul hv hv) (by decide)
theorem Edged.boxes' (F : FewM M n) (h : Edged M n bs) (hz : bs.length ≤ 8000000) : BoxesOk n bs := h.boxes F.zero F.len F.kinds.1 F.kinds.2 hz
/-- a family's boxes -/
theorem fam_few (F : FewM M n) (h : Edged M n bs) : Edged M n (famF n bs) ∧ (famF n bs).length ≤ 4000000 := great_few F h _
end
end Qk08

set_option Elab.async false
set_option linter.all false
set_option maxRecDepth 100000
set_option maxHeartbeats 4000000
/-! families: signs between two -/
namespace Qk08
open PySem PySem.Spec PyProof.Rows L2 L3
section
variable {Γ Γ1 Γ2 : Gam} {μ μ1 μ2 : Mu} {ge : De} {t : T} {c i m0 : Nat}
theorem st_setX (h : ge Γ μ = some (.exc c t μ1)) : sSet i ge Γ μ = some (.ex Γ c t μ1) := by unfold sSet; rw [h]; rfl
theorem st_expX (h : ge Γ μ = some (.exc c t μ1)) : sExp ge Γ μ = some (.ex Γ c t μ1) := by unfold sExp; rw [h]; rfl
theorem try_ok {b : Ds} {h : Nat → T → Ds} (hb : b Γ μ = some (.nx Γ1 μ1)) : sTry i b h Γ μ = some (.nx Γ1 μ1) := by unfold sTry; rw [hb]
theorem try_ex {b : Ds} {h : Nat → T → Ds} (hb : b Γ μ = some (.ex Γ1 c t μ1)) (hi : i < Γ1.length) (hh : h c t (Γ1.set i none) μ1 = some (.nx Γ2 μ2)) : sTry i b h Γ μ = some (.nx (Γ2.set i none) μ2) := by
  unfold sTry
  rw [hb]
  show (if i < Γ1.length then match h c t (Γ1.set i none) μ1 with | some (.nx Γ2 μ2) => some (Eo.nx (Γ2.set i none) μ2) | some (.rt u μ2) => some (Eo.rt u μ2) | _ => none else none) = _
  rw [if_pos hi, hh]
theorem frzX (h : ge Γ μ = some (.exc c t μ1)) : dFrz m0 ge Γ μ = some (.exc c t μ1) := by unfold dFrz; rw [h]; rfl
theorem setAll_nil (μ : Mu) (cs : Mu) : setAll μ [] cs = μ := by cases cs <;> rfl
variable {gd : List T → Mu → Ot T} {n : Nat} {rf : List Bool} {ts us : List T} {da : Da} {f : Bool} {d : D} {ds : List D}
theorem callX (hrf : refsOf rf ts = []) (ha : argsIn μ false rf ts 0 = some us) (hg : gd us [] = some (.exc c (.v f d) [])) : callD gd false rf ts μ = some (.exc c (.v f d) μ) := by
  unfold callD
  rw [hrf]
  show (match argsIn μ false rf ts 0 with | some us => if ([] : List Nat).Nodup then match cellsAt μ [] with | some cs => back false [] μ (gd us cs) | none => none else none | none => none) = _
  rw [ha]
  show (if ([] : List Nat).Nodup then back false [] μ (gd us []) else none) = _
  rw [if_pos List.nodup_nil, hg]
  show some (Rs.exc c (T.v f d) (setAll μ [] [] ++ [])) = _
  rw [setAll_nil, List.append_nil]
theorem ev_callX (h : da Γ μ = some (.ok ts μ)) (hn : ts.length = n) (hrf : refsOf rf ts = []) (ha : argsIn μ false rf ts 0 = some us) (hg : gd us [] = some (.exc c (.v f d) [])) : dCall gd n false rf da Γ μ = some (.exc c (.v f d) μ) := by
  unfold dCall; rw [h]
  show (if ts.length = n then callD gd false rf ts μ else none) = _
  rw [if_pos hn, callX hrf ha hg]
theorem ev_callM (h : da Γ μ = some (.ok ts μ)) (hn : ts.length = n) (hrf : refsOf rf ts = []) (ha : argsIn μ false rf ts 0 = some us) (hg : gd us [] = some (.ok (.m 0) [.lst (ds.map (T.v true))])) : dCall gd n false rf da Γ μ = some (.ok (.m μ.length) (μ ++ [.lst (ds.map (T.v true))])) := by
  unfold dCall; rw [h]
  show (if ts.length = n then callD gd false rf ts μ else none) = _
  rw [if_pos hn, call_l hrf ha hg]
end
theorem fam_kinds {Γ : Gam} {μ : Mu} {i n : Nat} {f : Bool} {bs : List Bx} (h : Γ[i]? = some (some (.v f (famD n bs)))) : d1 (fldV 0 0) (dVar i) Γ μ = some (.ok (intT (n : Nat)) μ) := ev_d1 (ev_var h) (by show some (mkT f (.int (n : Nat)), μ) = _; rw [mkT_int])
theorem fam_boxes {Γ : Gam} {μ : Mu} {i n : Nat} {f : Bool} {bs : List Bx} (h : Γ[i]? = some (some (.v f (famD n bs)))) : d1 (fldV 0 1) (dVar i) Γ μ = some (.ok (.v f (boxesD bs)) μ) := ev_d1 (ev_var h) (by show some (mkT f (boxesD bs), μ) = _; unfold boxesD; rw [mkT_lst])
def twoD (n m : Nat) : D := .tup [.int (n : Nat), .int (m : Nat)]
theorem alike_ok (n : Nat) : d_check_alike [intT (n : Nat), intT (n : Nat)] [] = some (.ok (.v true .non) []) := by
  show retD 0 (b_check_alike 0 [some (intT (n : Nat)), some (intT (n : Nat))] []) = _
  unfold b_check_alike
  exact nx_ev (μ := []) (Γ1 := [some (intT (n : Nat)), some (intT (n : Nat))]) (st_no (ev_tst (ev_var rfl) (ev_var rfl) (by rw [ne_natV, decide_eq_true rfl]; rfl)) st_nil) rfl
theorem alike_bad {n m : Nat} (h : n ≠ m) : d_check_alike [intT (n : Nat), intT (m : Nat)] [] = some (.exc 2 (.v true (twoD n m)) []) := by
  show retD 0 (b_check_alike 0 [some (intT (n : Nat)), some (intT (m : Nat))] []) = _
  unfold b_check_alike
  rw [st_yes (μ1 := []) (ev_tst (ev_var rfl) (ev_var rfl) (by rw [ne_natV, decide_eq_false h]; rfl)) (st_raise (t := .v true (twoD n m)) (ev_tup (f := true) (ts := [intT (n : Nat), intT (m : Nat)]) (ev_cons (ev_var rfl) (ev_cons (ev_var rfl) ev_nil)) rfl (by show 2 ≤ 64; decide)))]
  rfl
section
variable {n m : Nat} {as bs : List Bx} {f g : Bool}
abbrev oG (n m : Nat) (as bs : List Bx) (f g : Bool) (os : List (Option T)) : Gam := some (.v f (famD n as)) :: some (.v g (famD m bs)) :: os
theorem alike_st (os : List (Option T)) (μ : Mu) : sExp (dCall d_check_alike 2 false [false, false] (aCons (d1 (fldV 0 0) (dVar 0)) (aCons (d1 (fldV 0 0) (dVar 1)) aNil))) (oG n n as bs f g os) μ = some (.nx (oG n n as bs f g os) μ) :=
  st_exp (ev_call (us := [intT (n : Nat), intT (n : Nat)]) (ev_cons (fam_kinds rfl) (ev_cons (fam_kinds rfl) ev_nil)) rfl rfl rfl (alike_ok n))
theorem alike_stX (h : n ≠ m) (os : List (Option T)) (μ : Mu) : sExp (dCall d_check_alike 2 false [false, false] (aCons (d1 (fldV 0 0) (dVar 0)) (aCons (d1 (fldV 0 0) (dVar 1)) aNil))) (oG n m as bs f g os) μ = some (.ex (oG n m as bs f g os) 2 (.v true (twoD n m)) μ) :=
  st_expX (ev_callX (us := [intT (n : Nat), intT (m : Nat)]) (ev_cons (fam_kinds rfl) (ev_cons (fam_kinds rfl) ev_nil)) rfl rfl rfl (alike_bad h))
theorem shared_ev (S : BoxesOk n (as ++ bs)) : d_shared_cuts [.v f (famD n as), .v g (famD n bs)] [] = some (.ok (.m 0) [.lst (((cutsF n (as ++ bs)).map intsD).map (T.v true))]) := by
  show retD 0 (b_shared_cuts 0 (oG n n as bs f g []) []) = _
  unfold b_shared_cuts
  obtain ⟨q, e, _⟩ := ev_catL (ga := d1 (fldV 0 1) (dVar 0)) (gb := d1 (fldV 0 1) (dVar 1)) (Γ := oG n n as bs f g []) (μ := []) (f := f) (g := g) (xs := as.map boxD) (ys := bs.map boxD) (fam_boxes rfl) (fam_boxes rfl) (by
    have := S.many
    rw [List.length_append] at this
    rw [List.length_map, List.length_map, sizeLine_eq]
    omega)
  rw [← List.map_append] at e
  have e2 := ev_callM (gd := d_cuts_of) (n := 2) (rf := [false, false]) (us := [intT (n : Nat), .v false (boxesD (as ++ bs))]) (ev_cons (fam_kinds (i := 0) (Γ := oG n n as bs f g []) (μ := []) rfl) (ev_cons e ev_nil)) rfl rfl rfl (cuts_ev n (as ++ bs) false (fun b hb => Nat.le_of_eq (boxOk_len (S.ok b hb)).symm) S.many S.few (by have := S.kinds; omega))
  exact rt_ev (st_seq (alike_st [] []) (st_ret e2)) (ret_c _)
theorem shared_bad (h : n ≠ m) : d_shared_cuts [.v f (famD n as), .v g (famD m bs)] [] = some (.exc 2 (.v true (twoD n m)) []) := by
  show retD 0 (b_shared_cuts 0 (oG n m as bs f g []) []) = _
  unfold b_shared_cuts
  rw [st_ex (alike_stX h [] [])]
  rfl
theorem make_ev {Γ : Gam} {q : Bool} {gb ga : De} (S : BoxesOk n bs) (h1 : ga Γ [] = some (.ok (intT (n : Nat)) [])) (h2 : gb Γ [] = some (.ok (.v q (boxesD bs)) [])) : dMake d_Family_init 3 0 2 false false [false, false] 0 (aCons ga (aCons gb aNil)) Γ [] = some (.ok (.v true (famD n (famF n bs))) []) :=
  ev_make (ev_cons h1 (ev_cons h2 ev_nil)) rfl (mk_ev (g := d_Family_init) (c := 0) (ar := 2) (rf := [false, false]) (ts := [intT (n : Nat), .v q (boxesD bs)]) (us := [intT (n : Nat), .v false (boxesD bs)]) (μ := []) (m0 := 0) (ds := [.int (n : Nat), boxesD (famF n bs)]) rfl rfl (family_init_ev S false) rfl (Nat.zero_le _) rfl)
theorem or_fam {M : List Int} (F : FewM M n) (ha : Edged M n as) (hb : Edged M n bs) (hz : as.length + bs.length ≤ 8000000) : d_Family_or [.v f (famD n as), .v g (famD n bs)] [] = some (.ok (.v true (famD n (famF n (as ++ bs)))) []) := by
  show retD 0 (b_Family_or 0 (oG n n as bs f g []) []) = _
  unfold b_Family_or
  have hl : (as ++ bs).length ≤ 8000000 := by rw [List.length_append]; exact hz
  obtain ⟨q, e, _⟩ := ev_catL (ga := d1 (fldV 0 1) (dVar 0)) (gb := d1 (fldV 0 1) (dVar 1)) (Γ := oG n n as bs f g []) (μ := []) (f := f) (g := g) (xs := as.map boxD) (ys := bs.map boxD) (fam_boxes rfl) (fam_boxes rfl) (by
    rw [List.length_map, List.length_map, sizeLine_eq]
    omega)
  rw [← List.map_append] at e
  exact rt_ev (st_seq (alike_st [] []) (st_ret (make_ev ((ha.app hb).boxes' F hl) (fam_kinds rfl) e))) (ret_v0 _ _ _)
theorem or_bad (h : n ≠ m) : d_Family_or [.v f (famD n as), .v g (famD m bs)] [] = some (.exc 2 (.v true (twoD n m)) []) := by
  show retD 0 (b_Family_or 0 (oG n m as bs f g []) []) = _
  unfold b_Family_or
  rw [st_ex (alike_stX h [] [])]
  rfl
/-- the boxes of cells, made a family -/
def cellF (n : Nat) (as bs : List Bx) (c : Int) : List Bx := famF n (greatF (cutsF n (as ++ bs)) c)
theorem cut_st (S : BoxesOk n (as ++ bs)) (o3 : Option T) : sSet 2 (dFrz 0 (dCall d_shared_cuts 2 false [false, false] (aCons (dVar 0) (aCons (dVar 1) aNil)))) (oG n n as bs f g [none, o3]) [] = some (.nx (oG n n as bs f g [some (.v true (cutsD (cutsF n (as ++ bs)))), o3]) []) :=
  st_set (ev_callL (ds := (cutsF n (as ++ bs)).map intsD) (us := [.v false (famD n as), .v false (famD n bs)]) (ev_cons (ev_var rfl) (ev_cons (ev_var rfl) ev_nil)) rfl rfl rfl (shared_ev S) (Nat.zero_le _) rfl)
theorem cut_stX (h : n ≠ m) (o3 : Option T) : sSet 2 (dFrz 0 (dCall d_shared_cuts 2 false [false, false] (aCons (dVar 0) (aCons (dVar 1) aNil)))) (oG n m as bs f g [none, o3]) [] = some (.ex (oG n m as bs f g [none, o3]) 2 (.v true (twoD n m)) []) :=
  st_setX (frzX (ev_callX (us := [.v false (famD n as), .v false (famD m bs)]) (ev_cons (ev_var rfl) (ev_cons (ev_var rfl) ev_nil)) rfl rfl rfl (shared_bad h)))
theorem cells_at {i : Nat} {cs : List Bx} {q : Bool} {Γ : Gam} {us : List Bx} (S : BoxesOk n us) (hc : ∀ b ∈ cs, b ∈ us) (h0 : Γ[i]? = some (some (.v q (famD n cs)))) (h2 : Γ[2]? = some (some (.v true (cutsD (cutsF n us))))) :
    dCall d_cells_of 2 false [false, false] (aCons (d1 (fldV 0 1) (dVar i)) (aCons (dVar 2) aNil)) Γ [] = some (.ok (intT (cellsF (cutsF n us) cs)) []) :=
  ev_call (us := [.v false (boxesD cs), .v false (cutsD (cutsF n us))]) (ev_cons (fam_boxes h0) (ev_cons (ev_var h2) ev_nil)) rfl rfl rfl (cells_of_ev (cutsF n us) cs false false (few_of S).ok fun b hb => fit_of S b (hc b hb))
theorem great_at {M : List Int} {us : List Bx} {Γ : Gam} {c : Int} (F : FewM M n) (h : Edged M n us) (S : BoxesOk n us) (h2 : Γ[2]? = some (some (.v true (cutsD (cutsF n us))))) (h3 : Γ[3]? = some (some (intT c))) {ga : De} (hk : ga Γ [] = some (.ok (intT (n : Nat)) [])) :
    dMake d_Family_init 3 0 2 false false [false, false] 0 (aCons ga (aCons (dFrz 0 (dCall d_greatest_boxes 2 false [false, false] (aCons (dVar 3) (aCons (dVar 2) aNil)))) aNil)) Γ [] = some (.ok (.v true (famD n (famF n (greatF (cutsF n us) c)))) []) := by
  obtain ⟨h4, h5⟩ := great_few F h c
  exact make_ev (h4.boxes' F (by omega)) hk (ev_callL (ds := (greatF (cutsF n us) c).map boxD) (us := [intT c, .v false (cutsD (cutsF n us))]) (ev_cons (ev_var h3) (ev_cons (ev_var h2) ev_nil)) rfl rfl rfl (greatest_ev (cutsF n us) false (few_of S) c) (Nat.zero_le _) rfl)
theorem and_fam {M : List Int} (F : FewM M n) (ha : Edged M n as) (hb : Edged M n bs) (hz : as.length + bs.length ≤ 8000000) : ∃ c, d_Family_and [.v f (famD n as), .v g (famD n bs)] [] = some (.ok (.v true (famD n (cellF n as bs c))) []) := by
  have hl : (as ++ bs).length ≤ 8000000 := by rw [List.length_append]; exact hz
  have S := (ha.app hb).boxes' F hl
  refine ⟨Builtin.bitAnd (cellsF (cutsF n (as ++ bs)) as) (cellsF (cutsF n (as ++ bs)) bs), ?_⟩
  show retD 0 (b_Family_and 0 (oG n n as bs f g [none, none]) []) = _
  unfold b_Family_and
  exact rt_ev (st_seq (cut_st S none) (st_seq (st_set (ev_bin (cells_at S (fun b h => List.mem_append_left _ h) rfl rfl) (cells_at S (fun b h => List.mem_append_right _ h) rfl rfl) rfl)) (st_ret (great_at F (ha.app hb) S rfl rfl (fam_kinds rfl))))) (ret_v0 _ _ _)
theorem sub_fam {M : List Int} (F : FewM M n) (ha : Edged M n as) (hb : Edged M n bs) (hz : as.length + bs.length ≤ 8000000) : ∃ c, d_Family_sub [.v f (famD n as), .v g (famD n bs)] [] = some (.ok (.v true (famD n (cellF n as bs c))) []) := by
  have hl : (as ++ bs).length ≤ 8000000 := by rw [List.length_append]; exact hz
  have S := (ha.app hb).boxes' F hl
  refine ⟨Builtin.bitAnd (cellsF (cutsF n (as ++ bs)) as) (-(cellsF (cutsF n (as ++ bs)) bs) - 1), ?_⟩
  show retD 0 (b_Family_sub 0 (oG n n as bs f g [none, none]) []) = _
  unfold b_Family_sub
  exact rt_ev (st_seq (cut_st S none) (st_seq (st_set (ev_bin (cells_at S (fun b h => List.mem_append_left _ h) rfl rfl) (ev_d1 (cells_at S (fun b h => List.mem_append_right _ h) rfl rfl) rfl) rfl)) (st_ret (great_at F (ha.app hb) S rfl rfl (fam_kinds rfl))))) (ret_v0 _ _ _)
theorem and_bad (h : n ≠ m) : d_Family_and [.v f (famD n as), .v g (famD m bs)] [] = some (.exc 2 (.v true (twoD n m)) []) := by
  show retD 0 (b_Family_and 0 (oG n m as bs f g [none, none]) []) = _
  unfold b_Family_and
  rw [st_ex (cut_stX h none)]
  rfl
theorem sub_bad (h : n ≠ m) : d_Family_sub [.v f (famD n as), .v g (famD m bs)] [] = some (.exc 2 (.v true (twoD n m)) []) := by
  show retD 0 (b_Family_sub 0 (oG n m as bs f g [none, none]) []) = _
  unfold b_Family_sub
  rw [st_ex (cut_stX h none)]
  rfl
end
end Qk08

set_option Elab.async false
set_option linter.all false
set_option maxRecDepth 100000
set_option maxHeartbeats 4000000
/-! families: within, ==, made of told boxes -/
namespace Qk08
open PySem PySem.Spec PyProof.Rows L2 L3
theorem span_items {μ : Mu} {f : Bool} (s : Span) : items μ (.v f (spanD s)) = some (false, [intT s.1, .v true (hiD s.2)]) := by
  show some (false, [mkT f (.int s.1), mkT f (hiD s.2)]) = _
  rw [mkT_int, mkT_atom (hi_atom _)]
theorem gTpS {i j : Nat} {f : Bool} {s : Span} {Γ : Gam} {μ : Mu} : gTp 2 (gsCons (gNm i) (gsCons (gNm j) gsNil)) (.one (.v f (spanD s))) Γ μ = some ((Γ.set i (some (intT s.1))).set j (some (.v true (hiD s.2)))) := by
  unfold gTp
  simp only [span_items s]
  rfl
theorem gTpSS {f g : Bool} {s t : Span} {Γ : Gam} {μ : Mu} : gTp 2 (gsCons (gTp 2 (gsCons (gNm 2) (gsCons (gNm 3) gsNil))) (gsCons (gTp 2 (gsCons (gNm 4) (gsCons (gNm 5) gsNil))) gsNil)) (.two (.v f (spanD s)) (.v g (spanD t))) Γ μ =
    some ((((Γ.set 2 (some (intT s.1))).set 3 (some (.v true (hiD s.2)))).set 4 (some (intT t.1))).set 5 (some (.v true (hiD t.2)))) := by
  show (match gTp 2 (gsCons (gNm 2) (gsCons (gNm 3) gsNil)) (.one (.v f (spanD s))) Γ μ with | some Γ1 => (match gTp 2 (gsCons (gNm 4) (gsCons (gNm 5) gsNil)) (.one (.v g (spanD t))) Γ1 μ with | some Γ2 => some Γ2 | none => none) | none => none) = _
  rw [gTpS]
  show (match gTp 2 (gsCons (gNm 4) (gsCons (gNm 5) gsNil)) (.one (.v g (spanD t))) _ μ with | some Γ2 => some Γ2 | none => none) = _
  rw [gTpS]
theorem gt_hi {μ : Mu} (a b : Option Int) (ha : a.isSome = true) (hb : b.isSome = true) : ∃ k, cmpV .Gt μ (.v true (hiD a)) (.v true (hiD b)) = some k := by
  cases a with
  | none => cases ha
  | some x =>
    cases b with
    | none => cases hb
    | some y => exact ⟨_, rfl⟩
section
variable {f g : Bool} {b w : Bx}
abbrev lG (f g : Bool) (b w : Bx) (o2 o3 o4 o5 : Option T) : Gam := [some (.v f (boxD b)), some (.v g (boxD w)), o2, o3, o4, o5]
noncomputable abbrev lB : Ds := sIf (bOr (bOf (d2 (cmpVt .Lt) (dVar 2) (dVar 4))) (bAnd (bOf (d2 (cmpVt .IsNot) (dVar 5) (dAtm .non))) (bOr (bOf (d2 (cmpVt .Is) (dVar 3) (dAtm .non))) (bOf (d2 (cmpVt .Gt) (dVar 3) (dVar 5)))))) (sRet (dAtm (.bl false))) L3.sNil
theorem lies_step (s t : Span) : ∃ k : Bool, lB (lG f g b w (some (intT s.1)) (some (.v true (hiD s.2))) (some (intT t.1)) (some (.v true (hiD t.2)))) [] = if k then some (.rt (.v true (.bl false)) []) else some (.nx (lG f g b w (some (intT s.1)) (some (.v true (hiD s.2))) (some (intT t.1)) (some (.v true (hiD t.2)))) []) := by
  let Γ : Gam := lG f g b w (some (intT s.1)) (some (.v true (hiD s.2))) (some (intT t.1)) (some (.v true (hiD t.2)))
  have e3 : ∃ k3, bAnd (bOf (d2 (cmpVt .IsNot) (dVar 5) (dAtm .non))) (bOr (bOf (d2 (cmpVt .Is) (dVar 3) (dAtm .non))) (bOf (d2 (cmpVt .Gt) (dVar 3) (dVar 5)))) Γ [] = some (.ok k3 []) := by
    have t5 : bOf (d2 (cmpVt .IsNot) (dVar 5) (dAtm .non)) Γ [] = some (.ok t.2.isSome []) := ev_tst (ev_var rfl) ev_atm (is_not_none _)
    cases h5 : t.2.isSome with
    | false =>
      rw [h5] at t5
      exact ⟨_, ev_andF t5⟩
    | true =>
      rw [h5] at t5
      have t3 : bOf (d2 (cmpVt .Is) (dVar 3) (dAtm .non)) Γ [] = some (.ok s.2.isNone []) := ev_tst (ev_var rfl) ev_atm (is_none _)
      cases h3 : s.2.isNone with
      | true =>
        rw [h3] at t3
        exact ⟨_, ev_andT t5 (ev_or (c := true) t3 fun h => by cases h)⟩
      | false =>
        rw [h3] at t3
        obtain ⟨k, hk⟩ := gt_hi (μ := []) s.2 t.2 (by cases hs : s.2 with | none => rw [hs] at h3; cases h3 | some x => rfl) h5
        exact ⟨_, ev_andT t5 (ev_or t3 fun _ => ev_tst (ev_var rfl) (ev_var rfl) hk)⟩
  obtain ⟨k3, e3⟩ := e3
  have e := ev_or (ev_tst (b := decide (s.1 < t.1)) (ga := dVar 2) (gb := dVar 4) (Γ := Γ) (μ := []) (op := .Lt) (ev_var rfl) (ev_var rfl) rfl) fun _ => e3
  refine ⟨decide (s.1 < t.1) || k3, ?_⟩
  cases hk : decide (s.1 < t.1) || k3 with
  | true =>
    rw [hk] at e
    exact st_yes e (st_ret ev_atm)
  | false =>
    rw [hk] at e
    exact st_no e st_nil
theorem zip_at {μ : Mu} {i : Nat} (h : i < b.length) (h2 : i < w.length) : (ItV.zip true (.v f (boxD b)) (.v g (boxD w)) (b.map spanD).length (w.map spanD).length).at μ i = some (.two (.v f (spanD b[i])) (.v g (spanD w[i]))) := by
  have e1 : mkT f (spanD b[i]) = .v f (spanD b[i]) := mkT_tup
  have e2 : mkT g (spanD w[i]) = .v g (spanD w[i]) := mkT_tup
  rw [← e1, ← e2]
  simp [ItV.at, itemsN, boxD, h, h2]
theorem zip_ok {μ : Mu} : (ItV.zip true (.v f (boxD b)) (.v g (boxD w)) (b.map spanD).length (w.map spanD).length).ok μ = true := by simp [ItV.ok, itemsN, boxD]
theorem lies_run : ∀ (k i : Nat) (o2 o3 o4 o5 : Option T), i + k = min b.length w.length → ∃ o2' o3' o4' o5', forD (.zip true (.v f (boxD b)) (.v g (boxD w)) (b.map spanD).length (w.map spanD).length) (gTp 2 (gsCons (gTp 2 (gsCons (gNm 2) (gsCons (gNm 3) gsNil))) (gsCons (gTp 2 (gsCons (gNm 4) (gsCons (gNm 5) gsNil))) gsNil))) lB k i (lG f g b w o2 o3 o4 o5) [] = some (.nx (lG f g b w o2' o3' o4' o5') []) ∨
    forD (.zip true (.v f (boxD b)) (.v g (boxD w)) (b.map spanD).length (w.map spanD).length) (gTp 2 (gsCons (gTp 2 (gsCons (gNm 2) (gsCons (gNm 3) gsNil))) (gsCons (gTp 2 (gsCons (gNm 4) (gsCons (gNm 5) gsNil))) gsNil))) lB k i (lG f g b w o2 o3 o4 o5) [] = some (.rt (.v true (.bl false)) [])
  | 0, i, o2, o3, o4, o5, _ => ⟨o2, o3, o4, o5, .inl (forD_0 zip_ok)⟩
  | k + 1, i, o2, o3, o4, o5, hi => by
    have h1 : i < b.length := by omega
    have h2 : i < w.length := by omega
    obtain ⟨kk, hk⟩ := lies_step (f := f) (g := g) (b := b) (w := w) b[i] w[i]
    cases kk with
    | true =>
      rw [if_pos rfl] at hk
      exact ⟨none, none, none, none, .inr (forD_rt zip_ok (zip_at h1 h2) gTpSS hk)⟩
    | false =>
      rw [if_neg Bool.false_ne_true] at hk
      obtain ⟨p2, p3, p4, p5, ih⟩ := lies_run k (i + 1) (some (intT (b[i]).1)) (some (.v true (hiD (b[i]).2))) (some (intT (w[i]).1)) (some (.v true (hiD (w[i]).2))) (by omega)
      refine ⟨p2, p3, p4, p5, ?_⟩
      rw [forD_nx zip_ok (zip_at h1 h2) gTpSS hk]
      exact ih
theorem lies_ev (f g : Bool) (b w : Bx) : ∃ k, d_lies_within [.v f (boxD b), .v g (boxD w)] [] = some (.ok (blT k) []) := by
  obtain ⟨o2, o3, o4, o5, h⟩ := lies_run (f := f) (g := g) (b := b) (w := w) (min b.length w.length) 0 none none none none (by omega)
  have it : iZipD (aCons (dVar 0) (aCons (dVar 1) aNil)) (lG f g b w none none none none) [] = some (.ok (.zip true (.v f (boxD b)) (.v g (boxD w)) (b.map spanD).length (w.map spanD).length) []) := by
    unfold iZipD
    rw [ev_cons (ev_var rfl) (ev_cons (ev_var rfl) ev_nil)]
    show (match items [] (.v f (boxD b)), items [] (.v g (boxD w)) with | some (b', xs), some (b'', ys) => if b' = b'' then some (Rs.ok (ItV.zip b' (.v f (boxD b)) (.v g (boxD w)) xs.length ys.length) []) else none | _, _ => none) = _
    unfold boxD
    rw [items_lst, items_lst]
    simp
  have hlen : (ItV.zip true (T.v f (boxD b)) (T.v g (boxD w)) (b.map spanD).length (w.map spanD).length).len = min b.length w.length := by simp [ItV.len]
  rcases h with h | h
  · refine ⟨true, ?_⟩
    show retD 0 (b_lies_within 0 (lG f g b w none none none none) []) = _
    unfold b_lies_within
    exact rt_ev (st_seq (for_ev it (by rw [hlen]; exact h)) (st_ret ev_atm)) (ret_v0 _ _ _)
  · refine ⟨false, ?_⟩
    show retD 0 (b_lies_within 0 (lG f g b w none none none none) []) = _
    unfold b_lies_within
    exact rt_ev (st_rt (for_ev it (by rw [hlen]; exact h))) (ret_v0 _ _ _)
end
noncomputable def liesF (b w : Bx) : Bool := Classical.choose (lies_ev false false b w)
theorem liesF_ev (b w : Bx) : d_lies_within [.v false (boxD b), .v false (boxD w)] [] = some (.ok (blT (liesF b w)) []) := Classical.choose_spec (lies_ev false false b w)
end Qk08

set_option Elab.async false
set_option linter.all false
set_option maxRecDepth 100000
set_option maxHeartbeats 4000000
/-! families: within, ==, made of told boxes -/
namespace Qk08
open PySem PySem.Spec PyProof.Rows L2 L3
theorem any_map' {α : Type} (P : α → Bool) : ∀ l : List α, (l.map P).any id = l.any P
  | [] => rfl
  | x :: l => by
    rw [List.map_cons, List.any_cons, List.any_cons, any_map' P l]
    rfl
theorem st_exp' {Γ : Gam} {μ : Mu} : True := trivial
section
variable {n m : Nat} {as bs : List Bx} {f g : Bool}
abbrev wG (n m : Nat) (as bs : List Bx) (f g : Bool) (o2 o3 : Option T) : Gam := oG n m as bs f g [o2, o3]
noncomputable abbrev wB : Ds := sIf (bNot (bTru (dBi (onBools fun bs => bs.any id) (aCons (dLc false 0 (iSeq true (d1 (fldV 0 1) (dVar 1))) (gNm 3) bYes (dFrz 0 (dCall d_lies_within 2 false [false, false] (aCons (dVar 2) (aCons (dVar 3) aNil)))) [3]) aNil)))) (sRet (dAtm (.bl false))) L3.sNil
theorem within_step (hz : bs.length ≤ 8000000) (b : Bx) (o3 : Option T) : wB (wG n n as bs f g (some (.v f (boxD b))) o3) [] = if bs.any (liesF b) then some (.nx (wG n n as bs f g (some (.v f (boxD b))) o3) []) else some (.rt (.v true (.bl false)) []) := by
  have e := dlc_genF (m0 := 0) (l := bs) (it := iSeq true (d1 (fldV 0 1) (dVar 1))) (g := gNm 3) (c := bYes) (e := dFrz 0 (dCall d_lies_within 2 false [false, false] (aCons (dVar 2) (aCons (dVar 3) aNil)))) (own := [3]) (Γ := wG n n as bs f g (some (.v f (boxD b))) o3) (μ := []) (y := fun w => .one (.v g (boxD w))) (P := fun _ => true) (E := fun w => .bl (liesF b w))
    (it_lst (fam_boxes rfl)) (by simp [ItV.len]) (by rw [sizeLine_eq]; omega) (fun acc => seq_walk) (fun i hi acc => by rw [at_lst i hi, show mkT g (boxD bs[i]) = .v g (boxD bs[i]) from mkT_lst]) (fun w hw acc ha => ⟨_, rfl, rfl, fun _ => ev_callV (us := [.v false (boxD b), .v false (boxD w)]) (ev_cons (ev_var rfl) (ev_cons (ev_var rfl) ev_nil)) rfl rfl rfl (liesF_ev b w) (low1 ha)⟩) (Nat.zero_le _) rfl
  rw [filter_yes] at e
  have e2 : onBools (fun bs => bs.any id) [] [.v true (.lst (bs.map fun w => D.bl (liesF b w)))] = some (blT (bs.any (liesF b)), []) := by
    unfold onBools
    simp only [items_lst, bools_ev, any_map']
  have e3 := ev_not (ev_tru (b := bs.any (liesF b)) (ev_bi (ev_cons e ev_nil) e2) rfl)
  cases hb : bs.any (liesF b) with
  | true =>
    rw [hb] at e3
    exact st_no e3 st_nil
  | false =>
    rw [hb] at e3
    exact st_yes e3 (st_ret ev_atm)
theorem within_run (hz : bs.length ≤ 8000000) : ∀ (k i : Nat) (o2 o3 : Option T), i + k = as.length → ∃ o2' o3', forD (.seq true (.v f (boxesD as)) (as.map boxD).length) (gNm 2) wB k i (wG n n as bs f g o2 o3) [] = some (.nx (wG n n as bs f g o2' o3') []) ∨ forD (.seq true (.v f (boxesD as)) (as.map boxD).length) (gNm 2) wB k i (wG n n as bs f g o2 o3) [] = some (.rt (.v true (.bl false)) [])
  | 0, i, o2, o3, _ => ⟨o2, o3, .inl (forD_0 seq_walk)⟩
  | k + 1, i, o2, o3, hi => by
    have h1 : i < as.length := by omega
    have hat : (ItV.seq true (.v f (boxesD as)) (as.map boxD).length).at [] i = some (.one (.v f (boxD as[i]))) := by
      have := at_lst (f := f) (μ := []) (l := as) (Dx := boxD) i h1
      rwa [show mkT f (boxD as[i]) = .v f (boxD as[i]) from mkT_lst] at this
    have hs := within_step (n := n) (as := as) (f := f) (g := g) hz as[i] o3
    cases hb : bs.any (liesF as[i]) with
    | true =>
      rw [hb, if_pos rfl] at hs
      obtain ⟨p2, p3, ih⟩ := within_run hz k (i + 1) (some (.v f (boxD as[i]))) o3 (by omega)
      refine ⟨p2, p3, ?_⟩
      have hok : (ItV.seq true (T.v f (boxesD as)) (as.map boxD).length).ok [] = true := seq_walk
      rw [forD_nx (g := gNm 2) (Γ := wG n n as bs f g o2 o3) hok hat rfl hs]
      exact ih
    | false =>
      rw [hb, if_neg Bool.false_ne_true] at hs
      exact ⟨none, none, .inr (forD_rt seq_walk hat rfl hs)⟩
theorem within_fam (hz : bs.length ≤ 8000000) : ∃ k, d_Family_within [.v f (famD n as), .v g (famD n bs)] [] = some (.ok (blT k) []) := by
  obtain ⟨o2, o3, h⟩ := within_run (n := n) (as := as) (f := f) (g := g) hz as.length 0 none none (by omega)
  have hlen : (ItV.seq true (T.v f (boxesD as)) (as.map boxD).length).len = as.length := List.length_map ..
  have it : iSeq true (d1 (fldV 0 1) (dVar 0)) (wG n n as bs f g none none) [] = some (.ok (.seq true (.v f (boxesD as)) (as.map boxD).length) []) := it_lst (fam_boxes rfl)
  rcases h with h | h
  · refine ⟨true, ?_⟩
    show retD 0 (b_Family_within 0 (wG n n as bs f g none none) []) = _
    unfold b_Family_within
    exact rt_ev (st_seq (alike_st [none, none] []) (st_seq (for_ev it (by rw [hlen]; exact h)) (st_ret ev_atm))) (ret_v0 _ _ _)
  · refine ⟨false, ?_⟩
    show retD 0 (b_Family_within 0 (wG n n as bs f g none none) []) = _
    unfold b_Family_within
    exact rt_ev (st_seq (alike_st [none, none] []) (st_rt (for_ev it (by rw [hlen]; exact h)))) (ret_v0 _ _ _)
theorem within_bad (h : n ≠ m) : d_Family_within [.v f (famD n as), .v g (famD m bs)] [] = some (.exc 2 (.v true (twoD n m)) []) := by
  show retD 0 (b_Family_within 0 (wG n m as bs f g none none) []) = _
  unfold b_Family_within
  rw [st_ex (alike_stX h [none, none] [])]
  rfl
/-! == -/
theorem edged_plain {M : List Int} (hM : ∀ x ∈ M, x.natAbs ≤ 1000) (h : Edged M n bs) (hn : n ≤ 3) : (boxesD bs).plain = true ∧ (boxesD bs).dep ≤ 64 := by
  have e : 1001 < 10 ^ 40 := by decide +kernel
  obtain ⟨h1, h2, h3⟩ := boxes_plain (bs := bs) (m := 3) fun b hb => ⟨by rw [boxOk_len (h.ok b hb)]; exact hn, fun s hs => by
    obtain ⟨q1, q2⟩ := h.ed b hb s hs
    refine ⟨by have := hM _ q1; omega, fun x hx => by have := hM _ (q2 x hx); omega⟩⟩
  exact ⟨by unfold boxesD D.plain; exact h1, by unfold boxesD D.dep; omega⟩
theorem eq_plain {μ : Mu} {f g : Bool} {d : D} (h : d.plain = true) (hd : d.dep ≤ 64) : cmpV .Eq μ (.v f d) (.v g d) = some true := by
  show L3.eqT μ (.v f d) (.v g d) = _
  exact eqT_self deep_v deep_v (py_plain d h) (shape_plain h hd)
theorem eq_fam (hp : (boxesD bs).plain = true) (hd : (boxesD bs).dep ≤ 64) : d_Family_eq [.v f (famD n bs), .v g (famD n bs)] [] = some (.ok (blT true) []) := by
  show retD 0 (b_Family_eq 0 (oG n n bs bs f g []) []) = _
  unfold b_Family_eq
  refine rt_ev (μ := []) (t := blT (true && (true && true))) (st_ret (ev_dAnd (f := true) (b := true) (ev_d1 (ev_var rfl) rfl) fun _ => ev_dAnd (f := true) (b := true) (ev_cmp (fam_kinds rfl) (fam_kinds rfl) (by rw [eq_natV, decide_eq_true rfl])) fun _ => ev_cmp (fam_boxes rfl) (fam_boxes rfl) (eq_plain hp hd))) (ret_v0 _ _ _)
theorem yes_fam {μ : Mu} (hp : (boxesD bs).plain = true) (hd : (boxesD bs).dep ≤ 64) : EqYes d_Family_eq 0 μ (.v f (famD n bs)) (.v g (famD n bs)) := by
  refine ⟨true, ?_⟩
  have hc : callD d_Family_eq false [false, false] [.v f (famD n bs), .v g (famD n bs)] μ = some (.ok (blT true) μ) := call_v (us := [.v false (famD n bs), .v false (famD n bs)]) rfl rfl (eq_fam hp hd) rfl
  show (if 0 = 0 ∧ 0 = 0 then match callD d_Family_eq false [false, false] [.v f (famD n bs), .v g (famD n bs)] μ with | some (.ok (.v fl (.bl b)) μ') => some (Rs.ok (T.v fl (.bl b)) μ') | _ => none else none) = _
  rw [hc]
  rfl
end
end Qk08

set_option Elab.async false
set_option linter.all false
set_option maxRecDepth 100000
set_option maxHeartbeats 4000000
/-! families: made of told boxes -/
namespace Qk08
open PySem PySem.Spec PyProof.Rows L2 L3
section
variable {α : Type} {l : List α} {E : α → D} {v : ItV} {y : α → Yl} {e : De} {own : List Nat} {g : Dg} {Γ : Gam} {μ : Mu}
/-- a comprehension whose items are new or not -/
theorem lc_any (hz : l.length ≤ sizeLine) (hok : ∀ acc : List T, v.ok (μ ++ [.lst acc]) = true) (hat : ∀ (i : Nat) (h : i < l.length) (acc : List T), v.at (μ ++ [.lst acc]) i = some (y l[i]))
    (step : ∀ x ∈ l, ∀ acc : List T, (∃ r, pack acc = some r) → ∃ Γ1 q, g (y x) (wipeG Γ own) (μ ++ [.lst acc]) = some Γ1 ∧ e Γ1 (μ ++ [.lst acc]) = some (.ok (.v q (E x)) (μ ++ [.lst acc]))) :
    ∀ (k i : Nat) (acc : List T) (q : Bool) (ds : List D), i + k = l.length → acc.length ≤ i → pack acc = some (q, ds) → ∃ us q', lcD v g bYes e own μ.length Γ k i (μ ++ [.lst acc]) = some (μ ++ [.lst (acc ++ us)]) ∧ pack (acc ++ us) = some (q', ds ++ (l.drop i).map E)
  | 0, i, acc, q, ds, hi, _, hp => by
    have e0 : l.drop i = [] := List.drop_eq_nil_of_le (by omega)
    exact ⟨[], q, by rw [List.append_nil]; unfold lcD; rw [if_pos (hok acc)], by rw [List.append_nil, e0, List.map_nil, List.append_nil]; exact hp⟩
  | k + 1, i, acc, q, ds, hi, ha, hp => by
    have hil : i < l.length := by omega
    obtain ⟨Γ1, q1, g1, e1⟩ := step l[i] (List.getElem_mem hil) acc ⟨_, hp⟩
    have hp1 : pack (acc ++ [.v q1 (E l[i])]) = some (q && q1, ds ++ [E l[i]]) := pack_app hp (by show some (q1 && true, [E l[i]]) = _; rw [Bool.and_true])
    obtain ⟨us, q', h2, h3⟩ := lc_any hz hok hat step k (i + 1) (acc ++ [.v q1 (E l[i])]) _ _ (by omega) (by rw [List.length_append]; show _ + 1 ≤ _; omega) hp1
    refine ⟨.v q1 (E l[i]) :: us, q', ?_, ?_⟩
    · have hg : (μ ++ [Cell.lst acc])[μ.length]? = some (.lst acc) := by simp
      have hs : (μ ++ [Cell.lst acc]).set μ.length (.lst (acc ++ [.v q1 (E l[i])])) = μ ++ [.lst (acc ++ [.v q1 (E l[i])])] := by simp
      unfold lcD
      rw [if_pos (hok acc), hat i hil acc]
      simp only [g1, bYes, e1, hg, hs]
      rw [if_pos (by omega), h2]
      simp [List.append_assoc]
    · rw [List.append_assoc] at h3
      have hd : l.drop i = l[i] :: l.drop (i + 1) := List.drop_eq_getElem_cons hil
      rw [hd, List.map_cons]
      rw [List.append_assoc] at h3
      exact h3
theorem dlc_any {it : Di} {m0 : Nat} (hit : it Γ μ = some (.ok v μ)) (hn : v.len = l.length) (hz : l.length ≤ sizeLine) (hok : ∀ acc : List T, v.ok (μ ++ [.lst acc]) = true) (hat : ∀ (i : Nat) (h : i < l.length) (acc : List T), v.at (μ ++ [.lst acc]) i = some (y l[i]))
    (step : ∀ x ∈ l, ∀ acc : List T, (∃ r, pack acc = some r) → ∃ Γ1 q, g (y x) (wipeG Γ own) (μ ++ [.lst acc]) = some Γ1 ∧ e Γ1 (μ ++ [.lst acc]) = some (.ok (.v q (E x)) (μ ++ [.lst acc]))) (hm : m0 ≤ μ.length) (hl : μ.all (Cell.low μ.length) = true) :
    ∃ q, dLc false m0 it g bYes e own Γ μ = some (.ok (.v q (.lst (l.map E))) μ) := by
  obtain ⟨us, q, h1, h2⟩ := lc_any hz hok hat step l.length 0 [] true [] (by omega) (Nat.le_refl 0) rfl
  refine ⟨q, ?_⟩
  unfold dLc
  rw [hit]
  show (match lcD v g bYes e own μ.length Γ v.len 0 (μ ++ [.lst []]) with | some μ2 => (lcEnd false μ.length m0 μ2).ot | none => none) = _
  rw [hn, h1]
  show (lcEnd false μ.length m0 (μ ++ [Cell.lst ([] ++ us)])).ot = _
  rw [List.nil_append] at h2 ⊢
  have hg : (μ ++ [Cell.lst us])[μ.length]? = some (.lst us) := by simp
  have ht : (μ ++ [Cell.lst us]).take μ.length = μ := List.take_left
  unfold lcEnd
  rw [if_neg Bool.false_ne_true, hg]
  simp only [h2]
  rw [ht, if_pos ⟨hm, hl⟩]
  rfl
end
theorem copy_ev {Γ : Gam} {μ : Mu} {f : Bool} {i : Nat} {b : Bx} (h : Γ[i]? = some (some (.v f (boxD b)))) : ∃ q, dBi (listV false) (aCons (dVar i) aNil) Γ μ = some (.ok (.v q (boxD b)) μ) := by
  obtain ⟨q, hq, _⟩ := pack_mk f (b.map spanD)
  refine ⟨q, ev_bi (ev_cons (ev_var h) ev_nil) ?_⟩
  unfold listV boxD
  simp only [items_lst]
  unfold newL
  rw [if_neg Bool.false_ne_true]
  simp only [hq]
theorem law_made_ev {n : Nat} {bs : List Bx} (S : BoxesOk n bs) (f : Bool) : d_law_made [intT (n : Nat), .v f (boxesD bs)] [] = some (.ok (.v true (famD n (famF n bs))) []) := by
  show retD 0 (b_law_made 0 [some (intT (n : Nat)), some (.v f (boxesD bs)), none] []) = _
  unfold b_law_made
  obtain ⟨q, e⟩ := dlc_any (m0 := 0) (l := bs) (E := boxD) (it := iSeq true (dVar 1)) (g := gNm 2) (e := dBi (listV false) (aCons (dVar 2) aNil)) (own := [2]) (Γ := [some (intT (n : Nat)), some (.v f (boxesD bs)), none]) (μ := []) (y := fun b => .one (.v f (boxD b)))
    (it_lst (ev_var rfl)) (by simp [ItV.len]) (by have := S.many; rw [sizeLine_eq]; omega) (fun acc => seq_walk) (fun i hi acc => by rw [at_lst i hi, show mkT f (boxD bs[i]) = .v f (boxD bs[i]) from mkT_lst]) (fun b hb acc ha => by
      obtain ⟨q, hq⟩ := copy_ev (Γ := [some (intT (n : Nat)), some (.v f (boxesD bs)), some (.v f (boxD b))]) (μ := [] ++ [Cell.lst acc]) (f := f) (i := 2) (b := b) rfl
      exact ⟨_, q, rfl, hq⟩) (Nat.zero_le _) rfl
  exact rt_ev (st_ret (make_ev S (ev_var rfl) e)) (ret_v0 _ _ _)
end Qk08

set_option Elab.async false
set_option linter.all false
set_option maxRecDepth 100000
set_option maxHeartbeats 4000000
/-! unlike kinds: what is caught -/
namespace Qk08
open PySem PySem.Spec PyProof.Rows L2 L3
section
variable {n m : Nat} {as bs : List Bx} {f g : Bool} {μ : Mu} {Γ : Gam} {gd : List T → Mu → Ot T} {i j k : Nat} {cs : List Bx}
theorem own_ok (h1 : Γ[i]? = some (some (.v f (famD n as)))) (h2 : Γ[j]? = some (some (.v g (famD m bs)))) (hg : gd [.v false (famD n as), .v false (famD m bs)] [] = some (.ok (.v true (famD k cs)) [])) : dBOwn gd 0 false (dVar i) (dVar j) Γ μ = some (.ok (.v true (famD k cs)) μ) := by
  have hc : callD gd false [false, false] [.v f (famD n as), .v g (famD m bs)] μ = some (.ok (.v true (famD k cs)) μ) := call_v (us := [.v false (famD n as), .v false (famD m bs)]) rfl rfl hg rfl
  unfold dBOwn
  rw [ev_var h1]
  show Ot.bind (dVar j Γ μ) _ = _
  rw [ev_var h2]
  show (if 0 = 0 ∧ 0 = 0 then match callD gd false [false, false] [.v f (famD n as), .v g (famD m bs)] μ with | some (.ok (.v fl (.obj c3 ds)) μ') => some (Rs.ok (T.v fl (.obj c3 ds)) μ') | some (.exc e t μ') => some (.exc e t μ') | _ => none else none) = _
  rw [hc]
  rfl
theorem own_bad {c : Nat} {d : D} (h1 : Γ[i]? = some (some (.v f (famD n as)))) (h2 : Γ[j]? = some (some (.v g (famD m bs)))) (hg : gd [.v false (famD n as), .v false (famD m bs)] [] = some (.exc c (.v true d) [])) : dBOwn gd 0 false (dVar i) (dVar j) Γ μ = some (.exc c (.v true d) μ) := by
  have hc : callD gd false [false, false] [.v f (famD n as), .v g (famD m bs)] μ = some (.exc c (.v true d) μ) := callX (us := [.v false (famD n as), .v false (famD m bs)]) rfl rfl hg
  unfold dBOwn
  rw [ev_var h1]
  show Ot.bind (dVar j Γ μ) _ = _
  rw [ev_var h2]
  show (if 0 = 0 ∧ 0 = 0 then match callD gd false [false, false] [.v f (famD n as), .v g (famD m bs)] μ with | some (.ok (.v fl (.obj c3 ds)) μ') => some (Rs.ok (T.v fl (.obj c3 ds)) μ') | some (.exc e t μ') => some (.exc e t μ') | _ => none else none) = _
  rw [hc]
  rfl
theorem meth_ev {r : Ot T} (h1 : Γ[i]? = some (some (.v f (famD n as)))) (h2 : Γ[j]? = some (some (.v g (famD m bs)))) (hc : callD gd false [false, false] [.v f (famD n as), .v g (famD m bs)] μ = r) : dMeth gd 2 0 false [false, false] (dVar i) (aCons (dVar j) aNil) Γ μ = r := by
  unfold dMeth
  rw [ev_var h1]
  show (if 0 = 0 then Ot.bind (aCons (dVar j) aNil Γ μ) fun ts μ2 => if (T.v f (famD n as) :: ts).length = 2 then callD gd false [false, false] (T.v f (famD n as) :: ts) μ2 else none else none) = _
  rw [if_pos rfl, ev_cons (ev_var h2) ev_nil]
  exact hc
theorem methK_ev {r : Ot T} (h1 : Γ[i]? = some (some (.v f (famD n as)))) (h2 : Γ[j]? = some (some (.v g (famD m bs)))) (hc : callD gd false [false, false] [.v f (famD n as), .v g (famD m bs)] μ = r) : dMethK gd 2 0 false [false, false] [0] 1 (dVar i) (aCons (dVar j) aNil) Γ μ = r := by
  unfold dMethK
  rw [ev_var h1]
  show (if 0 = 0 then Ot.bind (aCons (dVar j) aNil Γ μ) fun ts μ2 => if ts.length = 1 then if (T.v f (famD n as) :: pick [0] ts).length = 2 then callD gd false [false, false] (T.v f (famD n as) :: pick [0] ts) μ2 else none else none else none) = _
  rw [if_pos rfl, ev_cons (ev_var h2) ev_nil]
  exact hc
abbrev kG (way n m : Nat) (as bs : List Bx) (f g : Bool) (o3 o4 : Option T) : Gam := [some (intT (way : Nat)), some (.v f (famD n as)), some (.v g (famD m bs)), o3, o4, none]
noncomputable abbrev kB : Ds := (sIf (bOf (d2 (cmpVt .Eq) (dVar 0) (dAtm (.int 0)))) (sSet 4 (dBOwn d_Family_and 0 false (dVar 1) (dVar 2))) (sIf (bOf (d2 (cmpVt .Eq) (dVar 0) (dAtm (.int 1)))) (sSet 4 (dBOwn d_Family_or 0 false (dVar 1) (dVar 2))) (sIf (bOf (d2 (cmpVt .Eq) (dVar 0) (dAtm (.int 2)))) (sSet 4 (dBOwn d_Family_sub 0 false (dVar 1) (dVar 2))) (sSet 4 (dIf (bOf (d2 (cmpVt .Eq) (dVar 0) (dAtm (.int 3)))) (dFrz 0 (dMeth d_Family_within 2 0 false [false, false] (dVar 1) (aCons (dVar 2) aNil))) (dFrz 0 (dMethK d_Family_within 2 0 false [false, false] [0] 1 (dVar 1) (aCons (dVar 2) aNil))))))))
theorem way_tst (way w : Nat) {o3 o4 : Option T} : bOf (d2 (cmpVt .Eq) (dVar 0) (dAtm (.int (w : Nat)))) (kG way n m as bs f g o3 o4) [] = some (.ok (decide (way = w)) []) := ev_tst (ev_var rfl) ev_atm (eq_natV way w)
theorem kB_ok {M : List Int} (F : FewM M n) (ha : Edged M n as) (hb : Edged M n bs) (hz : as.length + bs.length ≤ 8000000) (way : Nat) (o3 o4 : Option T) : ∃ t, kB (kG way n n as bs f g o3 o4) [] = some (.nx (kG way n n as bs f g o3 (some t)) []) := by
  have w := fun v : Nat => way_tst (n := n) (m := n) (as := as) (bs := bs) (f := f) (g := g) (o3 := o3) (o4 := o4) way v
  have w0 := w 0
  have w1 := w 1
  have w2 := w 2
  have w3 := w 3
  by_cases h0 : way = 0
  · rw [decide_eq_true h0] at w0
    obtain ⟨c, e⟩ := and_fam (f := false) (g := false) F ha hb hz
    exact ⟨_, st_yes w0 (st_set (own_ok rfl rfl e))⟩
  rw [decide_eq_false h0] at w0
  by_cases h1 : way = 1
  · rw [decide_eq_true h1] at w1
    exact ⟨_, st_no w0 (st_yes w1 (st_set (own_ok rfl rfl (or_fam (f := false) (g := false) F ha hb hz))))⟩
  rw [decide_eq_false h1] at w1
  by_cases h2 : way = 2
  · rw [decide_eq_true h2] at w2
    obtain ⟨c, e⟩ := sub_fam (f := false) (g := false) F ha hb hz
    exact ⟨_, st_no w0 (st_no w1 (st_yes w2 (st_set (own_ok rfl rfl e))))⟩
  rw [decide_eq_false h2] at w2
  obtain ⟨k, e⟩ := within_fam (n := n) (as := as) (bs := bs) (f := false) (g := false) (by omega)
  have hc : callD d_Family_within false [false, false] [.v f (famD n as), .v g (famD n bs)] [] = some (.ok (blT k) []) := call_v (us := [.v false (famD n as), .v false (famD n bs)]) rfl rfl e rfl
  by_cases h3 : way = 3
  · rw [decide_eq_true h3] at w3
    exact ⟨_, st_no w0 (st_no w1 (st_no w2 (st_set (ev_yes w3 (frz_v (meth_ev rfl rfl hc) rfl)))))⟩
  · rw [decide_eq_false h3] at w3
    exact ⟨_, st_no w0 (st_no w1 (st_no w2 (st_set (ev_no w3 (frz_v (methK_ev rfl rfl hc) rfl)))))⟩
theorem ev_ifX {ta : Db} {ga gb : De} {b : Bool} {r : Ot T} (h : ta Γ μ = some (.ok b μ)) (h2 : (if b then ga Γ μ else gb Γ μ) = r) : dIf ta ga gb Γ μ = r := by unfold dIf; rw [h]; exact h2
theorem kB_bad (h : n ≠ m) (way : Nat) (o3 o4 : Option T) : kB (kG way n m as bs f g o3 o4) [] = some (.ex (kG way n m as bs f g o3 o4) 2 (.v true (twoD n m)) []) := by
  have w := fun v : Nat => way_tst (n := n) (m := m) (as := as) (bs := bs) (f := f) (g := g) (o3 := o3) (o4 := o4) way v
  have w0 := w 0
  have w1 := w 1
  have w2 := w 2
  have w3 := w 3
  by_cases h0 : way = 0
  · rw [decide_eq_true h0] at w0
    exact st_yes w0 (st_setX (own_bad rfl rfl (and_bad h)))
  rw [decide_eq_false h0] at w0
  by_cases h1 : way = 1
  · rw [decide_eq_true h1] at w1
    exact st_no w0 (st_yes w1 (st_setX (own_bad rfl rfl (or_bad h))))
  rw [decide_eq_false h1] at w1
  by_cases h2 : way = 2
  · rw [decide_eq_true h2] at w2
    exact st_no w0 (st_no w1 (st_yes w2 (st_setX (own_bad rfl rfl (sub_bad h)))))
  rw [decide_eq_false h2] at w2
  have hc : callD d_Family_within false [false, false] [.v f (famD n as), .v g (famD m bs)] [] = some (.exc 2 (.v true (twoD n m)) []) := callX (us := [.v false (famD n as), .v false (famD m bs)]) rfl rfl (within_bad h)
  by_cases h3 : way = 3
  · rw [decide_eq_true h3] at w3
    exact st_no w0 (st_no w1 (st_no w2 (st_setX (ev_ifX w3 (by rw [if_pos rfl]; exact frzX (meth_ev rfl rfl hc))))))
  · rw [decide_eq_false h3] at w3
    exact st_no w0 (st_no w1 (st_no w2 (st_setX (ev_ifX w3 (by rw [if_neg Bool.false_ne_true]; exact frzX (methK_ev rfl rfl hc))))))
theorem caught_ok {M : List Int} (F : FewM M n) (ha : Edged M n as) (hb : Edged M n bs) (hz : as.length + bs.length ≤ 8000000) (way : Nat) : d_law_caught [intT (way : Nat), .v f (famD n as), .v g (famD n bs)] [] = some (.ok (.v true .non) []) := by
  show retD 0 (b_law_caught 0 (kG way n n as bs f g none none) []) = _
  unfold b_law_caught
  obtain ⟨t, e⟩ := kB_ok (f := f) (g := g) F ha hb hz way (some (.v true .non)) none
  exact rt_ev (st_seq (st_set ev_atm) (st_seq (try_ok e) (st_ret (ev_var rfl)))) (ret_v0 _ _ _)
theorem caught_bad (h : n ≠ m) (way : Nat) : d_law_caught [intT (way : Nat), .v f (famD n as), .v g (famD m bs)] [] = some (.ok (.v true (.lst [.bl true, twoD n m])) []) := by
  show retD 0 (b_law_caught 0 (kG way n m as bs f g none none) []) = _
  unfold b_law_caught
  exact rt_ev (st_seq (st_set ev_atm) (st_seq (try_ex (kB_bad h way (some (.v true .non)) none) (by show 5 < 6; decide) (st_set (ev_lst (f := true) (ts := [blT true, .v true (twoD n m)]) (ev_cons ev_atm (ev_cons rfl ev_nil)) rfl (by show 2 ≤ 64; decide)))) (st_ret (ev_var rfl)))) (ret_v0 _ _ _)
end
end Qk08

set_option Elab.async false
set_option linter.all false
set_option maxRecDepth 100000
set_option maxHeartbeats 4000000
/-! unlike kinds: what is planned -/
namespace Qk08
open PySem PySem.Spec PyProof.Rows L2 L3
abbrev Plan := Nat × List Bx
def planD (p : Plan) : D := .tup [.int (p.1 : Nat), boxesD p.2]
def planT (x : Bool × Plan) : T := .v x.1 (planD x.2)
def fourL : List Int := [0, 1, 2, 3, 4]
structure PlanOk (p : Plan) : Prop where
  few : FewM fourL p.1
  ed : Edged fourL p.1 p.2
  len : p.2.length ≤ 1000
theorem four_few {n : Nat} (h0 : 0 < n) (h3 : n ≤ 3) : FewM fourL n := ⟨by decide, by decide, by decide, Nat.le_trans (Nat.pow_le_pow_right (by decide) h3) (by decide), h0, h3⟩
theorem four_mem {x : Int} (h0 : 0 ≤ x) (h4 : x ≤ 4) : x ∈ fourL := by
  have : x = 0 ∨ x = 1 ∨ x = 2 ∨ x = 3 ∨ x = 4 := by omega
  rcases this with rfl | rfl | rfl | rfl | rfl <;> decide
theorem four_edged {n : Nat} {bs : List Bx} (h : ∀ b ∈ bs, BoxIn 3 n b) : Edged fourL n bs := by
  refine ⟨fun b hb => ?_, fun b hb s hs => ?_⟩
  · obtain ⟨h1, h2⟩ := h b hb
    unfold boxOk
    rw [decide_eq_true h1, Bool.true_and, List.all_eq_true]
    intro s hs
    obtain ⟨q1, q2, q3⟩ := h2 s hs
    obtain ⟨lo, hi⟩ := s
    unfold spanOk
    cases hi with
    | none =>
      show (decide (0 ≤ lo) && true) = true
      rw [decide_eq_true q1]
      rfl
    | some x =>
      obtain ⟨r1, r2⟩ := q3 x rfl
      have r0 : (0 : Int) ≤ lo := q1
      have r3 : (0 : Int) ≤ x := Int.le_trans r0 r1
      show (decide (0 ≤ lo) && (decide (0 ≤ x) && decide (lo ≤ x))) = true
      rw [decide_eq_true r0, decide_eq_true r3, decide_eq_true r1]
      rfl
  · obtain ⟨q1, q2, q3⟩ := (h b hb).2 s hs
    refine ⟨four_mem q1 (Int.le_trans q2 (by decide)), fun x hx => ?_⟩
    obtain ⟨r1, r2⟩ := q3 x hx
    have r2' : x ≤ 3 := r2
    exact four_mem (by omega) (by omega)
theorem pack_plans : ∀ L : List (Bool × Plan), ∃ q, pack (L.map planT) = some (q, L.map fun x => planD x.2)
  | [] => ⟨true, rfl⟩
  | x :: L => by
    obtain ⟨q, h⟩ := pack_plans L
    refine ⟨x.1 && q, ?_⟩
    show (match pack (L.map planT) with | some (f, ds) => some (x.1 && f, planD x.2 :: ds) | none => none) = _
    rw [h]
    rfl
abbrev C2 (a b c : Int) (L : List (Bool × Plan)) : Mu := [M3 a b c, .lst (L.map planT)]
theorem c2_low {a b c : Int} {L : List (Bool × Plan)} {k : Nat} : (C2 a b c L).all (Cell.low k) = true := by
  obtain ⟨q, h⟩ := pack_plans L
  exact low2 h
theorem app2d {Γ : Gam} {c0 c1 : Cell} {xs : List T} {t : T} {i : Nat} {ge : De} (hi : Γ[i]? = some (some (.m 1))) (hz : xs.length < 16777216) (he : ge Γ [c0, .lst xs] = some (.ok t [c1, .lst xs])) : dMt appV (dVar i) (aCons ge aNil) Γ [c0, .lst xs] = some (.ok (.v true .non) [c1, .lst (xs ++ [t])]) := by
  refine ev_mt (t := .m 1) (us := xs) (ev_var hi) rfl (ev_cons he ev_nil) ?_
  have e : L3.cellOf [c1, .lst xs] (.m 1) = some (1, xs) := rfl
  unfold appV
  simp only [e]
  rw [if_pos (by rw [sizeLine_eq]; exact hz)]
  rfl
abbrev yG (o2 o3 o4 o5 o6 o7 o8 o9 o10 : Option T) : Gam := [some (.m 0), some (.m 1), o2, o3, o4, o5, o6, o7, o8, o9, o10]
noncomputable abbrev planB : Ds := (sSeq (sSet 3 (d2 (binV false .Add) (dAtm (.int 1)) (dCall d_law_grain 2 false [true, false] (aCons (dVar 0) (aCons (dAtm (.int 3)) aNil))))) (sExp (dMt appV (dVar 1) (aCons (dTup (aCons (dVar 3) (aCons (dIf (bOf (d2 (cmpVt .Eq) (dCall d_law_grain 2 false [true, false] (aCons (dVar 0) (aCons (dAtm (.int 4)) aNil))) (dAtm (.int 0)))) (dLst false aNil) (dFrz 1 (dCall d_law_drawn 4 false [true, false, false, false] (aCons (dVar 0) (aCons (dVar 3) (aCons (dAtm (.int 3)) (aCons (dAtm (.int 3)) aNil))))))) aNil))) aNil))))
theorem plan_step {N : Nat} {a b c : Int} {L : List (Bool × Plan)} (hz : L.length ≤ 1000) (o2 o3 o4 o5 o6 o7 o8 o9 o10 : Option T) (ok : MillOk (N + 70) a b c) : ∃ (o3' : Option T) (q : Bool) (p : Plan) (a' b' c' : Int), planB (yG o2 o3 o4 o5 o6 o7 o8 o9 o10) (C2 a b c L) = some (.nx (yG o2 o3' o4 o5 o6 o7 o8 o9 o10) (C2 a' b' c' (L ++ [(q, p)]))) ∧ MillOk N a' b' c' ∧ PlanOk p := by
  obtain ⟨k, a1, b1, c1, e1, ok1, l1⟩ := draw (Γ := yG o2 o3 o4 o5 o6 o7 o8 o9 o10) (i := 0) (j := 0) (μ := C2 a b c L) (n := N + 69) (gb := dAtm (.int 3)) 3 ok (by decide) (small100 (by decide)) rfl rfl ev_atm
  have e1' : d2 (binV false .Add) (dAtm (.int 1)) (dCall d_law_grain 2 false [true, false] (aCons (dVar 0) (aCons (dAtm (.int 3)) aNil))) (yG o2 o3 o4 o5 o6 o7 o8 o9 o10) (C2 a b c L) = some (.ok (intT ((1 + k : Nat) : Int)) (C2 a1 b1 c1 L)) := ev_bin ev_atm e1 (by show some ((1 : Int) + (k : Nat)) = _; congr 1)
  obtain ⟨n, hn⟩ : ∃ n, n = 1 + k := ⟨_, rfl⟩
  rw [← hn] at e1'
  have hn0 : 0 < n := by omega
  have hn3 : n ≤ 3 := by omega
  let Γ1 : Gam := yG o2 (some (intT (n : Nat))) o4 o5 o6 o7 o8 o9 o10
  obtain ⟨k2, a2, b2, c2, e2, ok2, l2⟩ := draw (Γ := Γ1) (i := 0) (j := 0) (μ := C2 a1 b1 c1 L) (n := N + 68) (gb := dAtm (.int 4)) 4 ok1 (by decide) (small100 (by decide)) rfl rfl ev_atm
  have t2 := ev_tst (op := .Eq) e2 (ev_atm (d := .int 0)) (eq_natV k2 0)
  have fin : ∀ (q : Bool) (bs : List Bx) (a' b' c' : Int), dIf (bOf (d2 (cmpVt .Eq) (dCall d_law_grain 2 false [true, false] (aCons (dVar 0) (aCons (dAtm (.int 4)) aNil))) (dAtm (.int 0)))) (dLst false aNil) (dFrz 1 (dCall d_law_drawn 4 false [true, false, false, false] (aCons (dVar 0) (aCons (dVar 3) (aCons (dAtm (.int 3)) (aCons (dAtm (.int 3)) aNil)))))) Γ1 (C2 a1 b1 c1 L) = some (.ok (.v q (boxesD bs)) (C2 a' b' c' L)) →
      planB (yG o2 o3 o4 o5 o6 o7 o8 o9 o10) (C2 a b c L) = some (.nx Γ1 (C2 a' b' c' (L ++ [(q, (n, bs))]))) := fun q bs a' b' c' h => by
    have hc : C2 a' b' c' (L ++ [(q, (n, bs))]) = [M3 a' b' c', .lst (L.map planT ++ [.v q (planD (n, bs))])] := by
      unfold C2
      rw [List.map_append]
      rfl
    rw [hc]
    exact st_seq (st_set e1') (st_exp (app2d rfl (by rw [List.length_map]; omega) (ev_tup (f := q) (ts := [intT (n : Nat), .v q (boxesD bs)]) (ds := [.int (n : Nat), boxesD bs]) (ev_cons (ev_var rfl) (ev_cons h ev_nil)) (by show some (true && (q && true), [D.int (n : Nat), boxesD bs]) = _; rw [Bool.and_true, Bool.true_and]) (by show 2 ≤ 64; decide))))
  by_cases h0 : k2 = 0
  · rw [decide_eq_true h0] at t2
    exact ⟨_, true, (n, []), a2, b2, c2, fin true [] a2 b2 c2 (ev_yes t2 (ev_lst (f := true) (ts := []) (ds := []) ev_nil rfl (by decide))), ok2.less (by omega), four_few hn0 hn3, ⟨fun b hb => (by cases hb), fun b hb => (by cases hb)⟩, Nat.zero_le _⟩
  · rw [decide_eq_false h0] at t2
    have hb : 3 * (n * 4 + 10) + 1 ≤ 67 := by omega
    obtain ⟨bs, xs, q, a3, b3, c3, e3, hp, ok3, hl, hbs⟩ := drawn_ev (n := N) n 3 3 (ok2.less (by omega)) (by decide) hn0 (by omega) (by decide)
    refine ⟨_, q, (n, bs), a3, b3, c3, fin q bs a3 b3 c3 (ev_no t2 (frzM_p (μ := C2 a2 b2 c2 L) (j := 0) (dCallG (ev_cons (ev_var rfl) (ev_cons (ev_var rfl) (ev_cons ev_atm (ev_cons ev_atm ev_nil)))) rfl (callM_p (μ := C2 a2 b2 c2 L) (j := 0) (rf := [false, false, false]) (ts := [intT (n : Nat), intT 3, intT 3]) (us := [intT (n : Nat), intT 3, intT 3]) rfl rfl rfl e3 hp)) hp (by show 1 ≤ 2; decide) c2_low)), ok3, four_few hn0 hn3, four_edged hbs, by show bs.length ≤ 1000; omega⟩
end Qk08

set_option Elab.async false
set_option linter.all false
set_option maxRecDepth 100000
set_option maxHeartbeats 4000000
/-! unlike kinds: the law -/
namespace Qk08
open PySem PySem.Spec PyProof.Rows L2 L3
theorem mkT_obj {f : Bool} {c : Nat} {ds : List D} : mkT f (.obj c ds) = .v f (.obj c ds) := by simp [mkT, D.atom]
theorem plan_kind {Γ : Gam} {μ : Mu} {i : Nat} {x : Bool × Plan} {ge : De} (h : ge Γ μ = some (.ok (planT x) μ)) : d2 ixV ge (dAtm (.int 0)) Γ μ = some (.ok (intT (x.2.1 : Nat)) μ) :=
  ev_ixTA (n := 0) (f := x.1) (xs := [.int (x.2.1 : Nat), boxesD x.2.2]) (x := .int (x.2.1 : Nat)) h ev_atm rfl rfl rfl
theorem plan_boxes {Γ : Gam} {μ : Mu} {x : Bool × Plan} {ge : De} (h : ge Γ μ = some (.ok (planT x) μ)) : d2 ixV ge (dAtm (.int 1)) Γ μ = some (.ok (.v x.1 (boxesD x.2.2)) μ) := by
  have := ev_ixT (n := 1) (f := x.1) (xs := [.int (x.2.1 : Nat), boxesD x.2.2]) (x := boxesD x.2.2) (gb := dAtm (.int 1)) h ev_atm rfl rfl
  rwa [show mkT x.1 (boxesD x.2.2) = .v x.1 (boxesD x.2.2) from mkT_lst] at this
def madeD (x : Bool × Plan) : D := famD x.2.1 (famF x.2.1 x.2.2)
noncomputable abbrev madeE : De := dLc false 1 (iSeq true (dVar 1)) (gNm 5) bYes (dFrz 1 (dCall d_law_made 2 false [false, false] (aCons (d2 ixV (dVar 5) (dAtm (.int 0))) (aCons (d2 ixV (dVar 5) (dAtm (.int 1))) aNil)))) [5]
theorem made_comp {a b c : Int} {L : List (Bool × Plan)} (hL : ∀ x ∈ L, PlanOk x.2) (hz : L.length ≤ 1000) (o2 o3 o4 o5 o6 o7 o8 o9 o10 : Option T) : ∃ q, madeE (yG o2 o3 o4 o5 o6 o7 o8 o9 o10) (C2 a b c L) = some (.ok (.v q (.lst (L.map madeD))) (C2 a b c L)) := by
  have hlen : (L.map planT).length = L.length := List.length_map ..
  refine dlc_any (l := L) (E := madeD) (v := .seq true (.m 1) L.length) (y := fun x => .one (planT x)) ?_ rfl (by rw [sizeLine_eq]; omega) (fun acc => ?_) (fun i hi acc => ?_) (fun x hx acc ha => ?_) (by show 1 ≤ 2; decide) c2_low
  · unfold iSeq
    rw [ev_var (show (yG o2 o3 o4 o5 o6 o7 o8 o9 o10)[1]? = some (some (.m 1)) from rfl)]
    show (if true = true then some (Rs.ok (ItV.seq true (.m 1) (L.map planT).length) (C2 a b c L)) else none) = _
    rw [if_pos rfl, hlen]
  · show (itemsN true L.length (C2 a b c L ++ [Cell.lst acc]) (.m 1)).isSome = true
    unfold itemsN
    show (if true = true ∧ (L.map planT).length = L.length then some (L.map planT) else none).isSome = true
    rw [if_pos ⟨rfl, hlen⟩]
    rfl
  · show (match itemsN true L.length (C2 a b c L ++ [Cell.lst acc]) (.m 1) with | some ts => ts[i]?.map Yl.one | none => none) = _
    unfold itemsN
    show (match (if true = true ∧ (L.map planT).length = L.length then some (L.map planT) else none) with | some ts => ts[i]?.map Yl.one | none => none) = _
    rw [if_pos ⟨rfl, hlen⟩]
    show (L.map planT)[i]?.map Yl.one = _
    rw [List.getElem?_map, List.getElem?_eq_getElem hi]
    rfl
  · obtain ⟨r, hr⟩ := ha
    obtain ⟨q, ds⟩ := r
    have hp := hL x hx
    have S : BoxesOk x.2.1 x.2.2 := hp.ed.boxes' hp.few (by have := hp.len; omega)
    let Γ1 : Gam := yG o2 o3 o4 (some (planT x)) o6 o7 o8 o9 o10
    have hv : dVar 5 Γ1 (C2 a b c L ++ [Cell.lst acc]) = some (.ok (planT x) (C2 a b c L ++ [Cell.lst acc])) := ev_var rfl
    have hl : (C2 a b c L ++ [Cell.lst acc]).all (Cell.low 3) = true := by
      rw [List.all_append, c2_low]
      show (true && ((Cell.lst acc).low 3 && true)) = true
      rw [show (Cell.lst acc).low 3 = true from pack_low hr]
      rfl
    exact ⟨Γ1, true, rfl, ev_callV (us := [intT (x.2.1 : Nat), .v false (boxesD x.2.2)]) (ev_cons (plan_kind (i := 0) hv) (ev_cons (plan_boxes hv) ev_nil)) rfl rfl rfl (law_made_ev S false) hl⟩
def dueD (n m : Nat) : D := if n = m then .non else .lst [.bl true, twoD n m]
theorem due_plain {n m : Nat} (hn : n ≤ 1000) (hm : m ≤ 1000) : (dueD n m).plain = true ∧ (dueD n m).dep ≤ 64 ∧ (dueD n m).many ≤ 390000 ∧ ∀ i, dueD n m ≠ .int i := by
  have e : 1000 < 10 ^ 40 := by decide +kernel
  unfold dueD
  by_cases h : n = m
  · rw [if_pos h]
    exact ⟨rfl, by decide, by decide, fun i z => by cases z⟩
  · rw [if_neg h]
    exact ⟨by simp [twoD, D.plain, D.plains]; omega, by simp [twoD, D.dep, D.deps], by simp [twoD, D.many, D.manys], fun i z => by cases z⟩
theorem same_str {μ : Mu} {f g : Bool} (z : Str) : cmpV .NotEq μ (.v f (.str z)) (.v g (.str z)) = some false := by
  show (some (decide (z = z))).map (!·) = _
  simp
theorem max_ev {μ : Mu} {f g : Bool} (n : Nat) : max2V μ [.v f (.int 1), .v g (.int (n : Nat))] = some (intT ((max 1 n : Nat) : Int), μ) := by
  show some (intT (if (1 : Int) < (n : Nat) then (n : Nat) else 1), μ) = _
  by_cases h : 1 < n
  · rw [if_pos (by omega), Nat.max_eq_right (by omega)]
  · rw [if_neg (by omega), Nat.max_eq_left (by omega)]
    rfl
theorem min_ev {μ : Mu} {f g : Bool} (k n : Nat) : min2V μ [.v f (.int (k : Nat)), .v g (.int (n : Nat))] = some (intT ((min k n : Nat) : Int), μ) := by
  show some (intT (if ((n : Nat) : Int) < (k : Nat) then (n : Nat) else (k : Nat)), μ) = _
  by_cases h : n < k
  · rw [if_pos (by omega), Nat.min_eq_right (by omega)]
  · rw [if_neg (by omega), Nat.min_eq_left (by omega)]
section
variable {a b c : Int} {L : List (Bool × Plan)} {q4 : Bool} {o2 o5 o10 : Option T} {o3 : Option T} {i j : Nat}
/-- the slots in the turns -/
abbrev tG (q4 : Bool) (L : List (Bool × Plan)) (i j : Nat) (o2 o3 o5 o8 o9 o10 : Option T) : Gam := yG o2 o3 (some (.v q4 (.lst (L.map madeD)))) o5 (some (intT (i : Nat))) (some (intT (j : Nat))) o8 o9 o10
theorem made_at {Γ : Gam} {μ : Mu} {k s : Nat} (h4 : Γ[4]? = some (some (.v q4 (.lst (L.map madeD))))) (hs : Γ[s]? = some (some (intT (k : Nat)))) (hk : k < L.length) : d2 ixV (dVar 4) (dVar s) Γ μ = some (.ok (.v q4 (madeD L[k])) μ) := by
  have := ev_ixL (f := q4) (xs := L.map madeD) (n := k) (i := (k : Nat)) (x := madeD L[k]) (ga := dVar 4) (gb := dVar s) (Γ := Γ) (μ := μ) (ev_var h4) (ev_var hs) rfl (by rw [List.getElem?_map, List.getElem?_eq_getElem hk]; rfl)
  rwa [show mkT q4 (madeD L[k]) = .v q4 (madeD L[k]) from mkT_obj] at this
theorem plan_at {Γ : Gam} {k s : Nat} (h1 : Γ[1]? = some (some (.m 1))) (hs : Γ[s]? = some (some (intT (k : Nat)))) (hk : k < L.length) : d2 ixV (dVar 1) (dVar s) Γ (C2 a b c L) = some (.ok (planT L[k]) (C2 a b c L)) :=
  ev_ixM (j := 1) (n := k) (ts := L.map planT) (ev_var h1) (ev_var hs) rfl rfl (by rw [List.getElem?_map, List.getElem?_eq_getElem hk]; rfl)
noncomputable abbrev wayB : Ds := (sIf (bOf (d2 (cmpVt .NotEq) (dBi reprV (aCons (dFrz 1 (dCall d_law_caught 3 false [false, false, false] (aCons (dVar 10) (aCons (d2 ixV (dVar 4) (dVar 6)) (aCons (d2 ixV (dVar 4) (dVar 7)) aNil))))) aNil)) (dVar 9))) (sRet (dAtm (.bl false))) L3.sNil)
theorem fam_of {p : Plan} (h : PlanOk p) : Edged fourL p.1 (famF p.1 p.2) ∧ (famF p.1 p.2).length ≤ 4000000 := fam_few h.few h.ed
theorem way_step (hL : ∀ x ∈ L, PlanOk x.2) (hi : i < L.length) (hj : j < L.length) (way : Nat) (o8 : Option T) : wayB (tG q4 L i j o2 o3 o5 o8 (some (.v true (.str (reprZ (dueD L[i].2.1 L[j].2.1))))) (some (intT (way : Nat)))) (C2 a b c L) = some (.nx (tG q4 L i j o2 o3 o5 o8 (some (.v true (.str (reprZ (dueD L[i].2.1 L[j].2.1))))) (some (intT (way : Nat)))) (C2 a b c L)) := by
  have pi := hL _ (List.getElem_mem hi)
  have pj := hL _ (List.getElem_mem hj)
  obtain ⟨ei, li⟩ := fam_of pi
  obtain ⟨ej, lj⟩ := fam_of pj
  obtain ⟨d1', d2', d3, d4⟩ := due_plain (n := L[i].2.1) (m := L[j].2.1) (by have := pi.few.kinds; omega) (by have := pj.few.kinds; omega)
  have ec : d_law_caught [intT (way : Nat), .v false (madeD L[i]), .v false (madeD L[j])] [] = some (.ok (.v true (dueD L[i].2.1 L[j].2.1)) []) := by
    unfold dueD
    by_cases h : L[i].2.1 = L[j].2.1
    · rw [if_pos h]
      unfold madeD
      rw [← h] at ej lj ⊢
      exact caught_ok pi.few ei ej (by omega) way
    · rw [if_neg h]
      exact caught_bad h way
  exact st_no (ev_tst (ev_repr (d := dueD L[i].2.1 L[j].2.1) (ev_callV (us := [intT (way : Nat), .v false (madeD L[i]), .v false (madeD L[j])]) (ev_cons (ev_var rfl) (ev_cons (made_at rfl rfl hi) (ev_cons (made_at rfl rfl hj) ev_nil))) rfl rfl rfl ec c2_low) deep_v d1' d2' d3 d4) (ev_var rfl) (same_str _)) st_nil
noncomputable abbrev pairB : Ds := (sSeq (sSet 8 (dTup (aCons (d2 ixV (d2 ixV (dVar 1) (dVar 6)) (dAtm (.int 0))) (aCons (d2 ixV (d2 ixV (dVar 1) (dVar 7)) (dAtm (.int 0))) aNil)))) (sSeq (sSet 9 (dBi reprV (aCons (dIf (bOf (d2 (cmpVt .NotEq) (d2 ixV (dVar 8) (dAtm (.int 0))) (d2 ixV (dVar 8) (dAtm (.int 1))))) (dLst false (aCons (dAtm (.bl true)) (aCons (dVar 8) aNil))) (dAtm .non)) aNil))) (sFor (iRng1D (aCons (dAtm (.int 5)) aNil)) (gNm 10) wayB)))
theorem pair_step (hL : ∀ x ∈ L, PlanOk x.2) (hi : i < L.length) (hj : j < L.length) (o8 o9 : Option T) : ∃ o8' o9' o10', pairB (tG q4 L i j o2 o3 o5 o8 o9 o10) (C2 a b c L) = some (.nx (tG q4 L i j o2 o3 o5 o8' o9' o10') (C2 a b c L)) := by
  have pi := hL _ (List.getElem_mem hi)
  have pj := hL _ (List.getElem_mem hj)
  obtain ⟨n, hn⟩ : ∃ n, n = L[i].2.1 := ⟨_, rfl⟩
  obtain ⟨m, hm⟩ : ∃ m, m = L[j].2.1 := ⟨_, rfl⟩
  obtain ⟨d1', d2', d3, d4⟩ := due_plain (n := L[i].2.1) (m := L[j].2.1) (by have := pi.few.kinds; omega) (by have := pj.few.kinds; omega)
  have e1 : dTup (aCons (d2 ixV (d2 ixV (dVar 1) (dVar 6)) (dAtm (.int 0))) (aCons (d2 ixV (d2 ixV (dVar 1) (dVar 7)) (dAtm (.int 0))) aNil)) (tG q4 L i j o2 o3 o5 o8 o9 o10) (C2 a b c L) = some (.ok (.v true (twoD L[i].2.1 L[j].2.1)) (C2 a b c L)) :=
    ev_tup (f := true) (ts := [intT (L[i].2.1 : Nat), intT (L[j].2.1 : Nat)]) (ev_cons (plan_kind (i := 0) (plan_at rfl rfl hi)) (ev_cons (plan_kind (i := 0) (plan_at rfl rfl hj)) ev_nil)) rfl (by show 2 ≤ 64; decide)
  have t2 := ev_tst (op := .NotEq) (ev_ixTA (n := 0) (f := true) (xs := [.int (L[i].2.1 : Nat), .int (L[j].2.1 : Nat)]) (x := .int (L[i].2.1 : Nat)) (ga := dVar 8) (gb := dAtm (.int 0)) (Γ := tG q4 L i j o2 o3 o5 (some (.v true (twoD L[i].2.1 L[j].2.1))) o9 o10) (μ := C2 a b c L) (ev_var rfl) ev_atm rfl rfl rfl)
    (ev_ixTA (n := 1) (f := true) (xs := [.int (L[i].2.1 : Nat), .int (L[j].2.1 : Nat)]) (x := .int (L[j].2.1 : Nat)) (ga := dVar 8) (gb := dAtm (.int 1)) (Γ := tG q4 L i j o2 o3 o5 (some (.v true (twoD L[i].2.1 L[j].2.1))) o9 o10) (μ := C2 a b c L) (ev_var rfl) ev_atm rfl rfl rfl) (ne_natV L[i].2.1 L[j].2.1)
  have e2 : dIf (bOf (d2 (cmpVt .NotEq) (d2 ixV (dVar 8) (dAtm (.int 0))) (d2 ixV (dVar 8) (dAtm (.int 1))))) (dLst false (aCons (dAtm (.bl true)) (aCons (dVar 8) aNil))) (dAtm .non) (tG q4 L i j o2 o3 o5 (some (.v true (twoD L[i].2.1 L[j].2.1))) o9 o10) (C2 a b c L) = some (.ok (.v true (dueD L[i].2.1 L[j].2.1)) (C2 a b c L)) := by
    unfold dueD
    by_cases h : L[i].2.1 = L[j].2.1
    · rw [if_pos h]
      rw [decide_eq_true h] at t2
      exact ev_no t2 ev_atm
    · rw [if_neg h]
      rw [decide_eq_false h] at t2
      exact ev_yes t2 (ev_lst (f := true) (ts := [blT true, .v true (twoD L[i].2.1 L[j].2.1)]) (ev_cons ev_atm (ev_cons (ev_var rfl) ev_nil)) rfl (by show 2 ≤ 64; decide))
  obtain ⟨Γ', μ', e3, o10', rfl, rfl⟩ := for_gen (l := List.range 5) (g := gNm 10) (it := iRng1D (aCons (dAtm (.int 5)) aNil)) (y := fun k : Nat => .one (intT (k : Nat))) (Γ := tG q4 L i j o2 o3 o5 (some (.v true (twoD L[i].2.1 L[j].2.1))) (some (.v true (.str (reprZ (dueD L[i].2.1 L[j].2.1))))) o10) (μ := C2 a b c L) (b := wayB)
    (fun _ Γ μ => ∃ o10, Γ = tG q4 L i j o2 o3 o5 (some (.v true (twoD L[i].2.1 L[j].2.1))) (some (.v true (.str (reprZ (dueD L[i].2.1 L[j].2.1))))) o10 ∧ μ = C2 a b c L)
    (it_rng1 (n := 5) (f := true) (ev_cons ev_atm ev_nil) (by decide)) rfl (fun i Γ μ _ h => rfl) ⟨o10, rfl, rfl⟩ (fun w hw Γ μ ⟨o, hG, hm⟩ => by
      subst hG hm
      exact ⟨_, _, _, at_rng0 (n := 5) hw, rfl, .inl (way_step hL hi hj _ _), _, rfl, rfl⟩)
  exact ⟨_, _, o10', st_seq (st_set e1) (st_seq (st_set (ev_repr (d := dueD L[i].2.1 L[j].2.1) e2 deep_v d1' d2' d3 d4)) e3)⟩
end
end Qk08

set_option Elab.async false
set_option linter.all false
set_option maxRecDepth 100000
set_option maxHeartbeats 4000000
/-! unlike kinds: the law -/
namespace Qk08
open PySem PySem.Spec PyProof.Rows L2 L3
open Classical in
theorem same_made {μ : Mu} {L : List (Bool × Plan)} {q q' : Bool} (hL : ∀ x ∈ L, PlanOk x.2) : eqLst d_Family_eq 0 μ (.v q (.lst (L.map madeD))) (.v q' (.lst (L.map madeD))) = some (.ok (.v true (.bl true)) μ) := by
  unfold eqLst
  show (if ((L.map madeD).map (mkT q)).length = ((L.map madeD).map (mkT q')).length ∧ _ then some (Rs.ok (T.v true (D.bl true)) μ) else none) = _
  refine if_pos ⟨by simp, fun i x y hx hy => ?_⟩
  rw [List.map_map, List.getElem?_map] at hx hy
  cases hl : L[i]? with
  | none => rw [hl] at hx; cases hx
  | some p =>
    rw [hl] at hx hy
    cases hx
    cases hy
    have hp := hL p (List.mem_of_getElem? hl)
    obtain ⟨e, _⟩ := fam_of hp
    obtain ⟨h1, h2⟩ := edged_plain (M := fourL) (by decide) e (by have := hp.few.kinds; omega)
    show EqYes d_Family_eq 0 μ (mkT q (madeD p)) (mkT q' (madeD p))
    rw [show mkT q (madeD p) = .v q (madeD p) from mkT_obj, show mkT q' (madeD p) = .v q' (madeD p) from mkT_obj]
    exact yes_fam h1 h2
theorem law_right_ev {N : Nat} {a b c : Int} (ok : MillOk (N + 210) a b c) : ∃ a' b' c', d_law_right [.m 0] [M3 a b c] = some (.ok (blT true) [M3 a' b' c']) ∧ MillOk N a' b' c' := by
  obtain ⟨Γ', μ', e1, L, o2, o3, a1, b1, c1, rfl, rfl, hl, hL, ok1⟩ := for_gen (l := List.range 3) (g := gNm 2) (it := iRng1D (aCons (dAtm (.int 3)) aNil)) (y := fun k : Nat => .one (intT (k : Nat))) (Γ := yG none none none none none none none none none) (μ := C2 a b c []) (b := planB)
    (fun i Γ μ => ∃ (L : List (Bool × Plan)) (o2 o3 : Option T) (a b c : Int), Γ = yG o2 o3 none none none none none none none ∧ μ = C2 a b c L ∧ L.length = i ∧ (∀ x ∈ L, PlanOk x.2) ∧ MillOk (N + (3 - i) * 70) a b c)
    (it_rng1 (n := 3) (f := true) (ev_cons ev_atm ev_nil) (by decide)) rfl (fun i Γ μ _ h => rfl) ⟨[], none, none, a, b, c, rfl, rfl, rfl, fun x hx => (by cases hx), ok⟩ (fun i hi Γ μ ⟨L, o2, o3, a, b, c, hG, hm, hl, hL, ok⟩ => by
      subst hG hm
      have hi3 : i < 3 := by simpa using hi
      obtain ⟨k, hk⟩ : ∃ k, 3 - i = k + 1 := ⟨2 - i, by omega⟩
      rw [hk, Nat.add_mul, Nat.one_mul] at ok
      obtain ⟨o3', q, p, a', b', c', e, ok', hp⟩ := plan_step (N := N + k * 70) (L := L) (by omega) (some (intT (((List.range 3)[i] : Nat) : Int))) o3 none none none none none none none (ok.less (by omega))
      refine ⟨_, _, _, at_rng0 (n := 3) hi, rfl, .inl e, L ++ [(q, p)], _, o3', a', b', c', rfl, rfl, by rw [List.length_append, hl]; rfl, fun x hx => ?_, ?_⟩
      · rcases List.mem_append.mp hx with hx | hx
        · exact hL x hx
        · obtain rfl := List.mem_singleton.mp hx
          exact hp
      · have : 3 - (i + 1) = k := by omega
        rw [this]
        exact ok')
  have hl3 : L.length = 3 := hl
  obtain ⟨q4, e2⟩ := made_comp (a := a1) (b := b1) (c := c1) hL (by omega) o2 o3 none none none none none none none
  obtain ⟨Γ', μ', e3, j6, j7, j8, j9, j10, rfl, rfl⟩ := for_gen (l := List.range 3) (g := gNm 6) (it := iRng1D (aCons (dAtm (.int 3)) aNil)) (y := fun k : Nat => .one (intT (k : Nat))) (Γ := yG o2 o3 (some (.v q4 (.lst (L.map madeD)))) none none none none none none) (μ := C2 a1 b1 c1 L) (b := sFor (iRng1D (aCons (dAtm (.int 3)) aNil)) (gNm 7) pairB)
    (fun _ Γ μ => ∃ (o6 o7 o8 o9 o10 : Option T), Γ = yG o2 o3 (some (.v q4 (.lst (L.map madeD)))) none o6 o7 o8 o9 o10 ∧ μ = C2 a1 b1 c1 L)
    (it_rng1 (n := 3) (f := true) (ev_cons ev_atm ev_nil) (by decide)) rfl (fun i Γ μ _ h => rfl) ⟨none, none, none, none, none, rfl, rfl⟩ (fun i hi Γ μ ⟨o6, o7, o8, o9, o10, hG, hm⟩ => by
      subst hG hm
      have hi3 : i < 3 := by simpa using hi
      have hri : (List.range 3)[i] = i := List.getElem_range _
      have hat := at_rng0 (μ := C2 a1 b1 c1 L) (n := 3) hi
      simp only [List.getElem_range] at hat ⊢
      obtain ⟨Γ', μ', e4, o7', o8', o9', o10', rfl, rfl⟩ := for_gen (l := List.range 3) (g := gNm 7) (it := iRng1D (aCons (dAtm (.int 3)) aNil)) (y := fun k : Nat => .one (intT (k : Nat))) (Γ := yG o2 o3 (some (.v q4 (.lst (L.map madeD)))) none (some (intT (i : Nat))) o7 o8 o9 o10) (μ := C2 a1 b1 c1 L) (b := pairB)
        (fun _ Γ μ => ∃ (o7 o8 o9 o10 : Option T), Γ = yG o2 o3 (some (.v q4 (.lst (L.map madeD)))) none (some (intT (i : Nat))) o7 o8 o9 o10 ∧ μ = C2 a1 b1 c1 L)
        (it_rng1 (n := 3) (f := true) (ev_cons ev_atm ev_nil) (by decide)) rfl (fun i Γ μ _ h => rfl) ⟨o7, o8, o9, o10, rfl, rfl⟩ (fun j hj Γ μ ⟨o7, o8, o9, o10, hG, hm⟩ => by
          subst hG hm
          have hj3 : j < 3 := by simpa using hj
          have hrj : (List.range 3)[j] = j := List.getElem_range _
          have hat2 := at_rng0 (μ := C2 a1 b1 c1 L) (n := 3) hj
          simp only [List.getElem_range] at hat2 ⊢
          obtain ⟨o8', o9', o10', e⟩ := pair_step (a := a1) (b := b1) (c := c1) (q4 := q4) (o2 := o2) (o3 := o3) (o5 := none) (o10 := o10) (i := i) (j := j) hL (by omega) (by omega) o8 o9
          exact ⟨_, _, _, hat2, rfl, .inl e, _, o8', o9', o10', rfl, rfl⟩)
      exact ⟨_, _, _, hat, rfl, .inl e4, _, o7', o8', o9', o10', rfl, rfl⟩)
  obtain ⟨q5, e5⟩ := made_comp (a := a1) (b := b1) (c := c1) hL (by omega) o2 o3 (some (.v q4 (.lst (L.map madeD)))) none j6 j7 j8 j9 j10
  have e6 : dEqLst d_Family_eq 0 (dVar 4) madeE (yG o2 o3 (some (.v q4 (.lst (L.map madeD)))) none j6 j7 j8 j9 j10) (C2 a1 b1 c1 L) = some (.ok (.v true (.bl true)) (C2 a1 b1 c1 L)) := by
    unfold dEqLst
    rw [ev_var (show (yG o2 o3 (some (.v q4 (.lst (L.map madeD)))) none j6 j7 j8 j9 j10)[4]? = some (some (.v q4 (.lst (L.map madeD)))) from rfl)]
    show Ot.bind (madeE _ (C2 a1 b1 c1 L)) _ = _
    rw [e5]
    exact same_made hL
  refine ⟨a1, b1, c1, ?_, ok1.less (by omega)⟩
  show retD 1 (b_law_right 1 [some (.m 0), none, none, none, none, none, none, none, none, none, none] [M3 a b c]) = _
  unfold b_law_right
  refine rt_ev (μ := C2 a1 b1 c1 L) (t := .v true (.bl true)) (st_seq (st_set (ev_lstL ev_nil (by decide))) (st_seq e1 (st_seq (st_set e2) (st_seq e3 (st_ret e6))))) ?_
  rfl
theorem fun_law : ∀ ns : List Int, ns.length ≤ 63 → (∀ z ∈ ns, Builtin.Int.intBits z ≤ 1048576) → ∃ f μ, d_law [.v false (.scr ns)] [] = some (.ok (.v f (.bl true)) μ) := by
  intro ns hn hB
  obtain ⟨k, hk⟩ : ∃ k, k = max 1 (min 12 ns.length) := ⟨_, rfl⟩
  have hk64 : k ≤ 64 := by omega
  let Γ0 : Gam := [some (.v false (.scr ns)), none, none, none]
  have er : iRng1D (aCons (dBi max2V (aCons (dAtm (.int 1)) (aCons (dBi min2V (aCons (dAtm (.int 12)) (aCons (dBi lenV (aCons (dVar 0) aNil)) aNil))) aNil))) aNil) Γ0 [] = some (.ok (.rng 0 k) []) := by
    refine it_rng1 (f := true) (ev_cons ?_ ev_nil) (by omega)
    rw [hk]
    exact ev_bi (ev_cons ev_atm (ev_cons (ev_bi (ev_cons ev_atm (ev_cons (ev_lenS (ev_var rfl)) ev_nil)) (min_ev 12 ns.length)) ev_nil)) (max_ev _)
  obtain ⟨Γ', μ', e, o1, o2, o3, rfl⟩ := for_gen (l := List.range k) (g := gNm 1) (y := fun k : Nat => .one (intT (k : Nat))) (Γ := Γ0) (μ := []) (b := (sSeq (sSet 2 (dCall d_law_quern 2 false [false, false] (aCons (dVar 0) (aCons (dVar 1) aNil)))) (sFor (iRng1D (aCons (dAtm (.int 2)) aNil)) (gNm 3) (sIf (bNot (bTru (dCall d_law_right 1 false [true] (aCons (dVar 2) aNil)))) (sRet (dAtm (.bl false))) L3.sNil))))
    (fun i Γ μ => ∃ (o1 o2 o3 : Option T), Γ = [some (.v false (.scr ns)), o1, o2, o3]) er (by simp [ItV.len]) (fun i Γ μ _ h => rfl) ⟨none, none, none, rfl⟩ (fun i hi Γ μ ⟨o1, o2, o3, hG⟩ => by
      subst hG
      have hik : i < k := by simpa using hi
      have hr : (List.range k)[i] = i := List.getElem_range _
      have hat := at_rng0 (μ := μ) (n := k) hi
      rw [hr] at hat ⊢
      obtain ⟨a, b, c, h1, ok1⟩ := quern_ev ns false i (by omega) hB 420 (by decide)
      have hq : dCall d_law_quern 2 false [false, false] (aCons (dVar 0) (aCons (dVar 1) aNil)) [some (.v false (.scr ns)), some (intT (i : Nat)), o2, o3] μ = some (.ok (.m μ.length) (μ ++ [M3 a b c])) := by
        refine dCallG (ev_cons (ev_var rfl) (ev_cons (ev_var rfl) ev_nil)) rfl ?_
        show back false [] μ (d_law_quern [.v false (.scr ns), intT (i : Nat)] []) = _
        rw [h1]
        rfl
      have hget : ∀ a b c : Int, (μ ++ [M3 a b c])[μ.length]? = some (M3 a b c) := fun a b c => by simp
      have hset : ∀ a b c a' b' c' : Int, (μ ++ [M3 a b c]).set μ.length (M3 a' b' c') = μ ++ [M3 a' b' c'] := fun a b c a' b' c' => by simp
      obtain ⟨Γ2, μ2, e2, o3', a2, b2, c2, rfl, rfl, -⟩ := for_gen (l := List.range 2) (g := gNm 3) (it := iRng1D (aCons (dAtm (.int 2)) aNil)) (y := fun k : Nat => .one (intT (k : Nat))) (Γ := [some (.v false (.scr ns)), some (intT (i : Nat)), some (.m μ.length), o3]) (μ := μ ++ [M3 a b c]) (b := sIf (bNot (bTru (dCall d_law_right 1 false [true] (aCons (dVar 2) aNil)))) (sRet (dAtm (.bl false))) L3.sNil)
        (fun i2 Γ2 μ2 => ∃ (o3 : Option T) (a b c : Int), Γ2 = [some (.v false (.scr ns)), some (intT (i : Nat)), some (.m μ.length), o3] ∧ μ2 = μ ++ [M3 a b c] ∧ MillOk ((2 - i2) * 210) a b c)
        (it_rng1 (n := 2) (f := true) (ev_cons ev_atm ev_nil) (by decide)) rfl (fun i Γ μ _ h => rfl) ⟨o3, a, b, c, rfl, rfl, ok1⟩ (fun i2 hi2 Γ2 μ2 ⟨o3, a, b, c, hG, hm, ok⟩ => by
          subst hG hm
          have hi2' : i2 < 2 := by simpa using hi2
          have hat2 := at_rng0 (μ := μ ++ [M3 a b c]) (n := 2) hi2
          obtain ⟨a', b', c', hr', ok'⟩ := law_right_ev (N := (2 - (i2 + 1)) * 210) (ok.less (by omega))
          have hc : dCall d_law_right 1 false [true] (aCons (dVar 2) aNil) [some (.v false (.scr ns)), some (intT (i : Nat)), some (.m μ.length), some (intT (((List.range 2)[i2] : Nat) : Int))] (μ ++ [M3 a b c]) = some (.ok (blT true) (μ ++ [M3 a' b' c'])) := by
            rw [← hset a b c a' b' c']
            exact dCallM (j := μ.length) rfl ev_nil rfl (callM_v (live := false) (j := μ.length) (hget a b c) rfl rfl hr' rfl)
          exact ⟨_, _, _, hat2, rfl, .inl (st_no (ev_not (ev_tru hc rfl)) st_nil), _, a', b', c', rfl, rfl, ok'⟩)
      exact ⟨_, _, _, hat, rfl, .inl (st_seq (st_set hq) e2), _, _, _, rfl⟩)
  refine ⟨true, [], ?_⟩
  show retD 0 (b_law 0 Γ0 []) = _
  unfold b_law
  exact rt_ev (st_seq e (st_ret ev_atm)) (ret_v0 _ _ _)
end Qk08

namespace Qk08
open PySem PySem.Spec PyProof.Rows L2 L3
theorem all_mk {l : PySem.W.OpenLaw} {w : World} {K : PySem.W.Frag} {h : Heap} {mg : Str → Option Value} {fa : Addr} (X : K.In h) (G : h.Ns mainGlobals mg) (hfa : mg "law" = some (.ref fa))
    {x_Family : Addr}
    {od_law_quern : Option Addr}
    {an_law_quern : Option Addr}
    {sl_law_quern : Array (Option Value)} {oc_law_quern kV_law_quern dc_law_quern pm_law_quern cd_law_quern ct_law_quern : Value} {x_law_quern : Addr}
    {od_Family_eq : Option Addr}
    {an_Family_eq : Option Addr}
    {sl_Family_eq : Array (Option Value)} {oc_Family_eq kV_Family_eq dc_Family_eq pm_Family_eq cd_Family_eq ct_Family_eq : Value} {x_Family_eq : Addr}
    {od_edges : Option Addr}
    {an_edges : Option Addr}
    {sl_edges : Array (Option Value)} {oc_edges kV_edges dc_edges pm_edges cd_edges ct_edges : Value} {x_edges : Addr}
    {od_cuts_of : Option Addr}
    {an_cuts_of : Option Addr}
    {sl_cuts_of : Array (Option Value)} {oc_cuts_of kV_cuts_of dc_cuts_of pm_cuts_of cd_cuts_of ct_cuts_of : Value} {x_cuts_of : Addr}
    {od_pair_of : Option Addr}
    {an_pair_of : Option Addr}
    {sl_pair_of : Array (Option Value)} {oc_pair_of kV_pair_of dc_pair_of pm_pair_of cd_pair_of ct_pair_of : Value} {x_pair_of : Addr}
    {od_box_of : Option Addr}
    {an_box_of : Option Addr}
    {sl_box_of : Array (Option Value)} {oc_box_of kV_box_of dc_box_of pm_box_of cd_box_of ct_box_of : Value} {x_box_of : Addr}
    {od_volume : Option Addr}
    {an_volume : Option Addr}
    {sl_volume : Array (Option Value)} {oc_volume kV_volume dc_volume pm_volume cd_volume ct_volume : Value} {x_volume : Addr}
    {od_repeated : Option Addr}
    {an_repeated : Option Addr}
    {sl_repeated : Array (Option Value)} {oc_repeated kV_repeated dc_repeated pm_repeated cd_repeated ct_repeated : Value} {x_repeated : Addr}
    {od_blocks_from : Option Addr}
    {an_blocks_from : Option Addr}
    {sl_blocks_from : Array (Option Value)} {oc_blocks_from kV_blocks_from dc_blocks_from pm_blocks_from cd_blocks_from ct_blocks_from : Value} {x_blocks_from : Addr}
    {od_blocks : Option Addr}
    {an_blocks : Option Addr}
    {sl_blocks : Array (Option Value)} {oc_blocks kV_blocks dc_blocks pm_blocks cd_blocks ct_blocks : Value} {x_blocks : Addr}
    {od_sizes_of : Option Addr}
    {an_sizes_of : Option Addr}
    {sl_sizes_of : Array (Option Value)} {oc_sizes_of kV_sizes_of dc_sizes_of pm_sizes_of cd_sizes_of ct_sizes_of : Value} {x_sizes_of : Addr}
    {od_greatest_boxes : Option Addr}
    {an_greatest_boxes : Option Addr}
    {sl_greatest_boxes : Array (Option Value)} {oc_greatest_boxes kV_greatest_boxes dc_greatest_boxes pm_greatest_boxes cd_greatest_boxes ct_greatest_boxes : Value} {x_greatest_boxes : Addr}
    {od_ErrInit : Option Addr}
    {an_ErrInit : Option Addr}
    {sl_ErrInit : Array (Option Value)} {oc_ErrInit kV_ErrInit dc_ErrInit pm_ErrInit cd_ErrInit ct_ErrInit : Value} {x_ErrInit : Addr}
    {od_cells_of_box : Option Addr}
    {an_cells_of_box : Option Addr}
    {sl_cells_of_box : Array (Option Value)} {oc_cells_of_box kV_cells_of_box dc_cells_of_box pm_cells_of_box cd_cells_of_box ct_cells_of_box : Value} {x_cells_of_box : Addr}
    {od_cells_of : Option Addr}
    {an_cells_of : Option Addr}
    {sl_cells_of : Array (Option Value)} {oc_cells_of kV_cells_of dc_cells_of pm_cells_of cd_cells_of ct_cells_of : Value} {x_cells_of : Addr}
    {od_is_number : Option Addr}
    {an_is_number : Option Addr}
    {sl_is_number : Array (Option Value)} {oc_is_number kV_is_number dc_is_number pm_is_number cd_is_number ct_is_number : Value} {x_is_number : Addr}
    {od_is_pair : Option Addr}
    {an_is_pair : Option Addr}
    {sl_is_pair : Array (Option Value)} {oc_is_pair kV_is_pair dc_is_pair pm_is_pair cd_is_pair ct_is_pair : Value} {x_is_pair : Addr}
    {od_is_box : Option Addr}
    {an_is_box : Option Addr}
    {sl_is_box : Array (Option Value)} {oc_is_box kV_is_box dc_is_box pm_is_box cd_is_box ct_is_box : Value} {x_is_box : Addr}
    {od_Family_init : Option Addr}
    {an_Family_init : Option Addr}
    {sl_Family_init : Array (Option Value)} {oc_Family_init kV_Family_init dc_Family_init pm_Family_init cd_Family_init ct_Family_init : Value} {x_Family_init : Addr}
    {od_law_made : Option Addr}
    {an_law_made : Option Addr}
    {sl_law_made : Array (Option Value)} {oc_law_made kV_law_made dc_law_made pm_law_made cd_law_made ct_law_made : Value} {x_law_made : Addr}
    {od_law_grain : Option Addr}
    {an_law_grain : Option Addr}
    {sl_law_grain : Array (Option Value)} {oc_law_grain kV_law_grain dc_law_grain pm_law_grain cd_law_grain ct_law_grain : Value} {x_law_grain : Addr}
    {od_law_span : Option Addr}
    {an_law_span : Option Addr}
    {sl_law_span : Array (Option Value)} {oc_law_span kV_law_span dc_law_span pm_law_span cd_law_span ct_law_span : Value} {x_law_span : Addr}
    {od_law_near : Option Addr}
    {an_law_near : Option Addr}
    {sl_law_near : Array (Option Value)} {oc_law_near kV_law_near dc_law_near pm_law_near cd_law_near ct_law_near : Value} {x_law_near : Addr}
    {od_law_drawn : Option Addr}
    {an_law_drawn : Option Addr}
    {sl_law_drawn : Array (Option Value)} {oc_law_drawn kV_law_drawn dc_law_drawn pm_law_drawn cd_law_drawn ct_law_drawn : Value} {x_law_drawn : Addr}
    {od_check_alike : Option Addr}
    {an_check_alike : Option Addr}
    {sl_check_alike : Array (Option Value)} {oc_check_alike kV_check_alike dc_check_alike pm_check_alike cd_check_alike ct_check_alike : Value} {x_check_alike : Addr}
    {od_shared_cuts : Option Addr}
    {an_shared_cuts : Option Addr}
    {sl_shared_cuts : Array (Option Value)} {oc_shared_cuts kV_shared_cuts dc_shared_cuts pm_shared_cuts cd_shared_cuts ct_shared_cuts : Value} {x_shared_cuts : Addr}
    {od_Family_and : Option Addr}
    {an_Family_and : Option Addr}
    {sl_Family_and : Array (Option Value)} {oc_Family_and kV_Family_and dc_Family_and pm_Family_and cd_Family_and ct_Family_and : Value} {x_Family_and : Addr}
    {od_Family_or : Option Addr}
    {an_Family_or : Option Addr}
    {sl_Family_or : Array (Option Value)} {oc_Family_or kV_Family_or dc_Family_or pm_Family_or cd_Family_or ct_Family_or : Value} {x_Family_or : Addr}
    {od_Family_sub : Option Addr}
    {an_Family_sub : Option Addr}
    {sl_Family_sub : Array (Option Value)} {oc_Family_sub kV_Family_sub dc_Family_sub pm_Family_sub cd_Family_sub ct_Family_sub : Value} {x_Family_sub : Addr}
    {od_lies_within : Option Addr}
    {an_lies_within : Option Addr}
    {sl_lies_within : Array (Option Value)} {oc_lies_within kV_lies_within dc_lies_within pm_lies_within cd_lies_within ct_lies_within : Value} {x_lies_within : Addr}
    {od_Family_within : Option Addr}
    {an_Family_within : Option Addr}
    {sl_Family_within : Array (Option Value)} {oc_Family_within kV_Family_within dc_Family_within pm_Family_within cd_Family_within ct_Family_within : Value} {x_Family_within : Addr}
    {od_law_caught : Option Addr}
    {an_law_caught : Option Addr}
    {sl_law_caught : Array (Option Value)} {oc_law_caught kV_law_caught dc_law_caught pm_law_caught cd_law_caught ct_law_caught : Value} {x_law_caught : Addr}
    {od_law_right : Option Addr}
    {an_law_right : Option Addr}
    {sl_law_right : Array (Option Value)} {oc_law_right kV_law_right dc_law_right pm_law_right cd_law_right ct_law_right : Value} {x_law_right : Addr}
    {od_law : Option Addr}
    {an_law : Option Addr}
    {sl_law : Array (Option Value)} {oc_law kV_law dc_law pm_law cd_law ct_law : Value} {x_law : Addr}
    {x_CrowdError : Addr} {nm_CrowdError qq_CrowdError : Str} {N_CrowdError : Addr} {bs_CrowdError : List Value} {sn_CrowdError : List Str} {sub_CrowdError : List Value} {ab_CrowdError : Bool} {col_CrowdError : Option Bool} {dd_CrowdError : Option Addr} {k0_CrowdError k1_CrowdError k2_CrowdError k3_CrowdError k5_CrowdError : Option Value}
    {x_InvalidBox : Addr} {nm_InvalidBox qq_InvalidBox : Str} {N_InvalidBox : Addr} {bs_InvalidBox : List Value} {sn_InvalidBox : List Str} {sub_InvalidBox : List Value} {ab_InvalidBox : Bool} {col_InvalidBox : Option Bool} {dd_InvalidBox : Option Addr} {k0_InvalidBox k1_InvalidBox k2_InvalidBox k3_InvalidBox k5_InvalidBox : Option Value}
    {x_UnlikeKinds : Addr} {nm_UnlikeKinds qq_UnlikeKinds : Str} {N_UnlikeKinds : Addr} {bs_UnlikeKinds : List Value} {sn_UnlikeKinds : List Str} {sub_UnlikeKinds : List Value} {ab_UnlikeKinds : Bool} {col_UnlikeKinds : Option Bool} {dd_UnlikeKinds : Option Addr} {k0_UnlikeKinds k1_UnlikeKinds k2_UnlikeKinds k3_UnlikeKinds k5_UnlikeKinds : Option Value}
    (a_law_quern : PySem.W.nsIn K mainGlobals "_law_quern" = some (some (.ref x_law_quern)))
    (l_law_quern : K.lookup x_law_quern = some ⟨oc_law_quern, od_law_quern, .func (PySem.W.fnOf "_law_quern" "_law_quern" (defArgs s_law_quern) (defBody s_law_quern) (defScope s_law_quern) .none kV_law_quern dc_law_quern pm_law_quern an_law_quern cd_law_quern ct_law_quern), sl_law_quern⟩)
    (c_law_quern : PySem.W.codeIn K cd_law_quern "_law_quern" = true)
    (k_law_quern : PySem.W.keepIn K (.ref x_law_quern) = true)
    (a_edges : PySem.W.nsIn K mainGlobals "edges" = some (some (.ref x_edges)))
    (l_edges : K.lookup x_edges = some ⟨oc_edges, od_edges, .func (PySem.W.fnOf "edges" "edges" (defArgs s_edges) (defBody s_edges) (defScope s_edges) .none kV_edges dc_edges pm_edges an_edges cd_edges ct_edges), sl_edges⟩)
    (c_edges : PySem.W.codeIn K cd_edges "edges" = true)
    (k_edges : PySem.W.keepIn K (.ref x_edges) = true)
    (a_cuts_of : PySem.W.nsIn K mainGlobals "cuts_of" = some (some (.ref x_cuts_of)))
    (l_cuts_of : K.lookup x_cuts_of = some ⟨oc_cuts_of, od_cuts_of, .func (PySem.W.fnOf "cuts_of" "cuts_of" (defArgs s_cuts_of) (defBody s_cuts_of) (defScope s_cuts_of) .none kV_cuts_of dc_cuts_of pm_cuts_of an_cuts_of cd_cuts_of ct_cuts_of), sl_cuts_of⟩)
    (c_cuts_of : PySem.W.codeIn K cd_cuts_of "cuts_of" = true)
    (k_cuts_of : PySem.W.keepIn K (.ref x_cuts_of) = true)
    (a_pair_of : PySem.W.nsIn K mainGlobals "pair_of" = some (some (.ref x_pair_of)))
    (l_pair_of : K.lookup x_pair_of = some ⟨oc_pair_of, od_pair_of, .func (PySem.W.fnOf "pair_of" "pair_of" (defArgs s_pair_of) (defBody s_pair_of) (defScope s_pair_of) .none kV_pair_of dc_pair_of pm_pair_of an_pair_of cd_pair_of ct_pair_of), sl_pair_of⟩)
    (c_pair_of : PySem.W.codeIn K cd_pair_of "pair_of" = true)
    (k_pair_of : PySem.W.keepIn K (.ref x_pair_of) = true)
    (a_box_of : PySem.W.nsIn K mainGlobals "box_of" = some (some (.ref x_box_of)))
    (l_box_of : K.lookup x_box_of = some ⟨oc_box_of, od_box_of, .func (PySem.W.fnOf "box_of" "box_of" (defArgs s_box_of) (defBody s_box_of) (defScope s_box_of) .none kV_box_of dc_box_of pm_box_of an_box_of cd_box_of ct_box_of), sl_box_of⟩)
    (c_box_of : PySem.W.codeIn K cd_box_of "box_of" = true)
    (k_box_of : PySem.W.keepIn K (.ref x_box_of) = true)
    (a_volume : PySem.W.nsIn K mainGlobals "volume" = some (some (.ref x_volume)))
    (l_volume : K.lookup x_volume = some ⟨oc_volume, od_volume, .func (PySem.W.fnOf "volume" "volume" (defArgs s_volume) (defBody s_volume) (defScope s_volume) .none kV_volume dc_volume pm_volume an_volume cd_volume ct_volume), sl_volume⟩)
    (c_volume : PySem.W.codeIn K cd_volume "volume" = true)
    (k_volume : PySem.W.keepIn K (.ref x_volume) = true)
    (a_repeated : PySem.W.nsIn K mainGlobals "repeated" = some (some (.ref x_repeated)))
    (l_repeated : K.lookup x_repeated = some ⟨oc_repeated, od_repeated, .func (PySem.W.fnOf "repeated" "repeated" (defArgs s_repeated) (defBody s_repeated) (defScope s_repeated) .none kV_repeated dc_repeated pm_repeated an_repeated cd_repeated ct_repeated), sl_repeated⟩)
    (c_repeated : PySem.W.codeIn K cd_repeated "repeated" = true)
    (k_repeated : PySem.W.keepIn K (.ref x_repeated) = true)
    (a_blocks_from : PySem.W.nsIn K mainGlobals "blocks_from" = some (some (.ref x_blocks_from)))
    (l_blocks_from : K.lookup x_blocks_from = some ⟨oc_blocks_from, od_blocks_from, .func (PySem.W.fnOf "blocks_from" "blocks_from" (defArgs s_blocks_from) (defBody s_blocks_from) (defScope s_blocks_from) .none kV_blocks_from dc_blocks_from pm_blocks_from an_blocks_from cd_blocks_from ct_blocks_from), sl_blocks_from⟩)
    (c_blocks_from : PySem.W.codeIn K cd_blocks_from "blocks_from" = true)
    (k_blocks_from : PySem.W.keepIn K (.ref x_blocks_from) = true)
    (a_blocks : PySem.W.nsIn K mainGlobals "blocks" = some (some (.ref x_blocks)))
    (l_blocks : K.lookup x_blocks = some ⟨oc_blocks, od_blocks, .func (PySem.W.fnOf "blocks" "blocks" (defArgs s_blocks) (defBody s_blocks) (defScope s_blocks) .none kV_blocks dc_blocks pm_blocks an_blocks cd_blocks ct_blocks), sl_blocks⟩)
    (c_blocks : PySem.W.codeIn K cd_blocks "blocks" = true)
    (k_blocks : PySem.W.keepIn K (.ref x_blocks) = true)
    (a_sizes_of : PySem.W.nsIn K mainGlobals "sizes_of" = some (some (.ref x_sizes_of)))
    (l_sizes_of : K.lookup x_sizes_of = some ⟨oc_sizes_of, od_sizes_of, .func (PySem.W.fnOf "sizes_of" "sizes_of" (defArgs s_sizes_of) (defBody s_sizes_of) (defScope s_sizes_of) .none kV_sizes_of dc_sizes_of pm_sizes_of an_sizes_of cd_sizes_of ct_sizes_of), sl_sizes_of⟩)
    (c_sizes_of : PySem.W.codeIn K cd_sizes_of "sizes_of" = true)
    (k_sizes_of : PySem.W.keepIn K (.ref x_sizes_of) = true)
    (a_greatest_boxes : PySem.W.nsIn K mainGlobals "greatest_boxes" = some (some (.ref x_greatest_boxes)))
    (l_greatest_boxes : K.lookup x_greatest_boxes = some ⟨oc_greatest_boxes, od_greatest_boxes, .func (PySem.W.fnOf "greatest_boxes" "greatest_boxes" (defArgs s_greatest_boxes) (defBody s_greatest_boxes) (defScope s_greatest_boxes) .none kV_greatest_boxes dc_greatest_boxes pm_greatest_boxes an_greatest_boxes cd_greatest_boxes ct_greatest_boxes), sl_greatest_boxes⟩)
    (c_greatest_boxes : PySem.W.codeIn K cd_greatest_boxes "greatest_boxes" = true)
    (k_greatest_boxes : PySem.W.keepIn K (.ref x_greatest_boxes) = true)
    (a_cells_of_box : PySem.W.nsIn K mainGlobals "cells_of_box" = some (some (.ref x_cells_of_box)))
    (l_cells_of_box : K.lookup x_cells_of_box = some ⟨oc_cells_of_box, od_cells_of_box, .func (PySem.W.fnOf "cells_of_box" "cells_of_box" (defArgs s_cells_of_box) (defBody s_cells_of_box) (defScope s_cells_of_box) .none kV_cells_of_box dc_cells_of_box pm_cells_of_box an_cells_of_box cd_cells_of_box ct_cells_of_box), sl_cells_of_box⟩)
    (c_cells_of_box : PySem.W.codeIn K cd_cells_of_box "cells_of_box" = true)
    (k_cells_of_box : PySem.W.keepIn K (.ref x_cells_of_box) = true)
    (a_cells_of : PySem.W.nsIn K mainGlobals "cells_of" = some (some (.ref x_cells_of)))
    (l_cells_of : K.lookup x_cells_of = some ⟨oc_cells_of, od_cells_of, .func (PySem.W.fnOf "cells_of" "cells_of" (defArgs s_cells_of) (defBody s_cells_of) (defScope s_cells_of) .none kV_cells_of dc_cells_of pm_cells_of an_cells_of cd_cells_of ct_cells_of), sl_cells_of⟩)
    (c_cells_of : PySem.W.codeIn K cd_cells_of "cells_of" = true)
    (k_cells_of : PySem.W.keepIn K (.ref x_cells_of) = true)
    (a_is_number : PySem.W.nsIn K mainGlobals "is_number" = some (some (.ref x_is_number)))
    (l_is_number : K.lookup x_is_number = some ⟨oc_is_number, od_is_number, .func (PySem.W.fnOf "is_number" "is_number" (defArgs s_is_number) (defBody s_is_number) (defScope s_is_number) .none kV_is_number dc_is_number pm_is_number an_is_number cd_is_number ct_is_number), sl_is_number⟩)
    (c_is_number : PySem.W.codeIn K cd_is_number "is_number" = true)
    (k_is_number : PySem.W.keepIn K (.ref x_is_number) = true)
    (a_is_pair : PySem.W.nsIn K mainGlobals "is_pair" = some (some (.ref x_is_pair)))
    (l_is_pair : K.lookup x_is_pair = some ⟨oc_is_pair, od_is_pair, .func (PySem.W.fnOf "is_pair" "is_pair" (defArgs s_is_pair) (defBody s_is_pair) (defScope s_is_pair) .none kV_is_pair dc_is_pair pm_is_pair an_is_pair cd_is_pair ct_is_pair), sl_is_pair⟩)
    (c_is_pair : PySem.W.codeIn K cd_is_pair "is_pair" = true)
    (k_is_pair : PySem.W.keepIn K (.ref x_is_pair) = true)
    (a_is_box : PySem.W.nsIn K mainGlobals "is_box" = some (some (.ref x_is_box)))
    (l_is_box : K.lookup x_is_box = some ⟨oc_is_box, od_is_box, .func (PySem.W.fnOf "is_box" "is_box" (defArgs s_is_box) (defBody s_is_box) (defScope s_is_box) .none kV_is_box dc_is_box pm_is_box an_is_box cd_is_box ct_is_box), sl_is_box⟩)
    (c_is_box : PySem.W.codeIn K cd_is_box "is_box" = true)
    (k_is_box : PySem.W.keepIn K (.ref x_is_box) = true)
    (a_law_made : PySem.W.nsIn K mainGlobals "_law_made" = some (some (.ref x_law_made)))
    (l_law_made : K.lookup x_law_made = some ⟨oc_law_made, od_law_made, .func (PySem.W.fnOf "_law_made" "_law_made" (defArgs s_law_made) (defBody s_law_made) (defScope s_law_made) .none kV_law_made dc_law_made pm_law_made an_law_made cd_law_made ct_law_made), sl_law_made⟩)
    (c_law_made : PySem.W.codeIn K cd_law_made "_law_made" = true)
    (k_law_made : PySem.W.keepIn K (.ref x_law_made) = true)
    (a_law_grain : PySem.W.nsIn K mainGlobals "_law_grain" = some (some (.ref x_law_grain)))
    (l_law_grain : K.lookup x_law_grain = some ⟨oc_law_grain, od_law_grain, .func (PySem.W.fnOf "_law_grain" "_law_grain" (defArgs s_law_grain) (defBody s_law_grain) (defScope s_law_grain) .none kV_law_grain dc_law_grain pm_law_grain an_law_grain cd_law_grain ct_law_grain), sl_law_grain⟩)
    (c_law_grain : PySem.W.codeIn K cd_law_grain "_law_grain" = true)
    (k_law_grain : PySem.W.keepIn K (.ref x_law_grain) = true)
    (a_law_span : PySem.W.nsIn K mainGlobals "_law_span" = some (some (.ref x_law_span)))
    (l_law_span : K.lookup x_law_span = some ⟨oc_law_span, od_law_span, .func (PySem.W.fnOf "_law_span" "_law_span" (defArgs s_law_span) (defBody s_law_span) (defScope s_law_span) .none kV_law_span dc_law_span pm_law_span an_law_span cd_law_span ct_law_span), sl_law_span⟩)
    (c_law_span : PySem.W.codeIn K cd_law_span "_law_span" = true)
    (k_law_span : PySem.W.keepIn K (.ref x_law_span) = true)
    (a_law_near : PySem.W.nsIn K mainGlobals "_law_near" = some (some (.ref x_law_near)))
    (l_law_near : K.lookup x_law_near = some ⟨oc_law_near, od_law_near, .func (PySem.W.fnOf "_law_near" "_law_near" (defArgs s_law_near) (defBody s_law_near) (defScope s_law_near) .none kV_law_near dc_law_near pm_law_near an_law_near cd_law_near ct_law_near), sl_law_near⟩)
    (c_law_near : PySem.W.codeIn K cd_law_near "_law_near" = true)
    (k_law_near : PySem.W.keepIn K (.ref x_law_near) = true)
    (a_law_drawn : PySem.W.nsIn K mainGlobals "_law_drawn" = some (some (.ref x_law_drawn)))
    (l_law_drawn : K.lookup x_law_drawn = some ⟨oc_law_drawn, od_law_drawn, .func (PySem.W.fnOf "_law_drawn" "_law_drawn" (defArgs s_law_drawn) (defBody s_law_drawn) (defScope s_law_drawn) .none kV_law_drawn dc_law_drawn pm_law_drawn an_law_drawn cd_law_drawn ct_law_drawn), sl_law_drawn⟩)
    (c_law_drawn : PySem.W.codeIn K cd_law_drawn "_law_drawn" = true)
    (k_law_drawn : PySem.W.keepIn K (.ref x_law_drawn) = true)
    (a_check_alike : PySem.W.nsIn K mainGlobals "check_alike" = some (some (.ref x_check_alike)))
    (l_check_alike : K.lookup x_check_alike = some ⟨oc_check_alike, od_check_alike, .func (PySem.W.fnOf "check_alike" "check_alike" (defArgs s_check_alike) (defBody s_check_alike) (defScope s_check_alike) .none kV_check_alike dc_check_alike pm_check_alike an_check_alike cd_check_alike ct_check_alike), sl_check_alike⟩)
    (c_check_alike : PySem.W.codeIn K cd_check_alike "check_alike" = true)
    (k_check_alike : PySem.W.keepIn K (.ref x_check_alike) = true)
    (a_shared_cuts : PySem.W.nsIn K mainGlobals "shared_cuts" = some (some (.ref x_shared_cuts)))
    (l_shared_cuts : K.lookup x_shared_cuts = some ⟨oc_shared_cuts, od_shared_cuts, .func (PySem.W.fnOf "shared_cuts" "shared_cuts" (defArgs s_shared_cuts) (defBody s_shared_cuts) (defScope s_shared_cuts) .none kV_shared_cuts dc_shared_cuts pm_shared_cuts an_shared_cuts cd_shared_cuts ct_shared_cuts), sl_shared_cuts⟩)
    (c_shared_cuts : PySem.W.codeIn K cd_shared_cuts "shared_cuts" = true)
    (k_shared_cuts : PySem.W.keepIn K (.ref x_shared_cuts) = true)
    (a_lies_within : PySem.W.nsIn K mainGlobals "lies_within" = some (some (.ref x_lies_within)))
    (l_lies_within : K.lookup x_lies_within = some ⟨oc_lies_within, od_lies_within, .func (PySem.W.fnOf "lies_within" "lies_within" (defArgs s_lies_within) (defBody s_lies_within) (defScope s_lies_within) .none kV_lies_within dc_lies_within pm_lies_within an_lies_within cd_lies_within ct_lies_within), sl_lies_within⟩)
    (c_lies_within : PySem.W.codeIn K cd_lies_within "lies_within" = true)
    (k_lies_within : PySem.W.keepIn K (.ref x_lies_within) = true)
    (a_law_caught : PySem.W.nsIn K mainGlobals "_law_caught" = some (some (.ref x_law_caught)))
    (l_law_caught : K.lookup x_law_caught = some ⟨oc_law_caught, od_law_caught, .func (PySem.W.fnOf "_law_caught" "_law_caught" (defArgs s_law_caught) (defBody s_law_caught) (defScope s_law_caught) .none kV_law_caught dc_law_caught pm_law_caught an_law_caught cd_law_caught ct_law_caught), sl_law_caught⟩)
    (c_law_caught : PySem.W.codeIn K cd_law_caught "_law_caught" = true)
    (k_law_caught : PySem.W.keepIn K (.ref x_law_caught) = true)
    (a_law_right : PySem.W.nsIn K mainGlobals "_law_right" = some (some (.ref x_law_right)))
    (l_law_right : K.lookup x_law_right = some ⟨oc_law_right, od_law_right, .func (PySem.W.fnOf "_law_right" "_law_right" (defArgs s_law_right) (defBody s_law_right) (defScope s_law_right) .none kV_law_right dc_law_right pm_law_right an_law_right cd_law_right ct_law_right), sl_law_right⟩)
    (c_law_right : PySem.W.codeIn K cd_law_right "_law_right" = true)
    (k_law_right : PySem.W.keepIn K (.ref x_law_right) = true)
    (a_law : PySem.W.nsIn K mainGlobals "law" = some (some (.ref x_law)))
    (l_law : K.lookup x_law = some ⟨oc_law, od_law, .func (PySem.W.fnOf "law" "law" (defArgs s_law) (defBody s_law) (defScope s_law) .none kV_law dc_law pm_law an_law cd_law ct_law), sl_law⟩)
    (c_law : PySem.W.codeIn K cd_law "law" = true)
    (k_law : PySem.W.keepIn K (.ref x_law) = true)
    (a_CrowdError : PySem.W.nsIn K mainGlobals "CrowdError" = some (some (.ref x_CrowdError)))
    (xl_CrowdError : K.lookup x_CrowdError = some (excClassObj nm_CrowdError qq_CrowdError x_CrowdError N_CrowdError bs_CrowdError [.type "ValueError", .type "Exception", .type "BaseException", .type "object"] true sn_CrowdError sub_CrowdError ab_CrowdError col_CrowdError dd_CrowdError k0_CrowdError k1_CrowdError k2_CrowdError k3_CrowdError k5_CrowdError "ValueError.__new__"))
    (sa_CrowdError : PySem.W.findIn K (.ref x_CrowdError) "__setattr__" = some (some (.builtin "object.__setattr__")))
    (ga_CrowdError : PySem.W.findIn K (.ref x_CrowdError) "__getattribute__" = some (some (.builtin "BaseException.__getattribute__")))
    (gg_CrowdError : PySem.W.findIn K (.ref x_CrowdError) "__getattr__" = some none)
    (nv_CrowdError : PySem.W.findIn K (.ref x_CrowdError) "value" = some none)
    (kc_CrowdError : PySem.W.keepIn K (.ref x_CrowdError) = true)
    (ex_CrowdError : PySem.W.subIn K (.ref x_CrowdError) (.type "BaseException") = some true)
    (ty_CrowdError : PySem.W.typeIn K (.ref x_CrowdError) = some (.type "type"))
    (hd_CrowdError : PySem.W.hasDictIn K x_CrowdError = true)
    (ha_CrowdError : PySem.W.findIn K (.ref x_CrowdError) "__class__" = some (some (.builtin "object.__class__")))
    (hm_CrowdError : PySem.W.mroIn K x_CrowdError (.type "object") = some true)
    (xm_CrowdError : PySem.W.exmOne K (.ref x_CrowdError) (.ref x_CrowdError) = some true)
    (ic_CrowdError : PySem.W.findIn K (.ref x_CrowdError) "__init__" = some (some (.ref x_ErrInit)))
    (a_InvalidBox : PySem.W.nsIn K mainGlobals "InvalidBox" = some (some (.ref x_InvalidBox)))
    (xl_InvalidBox : K.lookup x_InvalidBox = some (excClassObj nm_InvalidBox qq_InvalidBox x_InvalidBox N_InvalidBox bs_InvalidBox [.ref x_CrowdError, .type "ValueError", .type "Exception", .type "BaseException", .type "object"] true sn_InvalidBox sub_InvalidBox ab_InvalidBox col_InvalidBox dd_InvalidBox k0_InvalidBox k1_InvalidBox k2_InvalidBox k3_InvalidBox k5_InvalidBox "ValueError.__new__"))
    (sa_InvalidBox : PySem.W.findIn K (.ref x_InvalidBox) "__setattr__" = some (some (.builtin "object.__setattr__")))
    (ga_InvalidBox : PySem.W.findIn K (.ref x_InvalidBox) "__getattribute__" = some (some (.builtin "BaseException.__getattribute__")))
    (gg_InvalidBox : PySem.W.findIn K (.ref x_InvalidBox) "__getattr__" = some none)
    (nv_InvalidBox : PySem.W.findIn K (.ref x_InvalidBox) "value" = some none)
    (kc_InvalidBox : PySem.W.keepIn K (.ref x_InvalidBox) = true)
    (ex_InvalidBox : PySem.W.subIn K (.ref x_InvalidBox) (.type "BaseException") = some true)
    (ty_InvalidBox : PySem.W.typeIn K (.ref x_InvalidBox) = some (.type "type"))
    (hd_InvalidBox : PySem.W.hasDictIn K x_InvalidBox = true)
    (ha_InvalidBox : PySem.W.findIn K (.ref x_InvalidBox) "__class__" = some (some (.builtin "object.__class__")))
    (hm_InvalidBox : PySem.W.mroIn K x_InvalidBox (.type "object") = some true)
    (xm_InvalidBox : PySem.W.exmOne K (.ref x_InvalidBox) (.ref x_CrowdError) = some true)
    (ic_InvalidBox : PySem.W.findIn K (.ref x_InvalidBox) "__init__" = some (some (.ref x_ErrInit)))
    (a_UnlikeKinds : PySem.W.nsIn K mainGlobals "UnlikeKinds" = some (some (.ref x_UnlikeKinds)))
    (xl_UnlikeKinds : K.lookup x_UnlikeKinds = some (excClassObj nm_UnlikeKinds qq_UnlikeKinds x_UnlikeKinds N_UnlikeKinds bs_UnlikeKinds [.ref x_CrowdError, .type "ValueError", .type "Exception", .type "BaseException", .type "object"] true sn_UnlikeKinds sub_UnlikeKinds ab_UnlikeKinds col_UnlikeKinds dd_UnlikeKinds k0_UnlikeKinds k1_UnlikeKinds k2_UnlikeKinds k3_UnlikeKinds k5_UnlikeKinds "ValueError.__new__"))
    (sa_UnlikeKinds : PySem.W.findIn K (.ref x_UnlikeKinds) "__setattr__" = some (some (.builtin "object.__setattr__")))
    (ga_UnlikeKinds : PySem.W.findIn K (.ref x_UnlikeKinds) "__getattribute__" = some (some (.builtin "BaseException.__getattribute__")))
    (gg_UnlikeKinds : PySem.W.findIn K (.ref x_UnlikeKinds) "__getattr__" = some none)
    (nv_UnlikeKinds : PySem.W.findIn K (.ref x_UnlikeKinds) "value" = some none)
    (kc_UnlikeKinds : PySem.W.keepIn K (.ref x_UnlikeKinds) = true)
    (ex_UnlikeKinds : PySem.W.subIn K (.ref x_UnlikeKinds) (.type "BaseException") = some true)
    (ty_UnlikeKinds : PySem.W.typeIn K (.ref x_UnlikeKinds) = some (.type "type"))
    (hd_UnlikeKinds : PySem.W.hasDictIn K x_UnlikeKinds = true)
    (ha_UnlikeKinds : PySem.W.findIn K (.ref x_UnlikeKinds) "__class__" = some (some (.builtin "object.__class__")))
    (hm_UnlikeKinds : PySem.W.mroIn K x_UnlikeKinds (.type "object") = some true)
    (xm_UnlikeKinds : PySem.W.exmOne K (.ref x_UnlikeKinds) (.ref x_CrowdError) = some true)
    (ic_UnlikeKinds : PySem.W.findIn K (.ref x_UnlikeKinds) "__init__" = some (some (.ref x_ErrInit)))
    (kit_CrowdError_UnlikeKinds : PySem.W.kitOne K (.ref x_CrowdError) (.ref x_UnlikeKinds) = some false)
    (kit_InvalidBox_UnlikeKinds : PySem.W.kitOne K (.ref x_InvalidBox) (.ref x_UnlikeKinds) = some false)
    (kit_UnlikeKinds_UnlikeKinds : PySem.W.kitOne K (.ref x_UnlikeKinds) (.ref x_UnlikeKinds) = some true)
    (l_ErrInit : K.lookup x_ErrInit = some ⟨oc_ErrInit, od_ErrInit, .func (PySem.W.fnOf "__init__" "CrowdError.__init__" (defArgs s_ErrInit) (defBody s_ErrInit) (defScope s_ErrInit) .none kV_ErrInit dc_ErrInit pm_ErrInit an_ErrInit cd_ErrInit ct_ErrInit), sl_ErrInit⟩)
    (c_ErrInit : PySem.W.codeIn K cd_ErrInit "CrowdError.__init__" = true)
    (k_ErrInit : PySem.W.keepIn K (.ref x_ErrInit) = true)
    (ti_ErrInit : PySem.W.typeIn K (.ref x_ErrInit) = some (.type "function"))
    (a_Family : PySem.W.nsIn K mainGlobals "Family" = some (some (.ref x_Family)))
    (g_Family_init : PySem.W.findIn K (.ref x_Family) "__init__" = some (some (.ref x_Family_init)))
    (i_Family_init : PySem.W.isFn K (.ref x_Family_init) = true)
    (l_Family_init : K.lookup x_Family_init = some ⟨oc_Family_init, od_Family_init, .func (PySem.W.fnOf "__init__" "Family.__init__" (defArgs s_Family_init) (defBody s_Family_init) (defScope s_Family_init) .none kV_Family_init dc_Family_init pm_Family_init an_Family_init cd_Family_init ct_Family_init), sl_Family_init⟩)
    (c_Family_init : PySem.W.codeIn K cd_Family_init "Family.__init__" = true)
    (k_Family_init : PySem.W.keepIn K (.ref x_Family_init) = true)
    (g_Family_within : PySem.W.findIn K (.ref x_Family) "within" = some (some (.ref x_Family_within)))
    (i_Family_within : PySem.W.isFn K (.ref x_Family_within) = true)
    (l_Family_within : K.lookup x_Family_within = some ⟨oc_Family_within, od_Family_within, .func (PySem.W.fnOf "within" "Family.within" (defArgs s_Family_within) (defBody s_Family_within) (defScope s_Family_within) .none kV_Family_within dc_Family_within pm_Family_within an_Family_within cd_Family_within ct_Family_within), sl_Family_within⟩)
    (c_Family_within : PySem.W.codeIn K cd_Family_within "Family.within" = true)
    (k_Family_within : PySem.W.keepIn K (.ref x_Family_within) = true)
    (g_Family_eq : PySem.W.findIn K (.ref x_Family) "__eq__" = some (some (.ref x_Family_eq)))
    (i_Family_eq : PySem.W.isFn K (.ref x_Family_eq) = true)
    (l_Family_eq : K.lookup x_Family_eq = some ⟨oc_Family_eq, od_Family_eq, .func (PySem.W.fnOf "__eq__" "Family.__eq__" (defArgs s_Family_eq) (defBody s_Family_eq) (defScope s_Family_eq) .none kV_Family_eq dc_Family_eq pm_Family_eq an_Family_eq cd_Family_eq ct_Family_eq), sl_Family_eq⟩)
    (c_Family_eq : PySem.W.codeIn K cd_Family_eq "Family.__eq__" = true)
    (k_Family_eq : PySem.W.keepIn K (.ref x_Family_eq) = true)
    (g_Family_and : PySem.W.findIn K (.ref x_Family) "__and__" = some (some (.ref x_Family_and)))
    (i_Family_and : PySem.W.isFn K (.ref x_Family_and) = true)
    (l_Family_and : K.lookup x_Family_and = some ⟨oc_Family_and, od_Family_and, .func (PySem.W.fnOf "__and__" "Family.__and__" (defArgs s_Family_and) (defBody s_Family_and) (defScope s_Family_and) .none kV_Family_and dc_Family_and pm_Family_and an_Family_and cd_Family_and ct_Family_and), sl_Family_and⟩)
    (c_Family_and : PySem.W.codeIn K cd_Family_and "Family.__and__" = true)
    (k_Family_and : PySem.W.keepIn K (.ref x_Family_and) = true)
    (g_Family_or : PySem.W.findIn K (.ref x_Family) "__or__" = some (some (.ref x_Family_or)))
    (i_Family_or : PySem.W.isFn K (.ref x_Family_or) = true)
    (l_Family_or : K.lookup x_Family_or = some ⟨oc_Family_or, od_Family_or, .func (PySem.W.fnOf "__or__" "Family.__or__" (defArgs s_Family_or) (defBody s_Family_or) (defScope s_Family_or) .none kV_Family_or dc_Family_or pm_Family_or an_Family_or cd_Family_or ct_Family_or), sl_Family_or⟩)
    (c_Family_or : PySem.W.codeIn K cd_Family_or "Family.__or__" = true)
    (k_Family_or : PySem.W.keepIn K (.ref x_Family_or) = true)
    (g_Family_sub : PySem.W.findIn K (.ref x_Family) "__sub__" = some (some (.ref x_Family_sub)))
    (i_Family_sub : PySem.W.isFn K (.ref x_Family_sub) = true)
    (l_Family_sub : K.lookup x_Family_sub = some ⟨oc_Family_sub, od_Family_sub, .func (PySem.W.fnOf "__sub__" "Family.__sub__" (defArgs s_Family_sub) (defBody s_Family_sub) (defScope s_Family_sub) .none kV_Family_sub dc_Family_sub pm_Family_sub an_Family_sub cd_Family_sub ct_Family_sub), sl_Family_sub⟩)
    (c_Family_sub : PySem.W.codeIn K cd_Family_sub "Family.__sub__" = true)
    (k_Family_sub : PySem.W.keepIn K (.ref x_Family_sub) = true)
    (sf_Family : PySem.W.selfFirst K x_Family = true)
    (pg_Family : PySem.W.plainGet K x_Family Str.empty = true)
    (hd_Family : PySem.W.hasDictIn K x_Family = true)
    (po_Family : PySem.W.plainOver K x_Family = true)
    (sa_Family : PySem.W.findIn K (.ref x_Family) "__setattr__" = some (some (.builtin "object.__setattr__")))
    (mk_Family : PySem.W.makesIn K x_Family = true)
    (kc_Family : PySem.W.keepIn K (.ref x_Family) = true)
    (ha_Family : PySem.W.findIn K (.ref x_Family) "__class__" = some (some (.builtin "object.__class__")))
    (hm_Family : PySem.W.mroIn K x_Family (.type "object") = some true)
    (n_Family_kinds : PySem.W.findIn K (.ref x_Family) "_kinds" = some none)
    (n_Family_boxes : PySem.W.findIn K (.ref x_Family) "_boxes" = some none)
    (hn_ : PySem.W.specialIn K (.builtin "object.__class__") "__get__" = some (some (.builtin "getset_descriptor.__get__")))
    (ht_ : PySem.W.takesIn K (.builtin "object.__class__") = some true)
    (z_abs : PySem.W.nsIn K mainGlobals "abs" = some none)
    (z_all : PySem.W.nsIn K mainGlobals "all" = some none)
    (z_any : PySem.W.nsIn K mainGlobals "any" = some none)
    (z_bool : PySem.W.nsIn K mainGlobals "bool" = some none)
    (z_enumerate : PySem.W.nsIn K mainGlobals "enumerate" = some none)
    (z_int : PySem.W.nsIn K mainGlobals "int" = some none)
    (z_isinstance : PySem.W.nsIn K mainGlobals "isinstance" = some none)
    (z_len : PySem.W.nsIn K mainGlobals "len" = some none)
    (z_list : PySem.W.nsIn K mainGlobals "list" = some none)
    (z_max : PySem.W.nsIn K mainGlobals "max" = some none)
    (z_min : PySem.W.nsIn K mainGlobals "min" = some none)
    (z_range : PySem.W.nsIn K mainGlobals "range" = some none)
    (z_repr : PySem.W.nsIn K mainGlobals "repr" = some none)
    (z_reversed : PySem.W.nsIn K mainGlobals "reversed" = some none)
    (z_set : PySem.W.nsIn K mainGlobals "set" = some none)
    (z_sorted : PySem.W.nsIn K mainGlobals "sorted" = some none)
    (z_sum : PySem.W.nsIn K mainGlobals "sum" = some none)
    (z_tuple : PySem.W.nsIn K mainGlobals "tuple" = some none)
    (z_zip : PySem.W.nsIn K mainGlobals "zip" = some none)
    : ∃ (fd : FuncData) (TB : Tab), (∀ (s : Shared) (u : Value), BindsTo s fd ⟨[u], []⟩ [("script", u)]) ∧ ∀ base : Heap, K.In base → base.Ns mainGlobals mg → FnG l.prog w K mg base 16 fa fd ["script"] (spD K TB d_law 1) := by
  have hfl : x_law = fa := by
    cases hfa.symm.trans (PySem.W.mg_of X G a_law)
    rfl
  subst hfl
  have F_law_quern := fun_mk (st := s_law_quern) l_law_quern c_law_quern k_law_quern
  have F_Family_eq := fun_mk (st := s_Family_eq) l_Family_eq c_Family_eq k_Family_eq
  have F_edges := fun_mk (st := s_edges) l_edges c_edges k_edges
  have F_cuts_of := fun_mk (st := s_cuts_of) l_cuts_of c_cuts_of k_cuts_of
  have F_pair_of := fun_mk (st := s_pair_of) l_pair_of c_pair_of k_pair_of
  have F_box_of := fun_mk (st := s_box_of) l_box_of c_box_of k_box_of
  have F_volume := fun_mk (st := s_volume) l_volume c_volume k_volume
  have F_repeated := fun_mk (st := s_repeated) l_repeated c_repeated k_repeated
  have F_blocks_from := fun_mk (st := s_blocks_from) l_blocks_from c_blocks_from k_blocks_from
  have F_blocks := fun_mk (st := s_blocks) l_blocks c_blocks k_blocks
  have F_sizes_of := fun_mk (st := s_sizes_of) l_sizes_of c_sizes_of k_sizes_of
  have F_greatest_boxes := fun_mk (st := s_greatest_boxes) l_greatest_boxes c_greatest_boxes k_greatest_boxes
  have F_ErrInit := fun_mk (st := s_ErrInit) l_ErrInit c_ErrInit k_ErrInit
  have F_cells_of_box := fun_mk (st := s_cells_of_box) l_cells_of_box c_cells_of_box k_cells_of_box
  have F_cells_of := fun_mk (st := s_cells_of) l_cells_of c_cells_of k_cells_of
  have F_is_number := fun_mk (st := s_is_number) l_is_number c_is_number k_is_number
  have F_is_pair := fun_mk (st := s_is_pair) l_is_pair c_is_pair k_is_pair
  have F_is_box := fun_mk (st := s_is_box) l_is_box c_is_box k_is_box
  have F_Family_init := fun_mk (st := s_Family_init) l_Family_init c_Family_init k_Family_init
  have F_law_made := fun_mk (st := s_law_made) l_law_made c_law_made k_law_made
  have F_law_grain := fun_mk (st := s_law_grain) l_law_grain c_law_grain k_law_grain
  have F_law_span := fun_mk (st := s_law_span) l_law_span c_law_span k_law_span
  have F_law_near := fun_mk (st := s_law_near) l_law_near c_law_near k_law_near
  have F_law_drawn := fun_mk (st := s_law_drawn) l_law_drawn c_law_drawn k_law_drawn
  have F_check_alike := fun_mk (st := s_check_alike) l_check_alike c_check_alike k_check_alike
  have F_shared_cuts := fun_mk (st := s_shared_cuts) l_shared_cuts c_shared_cuts k_shared_cuts
  have F_Family_and := fun_mk (st := s_Family_and) l_Family_and c_Family_and k_Family_and
  have F_Family_or := fun_mk (st := s_Family_or) l_Family_or c_Family_or k_Family_or
  have F_Family_sub := fun_mk (st := s_Family_sub) l_Family_sub c_Family_sub k_Family_sub
  have F_lies_within := fun_mk (st := s_lies_within) l_lies_within c_lies_within k_lies_within
  have F_Family_within := fun_mk (st := s_Family_within) l_Family_within c_Family_within k_Family_within
  have F_law_caught := fun_mk (st := s_law_caught) l_law_caught c_law_caught k_law_caught
  have F_law_right := fun_mk (st := s_law_right) l_law_right c_law_right k_law_right
  have F_law := fun_mk (st := s_law) l_law c_law k_law
  let T : Tx K mg := {
    a_law_quern := x_law_quern, f_law_quern := (PySem.W.fnOf "_law_quern" "_law_quern" (defArgs s_law_quern) (defBody s_law_quern) (defScope s_law_quern) .none kV_law_quern dc_law_quern pm_law_quern an_law_quern cd_law_quern ct_law_quern), F_law_quern := F_law_quern
    b_law_quern := F_law_quern.binds (ps := ["script", "place"]) fun _ _ _ _ _ _ us hl => match us, hl with | [_, _], _ => rfl
    m_law_quern := PySem.W.mg_of X G a_law_quern, k_law_quern := k_law_quern
    a_Family_eq := x_Family_eq, f_Family_eq := (PySem.W.fnOf "__eq__" "Family.__eq__" (defArgs s_Family_eq) (defBody s_Family_eq) (defScope s_Family_eq) .none kV_Family_eq dc_Family_eq pm_Family_eq an_Family_eq cd_Family_eq ct_Family_eq), F_Family_eq := F_Family_eq
    b_Family_eq := F_Family_eq.binds (ps := ["self", "other"]) fun _ _ _ _ _ _ us hl => match us, hl with | [_, _], _ => rfl
    a_edges := x_edges, f_edges := (PySem.W.fnOf "edges" "edges" (defArgs s_edges) (defBody s_edges) (defScope s_edges) .none kV_edges dc_edges pm_edges an_edges cd_edges ct_edges), F_edges := F_edges
    b_edges := F_edges.binds (ps := ["boxes", "kind"]) fun _ _ _ _ _ _ us hl => match us, hl with | [_, _], _ => rfl
    m_edges := PySem.W.mg_of X G a_edges, k_edges := k_edges
    a_cuts_of := x_cuts_of, f_cuts_of := (PySem.W.fnOf "cuts_of" "cuts_of" (defArgs s_cuts_of) (defBody s_cuts_of) (defScope s_cuts_of) .none kV_cuts_of dc_cuts_of pm_cuts_of an_cuts_of cd_cuts_of ct_cuts_of), F_cuts_of := F_cuts_of
    b_cuts_of := F_cuts_of.binds (ps := ["kinds", "boxes"]) fun _ _ _ _ _ _ us hl => match us, hl with | [_, _], _ => rfl
    m_cuts_of := PySem.W.mg_of X G a_cuts_of, k_cuts_of := k_cuts_of
    a_pair_of := x_pair_of, f_pair_of := (PySem.W.fnOf "pair_of" "pair_of" (defArgs s_pair_of) (defBody s_pair_of) (defScope s_pair_of) .none kV_pair_of dc_pair_of pm_pair_of an_pair_of cd_pair_of ct_pair_of), F_pair_of := F_pair_of
    b_pair_of := F_pair_of.binds (ps := ["low", "end", "row"]) fun _ _ _ _ _ _ us hl => match us, hl with | [_, _, _], _ => rfl
    m_pair_of := PySem.W.mg_of X G a_pair_of, k_pair_of := k_pair_of
    a_box_of := x_box_of, f_box_of := (PySem.W.fnOf "box_of" "box_of" (defArgs s_box_of) (defBody s_box_of) (defScope s_box_of) .none kV_box_of dc_box_of pm_box_of an_box_of cd_box_of ct_box_of), F_box_of := F_box_of
    b_box_of := F_box_of.binds (ps := ["ranges", "cuts"]) fun _ _ _ _ _ _ us hl => match us, hl with | [_, _], _ => rfl
    m_box_of := PySem.W.mg_of X G a_box_of, k_box_of := k_box_of
    a_volume := x_volume, f_volume := (PySem.W.fnOf "volume" "volume" (defArgs s_volume) (defBody s_volume) (defScope s_volume) .none kV_volume dc_volume pm_volume an_volume cd_volume ct_volume), F_volume := F_volume
    b_volume := F_volume.binds (ps := ["sizes"]) fun _ _ _ _ _ _ us hl => match us, hl with | [_], _ => rfl
    m_volume := PySem.W.mg_of X G a_volume, k_volume := k_volume
    a_repeated := x_repeated, f_repeated := (PySem.W.fnOf "repeated" "repeated" (defArgs s_repeated) (defBody s_repeated) (defScope s_repeated) .none kV_repeated dc_repeated pm_repeated an_repeated cd_repeated ct_repeated), F_repeated := F_repeated
    b_repeated := F_repeated.binds (ps := ["cells", "width", "low", "end"]) fun _ _ _ _ _ _ us hl => match us, hl with | [_, _, _, _], _ => rfl
    m_repeated := PySem.W.mg_of X G a_repeated, k_repeated := k_repeated
    a_blocks_from := x_blocks_from, f_blocks_from := (PySem.W.fnOf "blocks_from" "blocks_from" (defArgs s_blocks_from) (defBody s_blocks_from) (defScope s_blocks_from) .none kV_blocks_from dc_blocks_from pm_blocks_from an_blocks_from cd_blocks_from ct_blocks_from), F_blocks_from := F_blocks_from
    b_blocks_from := F_blocks_from.binds (ps := ["low", "layers", "width", "sizes"]) fun _ _ _ _ _ _ us hl => match us, hl with | [_, _, _, _], _ => rfl
    m_blocks_from := PySem.W.mg_of X G a_blocks_from, k_blocks_from := k_blocks_from
    a_blocks := x_blocks, f_blocks := (PySem.W.fnOf "blocks" "blocks" (defArgs s_blocks) (defBody s_blocks) (defScope s_blocks) .none kV_blocks dc_blocks pm_blocks an_blocks cd_blocks ct_blocks), F_blocks := F_blocks
    b_blocks := F_blocks.binds (ps := ["cells", "sizes"]) fun _ _ _ _ _ _ us hl => match us, hl with | [_, _], _ => rfl
    m_blocks := PySem.W.mg_of X G a_blocks, k_blocks := k_blocks
    a_sizes_of := x_sizes_of, f_sizes_of := (PySem.W.fnOf "sizes_of" "sizes_of" (defArgs s_sizes_of) (defBody s_sizes_of) (defScope s_sizes_of) .none kV_sizes_of dc_sizes_of pm_sizes_of an_sizes_of cd_sizes_of ct_sizes_of), F_sizes_of := F_sizes_of
    b_sizes_of := F_sizes_of.binds (ps := ["cuts"]) fun _ _ _ _ _ _ us hl => match us, hl with | [_], _ => rfl
    m_sizes_of := PySem.W.mg_of X G a_sizes_of, k_sizes_of := k_sizes_of
    a_greatest_boxes := x_greatest_boxes, f_greatest_boxes := (PySem.W.fnOf "greatest_boxes" "greatest_boxes" (defArgs s_greatest_boxes) (defBody s_greatest_boxes) (defScope s_greatest_boxes) .none kV_greatest_boxes dc_greatest_boxes pm_greatest_boxes an_greatest_boxes cd_greatest_boxes ct_greatest_boxes), F_greatest_boxes := F_greatest_boxes
    b_greatest_boxes := F_greatest_boxes.binds (ps := ["cells", "cuts"]) fun _ _ _ _ _ _ us hl => match us, hl with | [_, _], _ => rfl
    m_greatest_boxes := PySem.W.mg_of X G a_greatest_boxes, k_greatest_boxes := k_greatest_boxes
    a_ErrInit := x_ErrInit, f_ErrInit := (PySem.W.fnOf "__init__" "CrowdError.__init__" (defArgs s_ErrInit) (defBody s_ErrInit) (defScope s_ErrInit) .none kV_ErrInit dc_ErrInit pm_ErrInit an_ErrInit cd_ErrInit ct_ErrInit), F_ErrInit := F_ErrInit
    b_ErrInit := F_ErrInit.binds (ps := ["self", "value"]) fun _ _ _ _ _ _ us hl => match us, hl with | [_, _], _ => rfl
    a_cells_of_box := x_cells_of_box, f_cells_of_box := (PySem.W.fnOf "cells_of_box" "cells_of_box" (defArgs s_cells_of_box) (defBody s_cells_of_box) (defScope s_cells_of_box) .none kV_cells_of_box dc_cells_of_box pm_cells_of_box an_cells_of_box cd_cells_of_box ct_cells_of_box), F_cells_of_box := F_cells_of_box
    b_cells_of_box := F_cells_of_box.binds (ps := ["box", "cuts"]) fun _ _ _ _ _ _ us hl => match us, hl with | [_, _], _ => rfl
    m_cells_of_box := PySem.W.mg_of X G a_cells_of_box, k_cells_of_box := k_cells_of_box
    a_cells_of := x_cells_of, f_cells_of := (PySem.W.fnOf "cells_of" "cells_of" (defArgs s_cells_of) (defBody s_cells_of) (defScope s_cells_of) .none kV_cells_of dc_cells_of pm_cells_of an_cells_of cd_cells_of ct_cells_of), F_cells_of := F_cells_of
    b_cells_of := F_cells_of.binds (ps := ["boxes", "cuts"]) fun _ _ _ _ _ _ us hl => match us, hl with | [_, _], _ => rfl
    m_cells_of := PySem.W.mg_of X G a_cells_of, k_cells_of := k_cells_of
    a_is_number := x_is_number, f_is_number := (PySem.W.fnOf "is_number" "is_number" (defArgs s_is_number) (defBody s_is_number) (defScope s_is_number) .none kV_is_number dc_is_number pm_is_number an_is_number cd_is_number ct_is_number), F_is_number := F_is_number
    b_is_number := F_is_number.binds (ps := ["value"]) fun _ _ _ _ _ _ us hl => match us, hl with | [_], _ => rfl
    m_is_number := PySem.W.mg_of X G a_is_number, k_is_number := k_is_number
    a_is_pair := x_is_pair, f_is_pair := (PySem.W.fnOf "is_pair" "is_pair" (defArgs s_is_pair) (defBody s_is_pair) (defScope s_is_pair) .none kV_is_pair dc_is_pair pm_is_pair an_is_pair cd_is_pair ct_is_pair), F_is_pair := F_is_pair
    b_is_pair := F_is_pair.binds (ps := ["pair"]) fun _ _ _ _ _ _ us hl => match us, hl with | [_], _ => rfl
    m_is_pair := PySem.W.mg_of X G a_is_pair, k_is_pair := k_is_pair
    a_is_box := x_is_box, f_is_box := (PySem.W.fnOf "is_box" "is_box" (defArgs s_is_box) (defBody s_is_box) (defScope s_is_box) .none kV_is_box dc_is_box pm_is_box an_is_box cd_is_box ct_is_box), F_is_box := F_is_box
    b_is_box := F_is_box.binds (ps := ["box", "kinds"]) fun _ _ _ _ _ _ us hl => match us, hl with | [_, _], _ => rfl
    m_is_box := PySem.W.mg_of X G a_is_box, k_is_box := k_is_box
    a_Family_init := x_Family_init, f_Family_init := (PySem.W.fnOf "__init__" "Family.__init__" (defArgs s_Family_init) (defBody s_Family_init) (defScope s_Family_init) .none kV_Family_init dc_Family_init pm_Family_init an_Family_init cd_Family_init ct_Family_init), F_Family_init := F_Family_init
    b_Family_init := F_Family_init.binds (ps := ["self", "kinds", "boxes"]) fun _ _ _ _ _ _ us hl => match us, hl with | [_, _, _], _ => rfl
    a_law_made := x_law_made, f_law_made := (PySem.W.fnOf "_law_made" "_law_made" (defArgs s_law_made) (defBody s_law_made) (defScope s_law_made) .none kV_law_made dc_law_made pm_law_made an_law_made cd_law_made ct_law_made), F_law_made := F_law_made
    b_law_made := F_law_made.binds (ps := ["many", "crates"]) fun _ _ _ _ _ _ us hl => match us, hl with | [_, _], _ => rfl
    m_law_made := PySem.W.mg_of X G a_law_made, k_law_made := k_law_made
    a_law_grain := x_law_grain, f_law_grain := (PySem.W.fnOf "_law_grain" "_law_grain" (defArgs s_law_grain) (defBody s_law_grain) (defScope s_law_grain) .none kV_law_grain dc_law_grain pm_law_grain an_law_grain cd_law_grain ct_law_grain), F_law_grain := F_law_grain
    b_law_grain := F_law_grain.binds (ps := ["mill", "many"]) fun _ _ _ _ _ _ us hl => match us, hl with | [_, _], _ => rfl
    m_law_grain := PySem.W.mg_of X G a_law_grain, k_law_grain := k_law_grain
    a_law_span := x_law_span, f_law_span := (PySem.W.fnOf "_law_span" "_law_span" (defArgs s_law_span) (defBody s_law_span) (defScope s_law_span) .none kV_law_span dc_law_span pm_law_span an_law_span cd_law_span ct_law_span), F_law_span := F_law_span
    b_law_span := F_law_span.binds (ps := ["mill", "top"]) fun _ _ _ _ _ _ us hl => match us, hl with | [_, _], _ => rfl
    m_law_span := PySem.W.mg_of X G a_law_span, k_law_span := k_law_span
    a_law_near := x_law_near, f_law_near := (PySem.W.fnOf "_law_near" "_law_near" (defArgs s_law_near) (defBody s_law_near) (defScope s_law_near) .none kV_law_near dc_law_near pm_law_near an_law_near cd_law_near ct_law_near), F_law_near := F_law_near
    b_law_near := F_law_near.binds (ps := ["mill", "crate", "top"]) fun _ _ _ _ _ _ us hl => match us, hl with | [_, _, _], _ => rfl
    m_law_near := PySem.W.mg_of X G a_law_near, k_law_near := k_law_near
    a_law_drawn := x_law_drawn, f_law_drawn := (PySem.W.fnOf "_law_drawn" "_law_drawn" (defArgs s_law_drawn) (defBody s_law_drawn) (defScope s_law_drawn) .none kV_law_drawn dc_law_drawn pm_law_drawn an_law_drawn cd_law_drawn ct_law_drawn), F_law_drawn := F_law_drawn
    b_law_drawn := F_law_drawn.binds (ps := ["mill", "many", "count", "top"]) fun _ _ _ _ _ _ us hl => match us, hl with | [_, _, _, _], _ => rfl
    m_law_drawn := PySem.W.mg_of X G a_law_drawn, k_law_drawn := k_law_drawn
    a_check_alike := x_check_alike, f_check_alike := (PySem.W.fnOf "check_alike" "check_alike" (defArgs s_check_alike) (defBody s_check_alike) (defScope s_check_alike) .none kV_check_alike dc_check_alike pm_check_alike an_check_alike cd_check_alike ct_check_alike), F_check_alike := F_check_alike
    b_check_alike := F_check_alike.binds (ps := ["own", "other"]) fun _ _ _ _ _ _ us hl => match us, hl with | [_, _], _ => rfl
    m_check_alike := PySem.W.mg_of X G a_check_alike, k_check_alike := k_check_alike
    a_shared_cuts := x_shared_cuts, f_shared_cuts := (PySem.W.fnOf "shared_cuts" "shared_cuts" (defArgs s_shared_cuts) (defBody s_shared_cuts) (defScope s_shared_cuts) .none kV_shared_cuts dc_shared_cuts pm_shared_cuts an_shared_cuts cd_shared_cuts ct_shared_cuts), F_shared_cuts := F_shared_cuts
    b_shared_cuts := F_shared_cuts.binds (ps := ["one", "other"]) fun _ _ _ _ _ _ us hl => match us, hl with | [_, _], _ => rfl
    m_shared_cuts := PySem.W.mg_of X G a_shared_cuts, k_shared_cuts := k_shared_cuts
    a_Family_and := x_Family_and, f_Family_and := (PySem.W.fnOf "__and__" "Family.__and__" (defArgs s_Family_and) (defBody s_Family_and) (defScope s_Family_and) .none kV_Family_and dc_Family_and pm_Family_and an_Family_and cd_Family_and ct_Family_and), F_Family_and := F_Family_and
    b_Family_and := F_Family_and.binds (ps := ["self", "other"]) fun _ _ _ _ _ _ us hl => match us, hl with | [_, _], _ => rfl
    a_Family_or := x_Family_or, f_Family_or := (PySem.W.fnOf "__or__" "Family.__or__" (defArgs s_Family_or) (defBody s_Family_or) (defScope s_Family_or) .none kV_Family_or dc_Family_or pm_Family_or an_Family_or cd_Family_or ct_Family_or), F_Family_or := F_Family_or
    b_Family_or := F_Family_or.binds (ps := ["self", "other"]) fun _ _ _ _ _ _ us hl => match us, hl with | [_, _], _ => rfl
    a_Family_sub := x_Family_sub, f_Family_sub := (PySem.W.fnOf "__sub__" "Family.__sub__" (defArgs s_Family_sub) (defBody s_Family_sub) (defScope s_Family_sub) .none kV_Family_sub dc_Family_sub pm_Family_sub an_Family_sub cd_Family_sub ct_Family_sub), F_Family_sub := F_Family_sub
    b_Family_sub := F_Family_sub.binds (ps := ["self", "other"]) fun _ _ _ _ _ _ us hl => match us, hl with | [_, _], _ => rfl
    a_lies_within := x_lies_within, f_lies_within := (PySem.W.fnOf "lies_within" "lies_within" (defArgs s_lies_within) (defBody s_lies_within) (defScope s_lies_within) .none kV_lies_within dc_lies_within pm_lies_within an_lies_within cd_lies_within ct_lies_within), F_lies_within := F_lies_within
    b_lies_within := F_lies_within.binds (ps := ["box", "wide"]) fun _ _ _ _ _ _ us hl => match us, hl with | [_, _], _ => rfl
    m_lies_within := PySem.W.mg_of X G a_lies_within, k_lies_within := k_lies_within
    a_Family_within := x_Family_within, f_Family_within := (PySem.W.fnOf "within" "Family.within" (defArgs s_Family_within) (defBody s_Family_within) (defScope s_Family_within) .none kV_Family_within dc_Family_within pm_Family_within an_Family_within cd_Family_within ct_Family_within), F_Family_within := F_Family_within
    b_Family_within := F_Family_within.binds (ps := ["self", "other"]) fun _ _ _ _ _ _ us hl => match us, hl with | [_, _], _ => rfl
    a_law_caught := x_law_caught, f_law_caught := (PySem.W.fnOf "_law_caught" "_law_caught" (defArgs s_law_caught) (defBody s_law_caught) (defScope s_law_caught) .none kV_law_caught dc_law_caught pm_law_caught an_law_caught cd_law_caught ct_law_caught), F_law_caught := F_law_caught
    b_law_caught := F_law_caught.binds (ps := ["way", "made", "mate"]) fun _ _ _ _ _ _ us hl => match us, hl with | [_, _, _], _ => rfl
    m_law_caught := PySem.W.mg_of X G a_law_caught, k_law_caught := k_law_caught
    a_law_right := x_law_right, f_law_right := (PySem.W.fnOf "_law_right" "_law_right" (defArgs s_law_right) (defBody s_law_right) (defScope s_law_right) .none kV_law_right dc_law_right pm_law_right an_law_right cd_law_right ct_law_right), F_law_right := F_law_right
    b_law_right := F_law_right.binds (ps := ["mill"]) fun _ _ _ _ _ _ us hl => match us, hl with | [_], _ => rfl
    m_law_right := PySem.W.mg_of X G a_law_right, k_law_right := k_law_right
    a_law := x_law, f_law := (PySem.W.fnOf "law" "law" (defArgs s_law) (defBody s_law) (defScope s_law) .none kV_law dc_law pm_law an_law cd_law ct_law), F_law := F_law
    b_law := F_law.binds (ps := ["script"]) fun _ _ _ _ _ _ us hl => match us, hl with | [_], _ => rfl
    m_law := PySem.W.mg_of X G a_law, k_law := k_law
    a_CrowdError := x_CrowdError, m_CrowdError := PySem.W.mg_of X G a_CrowdError, x_CrowdError := xm_CrowdError
    e_CrowdError := ⟨⟨⟨_, _, _, _, _, _, _, _, _, _, _, _, _, _, _, xl_CrowdError, by rfl⟩, sa_CrowdError, ex_CrowdError, ty_CrowdError, kc_CrowdError⟩, ⟨ga_CrowdError, gg_CrowdError, ex_CrowdError, hd_CrowdError⟩, nv_CrowdError, (by obtain ⟨cd, hc, _⟩ := PySem.W.any_some hd_CrowdError; rw [hc]; rfl), ha_CrowdError, hn_, ht_, hm_CrowdError⟩
    ic_CrowdError := ic_CrowdError
    kit_CrowdError_UnlikeKinds := kit_CrowdError_UnlikeKinds
    a_InvalidBox := x_InvalidBox, m_InvalidBox := PySem.W.mg_of X G a_InvalidBox, x_InvalidBox := xm_InvalidBox
    e_InvalidBox := ⟨⟨⟨_, _, _, _, _, _, _, _, _, _, _, _, _, _, _, xl_InvalidBox, by rfl⟩, sa_InvalidBox, ex_InvalidBox, ty_InvalidBox, kc_InvalidBox⟩, ⟨ga_InvalidBox, gg_InvalidBox, ex_InvalidBox, hd_InvalidBox⟩, nv_InvalidBox, (by obtain ⟨cd, hc, _⟩ := PySem.W.any_some hd_InvalidBox; rw [hc]; rfl), ha_InvalidBox, hn_, ht_, hm_InvalidBox⟩
    ic_InvalidBox := ic_InvalidBox
    kit_InvalidBox_UnlikeKinds := kit_InvalidBox_UnlikeKinds
    a_UnlikeKinds := x_UnlikeKinds, m_UnlikeKinds := PySem.W.mg_of X G a_UnlikeKinds, x_UnlikeKinds := xm_UnlikeKinds
    e_UnlikeKinds := ⟨⟨⟨_, _, _, _, _, _, _, _, _, _, _, _, _, _, _, xl_UnlikeKinds, by rfl⟩, sa_UnlikeKinds, ex_UnlikeKinds, ty_UnlikeKinds, kc_UnlikeKinds⟩, ⟨ga_UnlikeKinds, gg_UnlikeKinds, ex_UnlikeKinds, hd_UnlikeKinds⟩, nv_UnlikeKinds, (by obtain ⟨cd, hc, _⟩ := PySem.W.any_some hd_UnlikeKinds; rw [hc]; rfl), ha_UnlikeKinds, hn_, ht_, hm_UnlikeKinds⟩
    ic_UnlikeKinds := ic_UnlikeKinds
    kit_UnlikeKinds_UnlikeKinds := kit_UnlikeKinds_UnlikeKinds
    ti_ErrInit := ti_ErrInit
    a_Family := x_Family, m_Family := PySem.W.mg_of X G a_Family, c_Family := ⟨pg_Family, hd_Family, po_Family, sa_Family⟩, i_Family := ⟨ha_Family, hn_, ht_, hm_Family⟩
    mk_Family := ⟨mk_Family, g_Family_init, i_Family_init, kc_Family⟩
    n_Family_kinds := n_Family_kinds
    n_Family_boxes := n_Family_boxes
    e_Family_within := ⟨g_Family_within, i_Family_within, k_Family_within⟩
    e_Family_and := ⟨g_Family_and, i_Family_and, k_Family_and⟩
    e_Family_or := ⟨g_Family_or, i_Family_or, k_Family_or⟩
    e_Family_sub := ⟨g_Family_sub, i_Family_sub, k_Family_sub⟩
    og_Family_and := g_Family_and, oi_Family_and := i_Family_and
    og_Family_or := g_Family_or, oi_Family_or := i_Family_or
    og_Family_sub := g_Family_sub, oi_Family_sub := i_Family_sub
    sf_Family := sf_Family
    q_Family := g_Family_eq, q1_Family := i_Family_eq
    z_abs := PySem.W.mg_none_of X G z_abs
    z_all := PySem.W.mg_none_of X G z_all
    z_any := PySem.W.mg_none_of X G z_any
    z_bool := PySem.W.mg_none_of X G z_bool
    z_enumerate := PySem.W.mg_none_of X G z_enumerate
    z_int := PySem.W.mg_none_of X G z_int
    z_isinstance := PySem.W.mg_none_of X G z_isinstance
    z_len := PySem.W.mg_none_of X G z_len
    z_list := PySem.W.mg_none_of X G z_list
    z_max := PySem.W.mg_none_of X G z_max
    z_min := PySem.W.mg_none_of X G z_min
    z_range := PySem.W.mg_none_of X G z_range
    z_repr := PySem.W.mg_none_of X G z_repr
    z_reversed := PySem.W.mg_none_of X G z_reversed
    z_set := PySem.W.mg_none_of X G z_set
    z_sorted := PySem.W.mg_none_of X G z_sorted
    z_sum := PySem.W.mg_none_of X G z_sum
    z_tuple := PySem.W.mg_none_of X G z_tuple
    z_zip := PySem.W.mg_none_of X G z_zip
    kb_Family_within_0 := fun s us ws _ h1 h2 => match us, ws, h1, h2 with | [_], [_], _, _ => .of_eq rfl
  }
  exact ⟨T.f_law, T.tab, fun s v => .of_eq rfl, fun base _ _ => ok_law T⟩

end Qk08

open PySem PySem.W PyProof.Rows
set_option maxRecDepth 100000 in
set_option maxHeartbeats 0 in
theorem PySem.Challenge.cw_lookcrowd_k08_unlike_kinds_holds : PySem.Challenge.rw_lookcrowd_k08_unlike_kinds.Holds := by
  w_on; o_law; k_head; (case hw => w_witness2)
  k_fill
  refine L3.walkG (l := PySem.Challenge.rw_lookcrowd_k08_unlike_kinds) (n := 63) (k := 16) (x := "script") (g := Qk08.d_law) rfl (by decide) rfl ⟨rfl, by decide, by decide⟩ rfl (fun w h Y => PySem.W.km_in_of Y) ?F Qk08.fun_law
  case F =>
    intro w mg fa h KX G hmg
    refine' Qk08.all_mk KX G hmg ?a_law_quern ?l_law_quern ?c_law_quern ?k_law_quern ?a_edges ?l_edges ?c_edges ?k_edges ?a_cuts_of ?l_cuts_of ?c_cuts_of ?k_cuts_of ?a_pair_of ?l_pair_of ?c_pair_of ?k_pair_of ?a_box_of ?l_box_of ?c_box_of ?k_box_of ?a_volume ?l_volume ?c_volume ?k_volume ?a_repeated ?l_repeated ?c_repeated ?k_repeated ?a_blocks_from ?l_blocks_from ?c_blocks_from ?k_blocks_from ?a_blocks ?l_blocks ?c_blocks ?k_blocks ?a_sizes_of ?l_sizes_of ?c_sizes_of ?k_sizes_of ?a_greatest_boxes ?l_greatest_boxes ?c_greatest_boxes ?k_greatest_boxes ?a_cells_of_box ?l_cells_of_box ?c_cells_of_box ?k_cells_of_box ?a_cells_of ?l_cells_of ?c_cells_of ?k_cells_of ?a_is_number ?l_is_number ?c_is_number ?k_is_number ?a_is_pair ?l_is_pair ?c_is_pair ?k_is_pair ?a_is_box ?l_is_box ?c_is_box ?k_is_box ?a_law_made ?l_law_made ?c_law_made ?k_law_made ?a_law_grain ?l_law_grain ?c_law_grain ?k_law_grain ?a_law_span ?l_law_span ?c_law_span ?k_law_span ?a_law_near ?l_law_near ?c_law_near ?k_law_near ?a_law_drawn ?l_law_drawn ?c_law_drawn ?k_law_drawn ?a_check_alike ?l_check_alike ?c_check_alike ?k_check_alike ?a_shared_cuts ?l_shared_cuts ?c_shared_cuts ?k_shared_cuts ?a_lies_within ?l_lies_within ?c_lies_within ?k_lies_within ?a_law_caught ?l_law_caught ?c_law_caught ?k_law_caught ?a_law_right ?l_law_right ?c_law_right ?k_law_right ?a_law ?l_law ?c_law ?k_law ?a_CrowdError ?xl_CrowdError ?sa_CrowdError ?ga_CrowdError ?gg_CrowdError ?nv_CrowdError ?kc_CrowdError ?ex_CrowdError ?ty_CrowdError ?hd_CrowdError ?ha_CrowdError ?hm_CrowdError ?xm_CrowdError ?ic_CrowdError ?a_InvalidBox ?xl_InvalidBox ?sa_InvalidBox ?ga_InvalidBox ?gg_InvalidBox ?nv_InvalidBox ?kc_InvalidBox ?ex_InvalidBox ?ty_InvalidBox ?hd_InvalidBox ?ha_InvalidBox ?hm_InvalidBox ?xm_InvalidBox ?ic_InvalidBox ?a_UnlikeKinds ?xl_UnlikeKinds ?sa_UnlikeKinds ?ga_UnlikeKinds ?gg_UnlikeKinds ?nv_UnlikeKinds ?kc_UnlikeKinds ?ex_UnlikeKinds ?ty_UnlikeKinds ?hd_UnlikeKinds ?ha_UnlikeKinds ?hm_UnlikeKinds ?xm_UnlikeKinds ?ic_UnlikeKinds ?kit_CrowdError_UnlikeKinds ?kit_InvalidBox_UnlikeKinds ?kit_UnlikeKinds_UnlikeKinds ?l_ErrInit ?c_ErrInit ?k_ErrInit ?ti_ErrInit ?a_Family ?g_Family_init ?i_Family_init ?l_Family_init ?c_Family_init ?k_Family_init ?g_Family_within ?i_Family_within ?l_Family_within ?c_Family_within ?k_Family_within ?g_Family_eq ?i_Family_eq ?l_Family_eq ?c_Family_eq ?k_Family_eq ?g_Family_and ?i_Family_and ?l_Family_and ?c_Family_and ?k_Family_and ?g_Family_or ?i_Family_or ?l_Family_or ?c_Family_or ?k_Family_or ?g_Family_sub ?i_Family_sub ?l_Family_sub ?c_Family_sub ?k_Family_sub ?sf_Family ?pg_Family ?hd_Family ?po_Family ?sa_Family ?mk_Family ?kc_Family ?ha_Family ?hm_Family ?n_Family_kinds ?n_Family_boxes ?hn_ ?ht_ ?z_abs ?z_all ?z_any ?z_bool ?z_enumerate ?z_int ?z_isinstance ?z_len ?z_list ?z_max ?z_min ?z_range ?z_repr ?z_reversed ?z_set ?z_sorted ?z_sum ?z_tuple ?z_zip
    (case a_law_quern => k_is)
    (case l_law_quern => k_is)
    (case c_law_quern => k_is)
    (case k_law_quern => k_is)
    (case a_edges => k_is)
    (case l_edges => k_is)
    (case c_edges => k_is)
    (case k_edges => k_is)
    (case a_cuts_of => k_is)
    (case l_cuts_of => k_is)
    (case c_cuts_of => k_is)
    (case k_cuts_of => k_is)
    (case a_pair_of => k_is)
    (case l_pair_of => k_is)
    (case c_pair_of => k_is)
    (case k_pair_of => k_is)
    (case a_box_of => k_is)
    (case l_box_of => k_is)
    (case c_box_of => k_is)
    (case k_box_of => k_is)
    (case a_volume => k_is)
    (case l_volume => k_is)
    (case c_volume => k_is)
    (case k_volume => k_is)
    (case a_repeated => k_is)
    (case l_repeated => k_is)
    (case c_repeated => k_is)
    (case k_repeated => k_is)
    (case a_blocks_from => k_is)
    (case l_blocks_from => k_is)
    (case c_blocks_from => k_is)
    (case k_blocks_from => k_is)
    (case a_blocks => k_is)
    (case l_blocks => k_is)
    (case c_blocks => k_is)
    (case k_blocks => k_is)
    (case a_sizes_of => k_is)
    (case l_sizes_of => k_is)
    (case c_sizes_of => k_is)
    (case k_sizes_of => k_is)
    (case a_greatest_boxes => k_is)
    (case l_greatest_boxes => k_is)
    (case c_greatest_boxes => k_is)
    (case k_greatest_boxes => k_is)
    (case a_cells_of_box => k_is)
    (case l_cells_of_box => k_is)
    (case c_cells_of_box => k_is)
    (case k_cells_of_box => k_is)
    (case a_cells_of => k_is)
    (case l_cells_of => k_is)
    (case c_cells_of => k_is)
    (case k_cells_of => k_is)
    (case a_is_number => k_is)
    (case l_is_number => k_is)
    (case c_is_number => k_is)
    (case k_is_number => k_is)
    (case a_is_pair => k_is)
    (case l_is_pair => k_is)
    (case c_is_pair => k_is)
    (case k_is_pair => k_is)
    (case a_is_box => k_is)
    (case l_is_box => k_is)
    (case c_is_box => k_is)
    (case k_is_box => k_is)
    (case a_law_made => k_is)
    (case l_law_made => k_is)
    (case c_law_made => k_is)
    (case k_law_made => k_is)
    (case a_law_grain => k_is)
    (case l_law_grain => k_is)
    (case c_law_grain => k_is)
    (case k_law_grain => k_is)
    (case a_law_span => k_is)
    (case l_law_span => k_is)
    (case c_law_span => k_is)
    (case k_law_span => k_is)
    (case a_law_near => k_is)
    (case l_law_near => k_is)
    (case c_law_near => k_is)
    (case k_law_near => k_is)
    (case a_law_drawn => k_is)
    (case l_law_drawn => k_is)
    (case c_law_drawn => k_is)
    (case k_law_drawn => k_is)
    (case a_check_alike => k_is)
    (case l_check_alike => k_is)
    (case c_check_alike => k_is)
    (case k_check_alike => k_is)
    (case a_shared_cuts => k_is)
    (case l_shared_cuts => k_is)
    (case c_shared_cuts => k_is)
    (case k_shared_cuts => k_is)
    (case a_lies_within => k_is)
    (case l_lies_within => k_is)
    (case c_lies_within => k_is)
    (case k_lies_within => k_is)
    (case a_law_caught => k_is)
    (case l_law_caught => k_is)
    (case c_law_caught => k_is)
    (case k_law_caught => k_is)
    (case a_law_right => k_is)
    (case l_law_right => k_is)
    (case c_law_right => k_is)
    (case k_law_right => k_is)
    (case a_law => k_is)
    (case l_law => k_is)
    (case c_law => k_is)
    (case k_law => k_is)
    (case a_CrowdError => k_is)
    (case xl_CrowdError => k_is)
    (case sa_CrowdError => k_is)
    (case ga_CrowdError => k_is)
    (case gg_CrowdError => k_is)
    (case nv_CrowdError => k_is)
    (case kc_CrowdError => k_is)
    (case ex_CrowdError => first | k_is | rfl | decide +kernel)
    (case ty_CrowdError => k_is)
    (case hd_CrowdError => k_is)
    (case ha_CrowdError => k_is)
    (case hm_CrowdError => k_is)
    (case xm_CrowdError => first | k_is | rfl | decide +kernel)
    (case ic_CrowdError => k_is)
    (case a_InvalidBox => k_is)
    (case xl_InvalidBox => k_is)
    (case sa_InvalidBox => k_is)
    (case ga_InvalidBox => k_is)
    (case gg_InvalidBox => k_is)
    (case nv_InvalidBox => k_is)
    (case kc_InvalidBox => k_is)
    (case ex_InvalidBox => first | k_is | rfl | decide +kernel)
    (case ty_InvalidBox => k_is)
    (case hd_InvalidBox => k_is)
    (case ha_InvalidBox => k_is)
    (case hm_InvalidBox => k_is)
    (case xm_InvalidBox => first | k_is | rfl | decide +kernel)
    (case ic_InvalidBox => k_is)
    (case a_UnlikeKinds => k_is)
    (case xl_UnlikeKinds => k_is)
    (case sa_UnlikeKinds => k_is)
    (case ga_UnlikeKinds => k_is)
    (case gg_UnlikeKinds => k_is)
    (case nv_UnlikeKinds => k_is)
    (case kc_UnlikeKinds => k_is)
    (case ex_UnlikeKinds => first | k_is | rfl | decide +kernel)
    (case ty_UnlikeKinds => k_is)
    (case hd_UnlikeKinds => k_is)
    (case ha_UnlikeKinds => k_is)
    (case hm_UnlikeKinds => k_is)
    (case xm_UnlikeKinds => first | k_is | rfl | decide +kernel)
    (case ic_UnlikeKinds => k_is)
    (case kit_CrowdError_UnlikeKinds => first | k_is | rfl | decide +kernel)
    (case kit_InvalidBox_UnlikeKinds => first | k_is | rfl | decide +kernel)
    (case kit_UnlikeKinds_UnlikeKinds => first | k_is | rfl | decide +kernel)
    (case l_ErrInit => k_is)
    (case c_ErrInit => k_is)
    (case k_ErrInit => k_is)
    (case ti_ErrInit => k_is)
    (case a_Family => k_is)
    (case g_Family_init => k_is)
    (case i_Family_init => k_is)
    (case l_Family_init => k_is)
    (case c_Family_init => k_is)
    (case k_Family_init => k_is)
    (case g_Family_within => k_is)
    (case i_Family_within => k_is)
    (case l_Family_within => k_is)
    (case c_Family_within => k_is)
    (case k_Family_within => k_is)
    (case g_Family_eq => k_is)
    (case i_Family_eq => k_is)
    (case l_Family_eq => k_is)
    (case c_Family_eq => k_is)
    (case k_Family_eq => k_is)
    (case g_Family_and => k_is)
    (case i_Family_and => k_is)
    (case l_Family_and => k_is)
    (case c_Family_and => k_is)
    (case k_Family_and => k_is)
    (case g_Family_or => k_is)
    (case i_Family_or => k_is)
    (case l_Family_or => k_is)
    (case c_Family_or => k_is)
    (case k_Family_or => k_is)
    (case g_Family_sub => k_is)
    (case i_Family_sub => k_is)
    (case l_Family_sub => k_is)
    (case c_Family_sub => k_is)
    (case k_Family_sub => k_is)
    (case sf_Family => k_is)
    (case pg_Family => k_is)
    (case hd_Family => k_is)
    (case po_Family => k_is)
    (case sa_Family => k_is)
    (case mk_Family => k_is)
    (case kc_Family => k_is)
    (case ha_Family => k_is)
    (case hm_Family => k_is)
    (case n_Family_kinds => k_is)
    (case n_Family_boxes => k_is)
    (case hn_ => k_is)
    (case ht_ => k_is)
    (case z_abs => k_is)
    (case z_all => k_is)
    (case z_any => k_is)
    (case z_bool => k_is)
    (case z_enumerate => k_is)
    (case z_int => k_is)
    (case z_isinstance => k_is)
    (case z_len => k_is)
    (case z_list => k_is)
    (case z_max => k_is)
    (case z_min => k_is)
    (case z_range => k_is)
    (case z_repr => k_is)
    (case z_reversed => k_is)
    (case z_set => k_is)
    (case z_sorted => k_is)
    (case z_sum => k_is)
    (case z_tuple => k_is)
    (case z_zip => k_is)
