import PyProof.Rows.All
import Wide.All
import OpenK.AllK
import Wide.FinOn
import HandS.ForMost
import HandS.ForExc
import HandS.CallSlots
import HandS.Walk
import HandS.Deep
import HandS.Wide
import HandS.WideBits
import HandS.Style
import HandS.Conv
import HandS.NoneIn
import HandS.RevRange
import HandS.Rev
import HandS.Zip
import HandS.IsInst
import HandS.TupAny
import HandS.SortInts
import HandS.TupSets
import HandS.RaiseMore
import HandS.ExcInit
import HandS.Exc
import HandS.Property
import HandS.Defaults
import HandS.OwnEq
import KE.SortData
import HandS.Ends
import HandS.EndBits
import HandS.ExcField
import HandS.ExcIs
import KE.KExcIs
import KE.KIsAll
import PyProof.StrOps2
import PyProof.StrLawsRepr
import PySem.Challenge.RW_lookcrowd_k18_errors_of_books
set_option Elab.async false
set_option linter.all false
set_option maxRecDepth 100000
set_option maxHeartbeats 4000000
open PySem
namespace L3
theorem str_len_app (a b : Str) : (a ++ b).length = a.length + b.length := by
  show (a.cps ++ b.cps).size = _
  simp [Str.length]
theorem textFrom_len (B : Nat) : ∀ (ts : List Str) (k : Nat) (acc : Str), (∀ t ∈ ts, t.length ≤ B) → (textFrom k acc ts).length ≤ acc.length + ts.length * (B + 2)
  | [], k, acc, _ => by rw [textFrom.eq_1]; simp
  | t :: ts, k, acc, h => by
    rw [textFrom.eq_2]
    have ih := textFrom_len B ts (k + 1) (acc ++ Str.ofString (if k > 0 then ", " else "") ++ t) (fun x hx => h x (List.mem_cons_of_mem _ hx))
    rw [str_len_app, str_len_app] at ih
    have h1 : t.length ≤ B := h t List.mem_cons_self
    have h2 : (Str.ofString (if k > 0 then ", " else "")).length ≤ 2 := by split <;> decide
    rw [List.length_cons, Nat.add_mul]
    omega
theorem listText_len {ts : List Str} {B : Nat} (h : ∀ t ∈ ts, t.length ≤ B) : (listText ts).length ≤ ts.length * (B + 2) + 2 := by
  show (textFrom 0 (Str.ofString "[") ts ++ Str.ofString "]").length ≤ _
  rw [str_len_app]
  have := textFrom_len B ts 0 (Str.ofString "[") h
  have e1 : (Str.ofString "[").length = 1 := by decide
  have e2 : (Str.ofString "]").length = 1 := by decide
  omega
theorem shown_list {xs : List PyData} {B : Nat} (h : ∀ x ∈ xs, (PyData.shown x).length ≤ B) : (PyData.shown (.list xs)).length ≤ xs.length * (B + 2) + 2 := by
  rw [PyData.shown.eq_5]
  have e : ∀ l : List PyData, (PyData.shownAll l).length = l.length := fun l => by
    induction l with
    | nil => rfl
    | cons x r ih => show (PyData.shown x :: PyData.shownAll r).length = _; simp [ih]
  have m : ∀ (l : List PyData) (t : Str), t ∈ PyData.shownAll l → ∃ x ∈ l, t = PyData.shown x := fun l => by
    induction l with
    | nil => intro t ht; exact absurd ht (by show t ∉ ([] : List Str); simp)
    | cons x r ih =>
      intro t ht
      have ht : t ∈ PyData.shown x :: PyData.shownAll r := ht
      rcases List.mem_cons.mp ht with rfl | h
      · exact ⟨x, List.mem_cons_self, rfl⟩
      · obtain ⟨y, hy, e⟩ := ih t h
        exact ⟨y, List.mem_cons_of_mem _ hy, e⟩
  have := listText_len (ts := PyData.shownAll xs) (B := B) (fun t ht => by
    obtain ⟨x, hx, rfl⟩ := m xs t ht
    exact h x hx)
  rw [e] at this
  exact this
theorem shown_triple {a b c : PyData} {B : Nat} (h1 : (PyData.shown a).length ≤ B) (h2 : (PyData.shown b).length ≤ B) (h3 : (PyData.shown c).length ≤ B) : (PyData.shown (.tuple [a, b, c])).length ≤ 3 * B + 6 := by
  rw [PyData.shown.eq_6]
  have e : tupleText (PyData.shownAll [a, b, c]) = Str.ofString "(" ++ (Str.ofString ", ").join [PyData.shown a, PyData.shown b, PyData.shown c] ++ Str.ofString ")" := rfl
  have j : (Str.ofString ", ").join [PyData.shown a, PyData.shown b, PyData.shown c] = PyData.shown a ++ Str.ofString ", " ++ (PyData.shown b ++ Str.ofString ", " ++ PyData.shown c) := rfl
  rw [e, j]
  simp only [str_len_app]
  have e1 : (Str.ofString "(").length = 1 := by decide
  have e2 : (Str.ofString ")").length = 1 := by decide
  have e3 : (Str.ofString ", ").length = 2 := by decide
  omega
theorem shown_int {i : Int} (h0 : 0 ≤ i) (h : i ≤ 64) : (PyData.shown (.int i)).length ≤ 2 := by
  have q : ∀ i : Fin 65, (PyData.shown (.int (i.val : Int))).length ≤ 2 := by decide +kernel
  have := q ⟨i.toNat, by omega⟩
  have e : ((i.toNat : Nat) : Int) = i := by omega
  simp only [e] at this
  exact this
theorem showableAll_of : ∀ {xs : List PyData}, (∀ x ∈ xs, PyData.showable x = true) → PyData.showable (.list xs) = true
  | [], _ => rfl
  | x :: xs, h => by
    have h1 := h x List.mem_cons_self
    have h2 := showableAll_of (xs := xs) fun y hy => h y (List.mem_cons_of_mem _ hy)
    show (PyData.showable x && PyData.showable (.list xs)) = true
    rw [h1, h2]; rfl
theorem depth_list {n : Nat} : ∀ {xs : List PyData}, (∀ x ∈ xs, PyData.depth x ≤ n) → PyData.depth (.list xs) ≤ n + 1
  | [], _ => by show 0 + 1 ≤ n + 1; omega
  | x :: xs, h => by
    have h1 := h x List.mem_cons_self
    have h2 := depth_list (xs := xs) fun y hy => h y (List.mem_cons_of_mem _ hy)
    have h3 : PyData.depth (.list (x :: xs)) = max (PyData.depth x) (PyData.depth (.list xs) - 1) + 1 := rfl
    rw [h3]; omega
end L3

set_option Elab.async false
set_option maxRecDepth 100000
set_option maxHeartbeats 4000000
/-! L3, first part: deep values, what stands in the heap for them, the state of a def that runs. -/
namespace L3
open PySem PySem.Spec PyProof.Rows L2

/-- a value to its depth; obj c: an instance of the c-th class of the text -/
inductive D where
  | non | bl (b : Bool) | int (i : Int) | str (s : Str)
  | lst (xs : List D) | tup (xs : List D)
  | obj (c : Nat) (xs : List D)
  | dT (ks : List (List Key)) (xs : List D)
  | scr (ns : List Int)

instance : Inhabited D := ⟨.non⟩

/-- the classes of the text: address and attributes, in their order; the error classes -/
structure Tab where
  cls : Nat → Option (Addr × List Str)
  exc : Nat → Option Addr

def D.atom : D → Bool
  | .non => true | .bl _ => true | .int _ => true | .str _ => true
  | _ => false

section
variable (K : PySem.W.Frag) (TB : Tab) (F : Hp)
mutual
inductive Dx : V → D → Prop
  | non : Dx .non .non
  | bl (b : Bool) : Dx (.bl b) (.bl b)
  | int (i : Int) : Dx (.int i) (.int i)
  | str (x : Str) : Dx (.str x) (.str x)
  | lst {a : Addr} {vs : List V} {ds : List D} : F a = some (.lst vs) → DxAll vs ds → Dx (.ref a) (.lst ds)
  | tup {a : Addr} {vs : List V} {ds : List D} : F a = some (.tup vs) → DxAll vs ds → Dx (.ref a) (.tup ds)
  | obj {a C dx : Addr} {fs : List (Str × V)} {c : Nat} {ds : List D} : F a = some (.ins C dx fs) → TB.cls c = some (C, fs.map Prod.fst) → DxAll (fs.map Prod.snd) ds → Dx (.ref a) (.obj c ds)
  | dT {a : Addr} {kvs : List (List Key × V)} {ds : List D} : F a = some (.dT kvs) → DxAll (kvs.map Prod.snd) ds → Dx (.ref a) (.dT (kvs.map Prod.fst) ds)
  | scr {a : Addr} {ns : List Int} : SqL K F a (ns.map V.int) → Dx (.ref a) (.scr ns)
inductive DxAll : List V → List D → Prop
  | nil : DxAll [] []
  | cons {v : V} {vs : List V} {d : D} {ds : List D} : Dx v d → DxAll vs ds → DxAll (v :: vs) (d :: ds)
end
end

section
variable {K : PySem.W.Frag} {TB : Tab} {F F' : Hp}
theorem DxAll.length : ∀ {vs : List V} {ds : List D}, DxAll K TB F vs ds → vs.length = ds.length
  | _, _, .nil => rfl
  | _, _, .cons _ t => congrArg Nat.succ (DxAll.length t)

mutual
theorem Dx.mono (e : Same F F') : ∀ (d : D) {v : V}, Dx K TB F v d → Dx K TB F' v d
  | .non, _, h => by cases h; exact .non
  | .bl _, _, h => by cases h; exact .bl _
  | .int _, _, h => by cases h; exact .int _
  | .str _, _, h => by cases h; exact .str _
  | .lst ds, _, h => by
    cases h with
    | lst hs ha => exact .lst (e _ _ hs) (DxAll.mono e ds ha)
  | .tup ds, _, h => by
    cases h with
    | tup hs ha => exact .tup (e _ _ hs) (DxAll.mono e ds ha)
  | .obj c ds, _, h => by
    cases h with
    | obj ha hc hd => exact .obj (e _ _ ha) hc (DxAll.mono e ds hd)
  | .dT ks ds, _, h => by
    cases h with
    | dT ha hd => exact .dT (e _ _ ha) (DxAll.mono e ds hd)
  | .scr ns, _, h => by
    cases h with
    | scr hs => exact .scr (e.seq hs)
theorem DxAll.mono (e : Same F F') : ∀ (ds : List D) {vs : List V}, DxAll K TB F vs ds → DxAll K TB F' vs ds
  | [], _, h => by cases h; exact .nil
  | d :: ds, _, h => by
    cases h with
    | cons h1 h2 => exact .cons (Dx.mono e d h1) (DxAll.mono e ds h2)
end
theorem DxAll.get : ∀ {vs : List V} {ds : List D} {i : Nat} {d : D}, DxAll K TB F vs ds → ds[i]? = some d → ∃ v, vs[i]? = some v ∧ Dx K TB F v d
  | _, _, _, _, .nil, e => by simp at e
  | _, _, 0, _, .cons h _, e => by simp at e; subst e; exact ⟨_, rfl, h⟩
  | _, _, i + 1, _, .cons _ t, e => by
    obtain ⟨v, h1, h2⟩ := DxAll.get (i := i) t (by simpa using e)
    exact ⟨v, by simpa using h1, h2⟩
theorem DxAll.get' : ∀ {vs : List V} {ds : List D} {i : Nat} {v : V}, DxAll K TB F vs ds → vs[i]? = some v → ∃ d, ds[i]? = some d ∧ Dx K TB F v d
  | _, _, _, _, .nil, e => by simp at e
  | _, _, 0, _, .cons h _, e => by simp at e; subst e; exact ⟨_, rfl, h⟩
  | _, _, i + 1, _, .cons _ t, e => by
    obtain ⟨v, h1, h2⟩ := DxAll.get' (i := i) t (by simpa using e)
    exact ⟨v, by simpa using h1, h2⟩
theorem DxAll.append : ∀ {vs ws : List V} {ds es : List D}, DxAll K TB F vs ds → DxAll K TB F ws es → DxAll K TB F (vs ++ ws) (ds ++ es)
  | _, _, _, _, .nil, h => h
  | _, _, _, _, .cons h t, g => .cons h (DxAll.append t g)
theorem Dx.atomic {d : D} {v : V} (h : Dx K TB F v d) (a : d.atom = true) : Dx K TB F' v d := by
  cases h <;> first | exact .non | exact .bl _ | exact .int _ | exact .str _ | cases a
end

/-! ### values of a def that runs: d, with 'all of it is new since the entry'; m j, the j-th list that may still change -/
inductive T where
  | v (new : Bool) (d : D)
  | m (j : Nat)
instance : Inhabited T := ⟨.v true .non⟩
/-- what stands at an address that may still change -/
inductive Cell where
  | lst (ts : List T)
  | tup (ts : List T)
  | obj (c : Nat) (ts : List T)
  | dT (ks : List (List Key)) (ts : List T)
  | dK (ks : List Key) (ts : List T)
  | frz (new : Bool) (d : D)
  | hid
abbrev Mu := List Cell
abbrev Gam := List (Option T)

/-- the entry: what was tracked there, the cells handed in, the text -/
structure Ent where
  K : PySem.W.Frag
  TB : Tab
  H0 : Hp
  F0 : Hp
  ms0 : List Addr

/-- the heap of a running def, parted: F all that stands for good, N what of it is new, ms the cells -/
structure Pt where
  F : Hp
  N : Hp
  ms : List Addr

structure Pt.Le (p q : Pt) : Prop where
  f : Same p.F q.F
  n : Same p.N q.N
  m : p.ms <+: q.ms
theorem Pt.Le.refl (p : Pt) : p.Le p := ⟨Same.refl _, Same.refl _, List.prefix_refl _⟩
theorem Pt.Le.trans {p q r : Pt} (a : p.Le q) (b : q.Le r) : p.Le r := ⟨a.f.trans b.f, a.n.trans b.n, a.m.trans b.m⟩

def RT (Z : Ent) (p : Pt) (v : V) : T → Prop
  | .v true d => Dx Z.K Z.TB p.N v d
  | .v false d => Dx Z.K Z.TB p.F v d
  | .m j => ∃ a, p.ms[j]? = some a ∧ v = .ref a
inductive RTs (Z : Ent) (p : Pt) : List V → List T → Prop
  | nil : RTs Z p [] []
  | cons {v : V} {vs : List V} {t : T} {ts : List T} : RT Z p v t → RTs Z p vs ts → RTs Z p (v :: vs) (t :: ts)

def CellOk (Z : Ent) (p : Pt) (H : Hp) (a : Addr) : Cell → Prop
  | .lst ts => ∃ vs, H a = some (.lst vs) ∧ RTs Z p vs ts
  | .tup ts => ∃ vs, H a = some (.tup vs) ∧ RTs Z p vs ts
  | .obj c ts => ∃ C dx fs names, H a = some (.ins C dx fs) ∧ Z.TB.cls c = some (C, names) ∧ fs.map Prod.fst = names.take ts.length ∧ RTs Z p (fs.map Prod.snd) ts
  | .dT ks ts => ∃ kvs, H a = some (.dT kvs) ∧ kvs.map Prod.fst = ks ∧ RTs Z p (kvs.map Prod.snd) ts
  | .dK ks ts => ∃ kvs, H a = some (.dK kvs) ∧ kvs.map Prod.fst = ks ∧ RTs Z p (kvs.map Prod.snd) ts
  | .frz f d => RT Z p (.ref a) (.v f d)
  | .hid => True
def Cell.live : Cell → Bool
  | .frz _ _ => false
  | _ => true

structure SR (Z : Ent) (p : Pt) (H : Hp) (μ : Mu) : Prop where
  sub : Same p.F H
  nin : Same p.N p.F
  fr : ∀ a o, p.N a = some o → Z.H0 a = none
  org : ∀ a o, p.F a = some o → Z.F0 a = some o ∨ Z.H0 a = none
  keep : ∀ a o, Z.H0 a = some o → a ∉ Z.ms0 → H a = some o
  dom : ∀ a o, Z.H0 a = some o → ∃ o', H a = some o'
  pre : Z.ms0 <+: p.ms
  nd : p.ms.Nodup
  len : p.ms.length = μ.length
  nof : ∀ (j : Nat) (a : Addr) (c : Cell), p.ms[j]? = some a → μ[j]? = some c → c.live = true → p.F a = none
  trk : ∀ a ∈ p.ms, ∃ o, H a = some o
  new : ∀ (j : Nat) (a : Addr), p.ms[j]? = some a → Z.ms0.length ≤ j → Z.H0 a = none
  cell : ∀ (j : Nat) (a : Addr) (c : Cell), p.ms[j]? = some a → μ[j]? = some c → CellOk Z p H a c

def ER (Z : Ent) (p : Pt) (σ : L2.St) (Γ : Gam) : Prop := σ.length = Γ.length ∧ ∀ (i : Nat) (t : T), Γ[i]? = some (some t) → ∃ v, σ[i]? = some (some v) ∧ RT Z p v t

section
variable {Z : Ent} {p q : Pt} {H H' : Hp} {μ : Mu} {σ : L2.St} {Γ : Gam}
theorem RT.mono (e : p.Le q) {v : V} : ∀ {t : T}, RT Z p v t → RT Z q v t
  | .v true d, h => Dx.mono e.n d h
  | .v false d, h => Dx.mono e.f d h
  | .m j, ⟨a, h, r⟩ => ⟨a, by
      obtain ⟨l, hl⟩ := e.m
      rw [← hl, List.getElem?_append_left (List.getElem?_eq_some_iff.mp h).1]
      exact h, r⟩
theorem RTs.mono (e : p.Le q) : ∀ {vs : List V} {ts : List T}, RTs Z p vs ts → RTs Z q vs ts
  | _, _, .nil => .nil
  | _, _, .cons h t => .cons (h.mono e) (RTs.mono e t)
theorem RTs.length : ∀ {vs : List V} {ts : List T}, RTs Z p vs ts → vs.length = ts.length
  | _, _, .nil => rfl
  | _, _, .cons _ t => congrArg Nat.succ (RTs.length t)
theorem RTs.get : ∀ {vs : List V} {ts : List T} {i : Nat} {t : T}, RTs Z p vs ts → ts[i]? = some t → ∃ v, vs[i]? = some v ∧ RT Z p v t
  | _, _, _, _, .nil, e => by simp at e
  | _, _, 0, _, .cons h _, e => by simp at e; subst e; exact ⟨_, rfl, h⟩
  | _, _, i + 1, _, .cons _ t, e => by
    obtain ⟨v, h1, h2⟩ := RTs.get (i := i) t (by simpa using e)
    exact ⟨v, by simpa using h1, h2⟩
theorem RTs.append : ∀ {vs ws : List V} {ts us : List T}, RTs Z p vs ts → RTs Z p ws us → RTs Z p (vs ++ ws) (ts ++ us)
  | _, _, _, _, .nil, h => h
  | _, _, _, _, .cons h t, g => .cons h (RTs.append t g)
theorem RTs.set {v : V} {t : T} (r : RT Z p v t) : ∀ {vs : List V} {ts : List T} (i : Nat), RTs Z p vs ts → RTs Z p (vs.set i v) (ts.set i t)
  | _, _, _, .nil => .nil
  | _, _, 0, .cons _ g => .cons r g
  | _, _, i + 1, .cons h g => .cons h (RTs.set r i g)
theorem ER.mono (e : p.Le q) (h : ER Z p σ Γ) : ER Z q σ Γ := ⟨h.1, fun i t hi => by
  obtain ⟨v, h1, h2⟩ := h.2 i t hi
  exact ⟨v, h1, h2.mono e⟩⟩
theorem ER.set {v : V} {t : T} (h : ER Z p σ Γ) (r : RT Z p v t) (i : Nat) : ER Z p (σ.set i (some v)) (Γ.set i (some t)) := by
  refine ⟨by simp [h.1], fun j u hj => ?_⟩
  by_cases e : i = j
  · subst e
    by_cases hi : i < Γ.length
    · rw [List.getElem?_set_self hi] at hj
      cases hj
      exact ⟨v, by rw [List.getElem?_set_self (by rw [h.1]; exact hi)], r⟩
    · rw [List.getElem?_eq_none (by simpa using hi)] at hj
      cases hj
  · rw [List.getElem?_set_ne e] at hj ⊢
    exact h.2 j u hj
theorem ER.wipe (h : ER Z p σ Γ) (i : Nat) : ER Z p (σ.set i none) (Γ.set i none) := by
  refine ⟨by simp [h.1], fun j u hj => ?_⟩
  by_cases e : i = j
  · subst e
    by_cases hi : i < Γ.length
    · rw [List.getElem?_set_self hi] at hj
      cases hj
    · rw [List.getElem?_eq_none (by simpa using hi)] at hj
      cases hj
  · rw [List.getElem?_set_ne e] at hj ⊢
    exact h.2 j u hj
end
end L3

set_option Elab.async false
set_option maxRecDepth 100000
set_option maxHeartbeats 4000000
/-! L3, second part: what a piece of the text does to (slots, cells), and what it means for the layer below. -/
namespace L3
open PySem PySem.Spec PyProof.Rows L2

/-- an end: a value, or an error of the c-th error class with its value -/
inductive Rs (α : Type) where
  | ok (a : α) (μ : Mu)
  | exc (c : Nat) (t : T) (μ : Mu)
abbrev Ot (α : Type) := Option (Rs α)
def Ot.bind {α β : Type} (x : Ot α) (k : α → Mu → Ot β) : Ot β := match x with
  | some (.ok a μ) => k a μ
  | some (.exc c t μ) => some (.exc c t μ)
  | none => none
abbrev De := Gam → Mu → Ot T
/-- the same for lists of values -/
abbrev Da := Gam → Mu → Ot (List T)

/-- what a caller wants of an error -/
abbrev Wish := Value → Option Addr → L2.St → Hp → Prop

section
variable (Z : Ent) (W : Wish) (σ : L2.St)
/-- an error's end -/
def PostX (p : Pt) (c : Nat) (t : T) (μ : Mu) : Prop :=
  ∀ (C : Addr) (v : V) (dx : Addr) (H' : Hp) (q : Pt), Z.TB.exc c = some C → p.Le q → SR Z q H' μ → Z.H0 dx = none → q.N dx = some (.xd [("value", v)]) → RT Z q v t → W (.ref C) (some dx) σ H'
def Post (Q : VK) (p : Pt) (r : Ot T) : Prop := match r with
  | some (.ok t μ) => ∀ (v : V) (H' : Hp) (q : Pt), p.Le q → SR Z q H' μ → RT Z q v t → Q v H'
  | some (.exc c t μ) => PostX Z W σ p c t μ
  | none => False
def PostA (Q : List V → Hp → Prop) (p : Pt) (r : Ot (List T)) : Prop := match r with
  | some (.ok ts μ) => ∀ (vs : List V) (H' : Hp) (q : Pt), p.Le q → SR Z q H' μ → RTs Z q vs ts → Q vs H'
  | some (.exc c t μ) => PostX Z W σ p c t μ
  | none => False
def PostB (Q : Bool → Hp → Prop) (p : Pt) (r : Ot Bool) : Prop := match r with
  | some (.ok b μ) => ∀ (H' : Hp) (q : Pt), p.Le q → SR Z q H' μ → Q b H'
  | some (.exc c t μ) => PostX Z W σ p c t μ
  | none => False
end

/-- the reading of a piece that does g -/
def tD (Z : Ent) (W : Wish) (g : De) : TE := fun σ H Q => ∃ (p : Pt) (μ : Mu) (Γ : Gam), SR Z p H μ ∧ ER Z p σ Γ ∧ Post Z W σ Q p (g Γ μ)
def tDA (Z : Ent) (W : Wish) (g : Da) : TA := fun σ H Q => ∃ (p : Pt) (μ : Mu) (Γ : Gam), SR Z p H μ ∧ ER Z p σ Γ ∧ PostA Z W σ Q p (g Γ μ)
def tDB (Z : Ent) (W : Wish) (g : Gam → Mu → Ot Bool) : TT := fun σ H Q => ∃ (p : Pt) (μ : Mu) (Γ : Gam), SR Z p H μ ∧ ER Z p σ Γ ∧ PostB Z W σ Q p (g Γ μ)

/-! weaker readings -/
theorem pe_imp {X : Cx} {e : Expr} {t u : TE} (h : PE X e t) (i : ∀ σ H Q, u σ H Q → t σ H Q) : PE X e u := ⟨fun pins s σ H Q I q => h.run pins s σ H Q I (i σ H Q q)⟩
theorem pt_imp {X : Cx} {e : Expr} {t u : TT} (h : PT X e t) (i : ∀ σ H Q, u σ H Q → t σ H Q) : PT X e u := ⟨fun pins s σ H Q I q => h.run pins s σ H Q I (i σ H Q q)⟩
theorem pa_imp {X : Cx} {es : List Expr} {t u : TA} (h : PA X es t) (i : ∀ σ H Q, u σ H Q → t σ H Q) : PA X es u := ⟨fun pos pins s σ H Q I q => h.run pos pins s σ H Q I (i σ H Q q)⟩
theorem ps_imp {X : Cx} {e : Stmt} {t u : TS} (h : PS X e t) (i : ∀ D σ H, u D σ H → t D σ H) : PS X e u := ⟨fun pins s σ H D I q => h.run pins s σ H D I (i D σ H q)⟩
theorem pss_imp {X : Cx} {e : List Stmt} {t u : TS} (h : PSs X e t) (i : ∀ D σ H, u D σ H → t D σ H) : PSs X e u := ⟨fun pins s σ H D I q => h.run pins s σ H D I (i D σ H q)⟩

section
variable {Z : Ent} {W : Wish} {σ : L2.St} {p q : Pt} {H : Hp} {μ : Mu} {Γ : Gam}

theorem PostX.le {c : Nat} {t : T} (e : p.Le q) (h : PostX Z W σ p c t μ) : PostX Z W σ q c t μ :=
  fun C v dx H' r hc hl hs h0 hd hr => h C v dx H' r hc (e.trans hl) hs h0 hd hr
theorem Post.le {Q : VK} {r : Ot T} (e : p.Le q) (h : Post Z W σ Q p r) : Post Z W σ Q q r := by
  match r, h with
  | some (.ok t μ), h => exact fun v H' r hl => h v H' r (e.trans hl)
  | some (.exc c t μ), h => exact PostX.le e h
/-- one piece, then what hangs on its value -/
theorem tD_bind {g : De} {k : T → Mu → Ot T} {Q : VK} (s : SR Z p H μ) (e : ER Z p σ Γ) (h : Post Z W σ Q p (Ot.bind (g Γ μ) k)) :
    tD Z W g σ H fun v H1 => ∃ (q : Pt) (μ1 : Mu) (t : T), p.Le q ∧ SR Z q H1 μ1 ∧ ER Z q σ Γ ∧ RT Z q v t ∧ Post Z W σ Q q (k t μ1) := by
  refine ⟨p, μ, Γ, s, e, ?_⟩
  match hg : g Γ μ, h with
  | some (.ok t μ1), h =>
    have h : Post Z W σ Q p (k t μ1) := h
    exact fun v H' q hl hs hr => ⟨q, μ1, t, hl, hs, e.mono hl, hr, Post.le hl h⟩
  | some (.exc c t μ1), h => exact h
theorem tD_bindA {g : De} {k : T → Mu → Ot (List T)} {Q : List V → Hp → Prop} (s : SR Z p H μ) (e : ER Z p σ Γ) (h : PostA Z W σ Q p (Ot.bind (g Γ μ) k)) :
    tD Z W g σ H fun v H1 => ∃ (q : Pt) (μ1 : Mu) (t : T), p.Le q ∧ SR Z q H1 μ1 ∧ ER Z q σ Γ ∧ RT Z q v t ∧ PostA Z W σ Q q (k t μ1) := by
  refine ⟨p, μ, Γ, s, e, ?_⟩
  match hg : g Γ μ, h with
  | some (.ok t μ1), h =>
    have h : PostA Z W σ Q p (k t μ1) := h
    refine fun v H' q hl hs hr => ⟨q, μ1, t, hl, hs, e.mono hl, hr, ?_⟩
    match hk : k t μ1, h with
    | some (.ok t μ), h => exact fun v H' r hl' => h v H' r (hl.trans hl')
    | some (.exc c t μ), h => exact PostX.le hl h
  | some (.exc c t μ1), h => exact h
theorem PostB.le {Q : Bool → Hp → Prop} {r : Ot Bool} (e : p.Le q) (h : PostB Z W σ Q p r) : PostB Z W σ Q q r := by
  match r, h with
  | some (.ok t μ), h => exact fun H' r hl => h H' r (e.trans hl)
  | some (.exc c t μ), h => exact PostX.le e h
theorem PostA.le {Q : List V → Hp → Prop} {r : Ot (List T)} (e : p.Le q) (h : PostA Z W σ Q p r) : PostA Z W σ Q q r := by
  match r, h with
  | some (.ok t μ), h => exact fun v H' r hl => h v H' r (e.trans hl)
  | some (.exc c t μ), h => exact PostX.le e h
theorem tD_bindB {g : De} {k : T → Mu → Ot Bool} {Q : Bool → Hp → Prop} (s : SR Z p H μ) (e : ER Z p σ Γ) (h : PostB Z W σ Q p (Ot.bind (g Γ μ) k)) :
    tD Z W g σ H fun v H1 => ∃ (q : Pt) (μ1 : Mu) (t : T), p.Le q ∧ SR Z q H1 μ1 ∧ ER Z q σ Γ ∧ RT Z q v t ∧ PostB Z W σ Q q (k t μ1) := by
  refine ⟨p, μ, Γ, s, e, ?_⟩
  match hg : g Γ μ, h with
  | some (.ok t μ1), h =>
    have h : PostB Z W σ Q p (k t μ1) := h
    exact fun v H' q hl hs hr => ⟨q, μ1, t, hl, hs, e.mono hl, hr, PostB.le hl h⟩
  | some (.exc c t μ1), h => exact h
theorem tDB_bind {g : Gam → Mu → Ot Bool} {k : Bool → Mu → Ot T} {Q : VK} (s : SR Z p H μ) (e : ER Z p σ Γ) (h : Post Z W σ Q p (Ot.bind (g Γ μ) k)) :
    tDB Z W g σ H fun b H1 => ∃ (q : Pt) (μ1 : Mu), p.Le q ∧ SR Z q H1 μ1 ∧ ER Z q σ Γ ∧ Post Z W σ Q q (k b μ1) := by
  refine ⟨p, μ, Γ, s, e, ?_⟩
  match hg : g Γ μ, h with
  | some (.ok t μ1), h =>
    have h : Post Z W σ Q p (k t μ1) := h
    exact fun H' q hl hs => ⟨q, μ1, hl, hs, e.mono hl, Post.le hl h⟩
  | some (.exc c t μ1), h => exact h
theorem tDB_bindB {g : Gam → Mu → Ot Bool} {k : Bool → Mu → Ot Bool} {Q : Bool → Hp → Prop} (s : SR Z p H μ) (e : ER Z p σ Γ) (h : PostB Z W σ Q p (Ot.bind (g Γ μ) k)) :
    tDB Z W g σ H fun b H1 => ∃ (q : Pt) (μ1 : Mu), p.Le q ∧ SR Z q H1 μ1 ∧ ER Z q σ Γ ∧ PostB Z W σ Q q (k b μ1) := by
  refine ⟨p, μ, Γ, s, e, ?_⟩
  match hg : g Γ μ, h with
  | some (.ok t μ1), h =>
    have h : PostB Z W σ Q p (k t μ1) := h
    exact fun H' q hl hs => ⟨q, μ1, hl, hs, e.mono hl, PostB.le hl h⟩
  | some (.exc c t μ1), h => exact h
theorem tDA_bind {g : Da} {k : List T → Mu → Ot T} {Q : VK} (s : SR Z p H μ) (e : ER Z p σ Γ) (h : Post Z W σ Q p (Ot.bind (g Γ μ) k)) :
    tDA Z W g σ H fun vs H1 => ∃ (q : Pt) (μ1 : Mu) (ts : List T), p.Le q ∧ SR Z q H1 μ1 ∧ ER Z q σ Γ ∧ RTs Z q vs ts ∧ Post Z W σ Q q (k ts μ1) := by
  refine ⟨p, μ, Γ, s, e, ?_⟩
  match hg : g Γ μ, h with
  | some (.ok t μ1), h =>
    have h : Post Z W σ Q p (k t μ1) := h
    exact fun v H' q hl hs hr => ⟨q, μ1, t, hl, hs, e.mono hl, hr, Post.le hl h⟩
  | some (.exc c t μ1), h => exact h
theorem tDA_bindA {g : Da} {k : List T → Mu → Ot (List T)} {Q : List V → Hp → Prop} (s : SR Z p H μ) (e : ER Z p σ Γ) (h : PostA Z W σ Q p (Ot.bind (g Γ μ) k)) :
    tDA Z W g σ H fun vs H1 => ∃ (q : Pt) (μ1 : Mu) (ts : List T), p.Le q ∧ SR Z q H1 μ1 ∧ ER Z q σ Γ ∧ RTs Z q vs ts ∧ PostA Z W σ Q q (k ts μ1) := by
  refine ⟨p, μ, Γ, s, e, ?_⟩
  match hg : g Γ μ, h with
  | some (.ok t μ1), h =>
    have h : PostA Z W σ Q p (k t μ1) := h
    exact fun v H' q hl hs hr => ⟨q, μ1, t, hl, hs, e.mono hl, hr, PostA.le hl h⟩
  | some (.exc c t μ1), h => exact h

/-- a value stands for itself -/
theorem RT.up {v : V} (s : SR Z p H μ) {d : D} (f : Bool) (h : RT Z p v (.v f d)) : Dx Z.K Z.TB H v d := by
  cases f
  · exact Dx.mono s.sub d h
  · exact Dx.mono (s.nin.trans s.sub) d h
theorem RT.old {v : V} (s : SR Z p H μ) {d : D} {f : Bool} (h : RT Z p v (.v f d)) : RT Z p v (.v false d) := by
  cases f
  · exact h
  · exact Dx.mono s.nin d h
theorem RT.atom {v : V} {d : D} {f : Bool} (h : RT Z p v (.v f d)) (a : d.atom = true) (f' : Bool) : RT Z q v (.v f' d) := by
  cases f <;> cases f' <;> exact Dx.atomic h a
/-- an item of what is new is new; an atom always is -/
def mkT (f : Bool) (d : D) : T := .v (f || d.atom) d
theorem RT.mk {v : V} {d : D} {f : Bool} (h : RT Z p v (.v f d)) : RT Z p v (mkT f d) := by
  unfold mkT
  cases ha : d.atom
  · rw [Bool.or_false]; exact h
  · exact h.atom ha _
theorem RTs.mk {f : Bool} : ∀ {vs : List V} {ds : List D}, (∀ (i : Nat) v d, vs[i]? = some v → ds[i]? = some d → RT Z p v (.v f d)) → vs.length = ds.length → RTs Z p vs (ds.map (mkT f))
  | [], [], _, _ => .nil
  | v :: vs, d :: ds, h, e => .cons (RT.mk (h 0 v d rfl rfl)) (RTs.mk (fun i v' d' h1 h2 => h (i + 1) v' d' (by simpa using h1) (by simpa using h2)) (by simpa using e))
  | [], _ :: _, _, e => by simp at e
  | _ :: _, [], _, e => by simp at e
/-- the values of a list: all of it for good, and whether all of it is new -/
def pack : List T → Option (Bool × List D)
  | [] => some (true, [])
  | .v f d :: r => match pack r with
    | some (g, ds) => some (f && g, d :: ds)
    | none => none
  | .m _ :: _ => none
theorem pack_ok (s : SR Z p H μ) : ∀ {ts : List T} {vs : List V} {f : Bool} {ds : List D}, pack ts = some (f, ds) → RTs Z p vs ts →
    (f = true → DxAll Z.K Z.TB p.N vs ds) ∧ DxAll Z.K Z.TB p.F vs ds
  | [], vs, f, ds, h, r => by
    cases h
    cases r
    exact ⟨fun _ => .nil, .nil⟩
  | .m _ :: _, vs, f, ds, h, r => by cases h
  | .v g d :: ts, vs, f, ds, h, r => by
    cases r with
    | cons r1 r2 =>
      unfold pack at h
      match hp : pack ts, h with
      | some (g', ds'), h =>
        cases h
        obtain ⟨h1, h2⟩ := pack_ok s hp r2
        refine ⟨fun e => ?_, .cons (show RT Z p _ (.v false d) from r1.old s) h2⟩
        obtain ⟨e1, e2⟩ := Bool.and_eq_true_iff.mp e
        subst e1
        exact .cons r1 (h1 e2)
end
end L3

set_option Elab.async false
set_option linter.all false
set_option maxRecDepth 100000
set_option maxHeartbeats 4000000
/-! L3, third part: new objects, lists that change, lists that stand still from now on, what is read. -/
namespace L3
open PySem PySem.Spec PyProof.Rows L2

section
variable {Z : Ent} {p q : Pt} {H : Hp} {μ : Mu} {σ : L2.St} {Γ : Gam}

theorem same_upd {H H' : Hp} {a : Addr} {o : HO} (h : Same H H') (n : H a = none) : Same H (upd H' a o) := fun b u e => by
  rw [upd_ne (ne_of_none e n)]
  exact h b u e
theorem same_upd2 {H H' : Hp} {a : Addr} {o : HO} (h : Same H H') : Same (upd H a o) (upd H' a o) := fun b u e => by
  by_cases hb : b = a
  · subst hb; rw [upd_same] at e ⊢; exact e
  · rw [upd_ne hb] at e ⊢; exact h b u e

theorem SR.free0 (s : SR Z p H μ) {a : Addr} (n : H a = none) : Z.H0 a = none := by
  cases e : Z.H0 a with
  | none => rfl
  | some o =>
    obtain ⟨o', h⟩ := s.dom a o e
    rw [n] at h; cases h
theorem SR.freeF (s : SR Z p H μ) {a : Addr} (n : H a = none) : p.F a = none := s.sub.free n
theorem SR.freeN (s : SR Z p H μ) {a : Addr} (n : H a = none) : p.N a = none := s.nin.free (s.freeF n)
theorem Cell.mono {a : Addr} (e : p.Le q) {H' : Hp} (h : H' a = H a) : ∀ {c : Cell}, CellOk Z p H a c → CellOk Z q H' a c
  | .lst ts, ⟨vs, h1, h2⟩ => ⟨vs, h.trans h1, h2.mono e⟩
  | .tup ts, ⟨vs, h1, h2⟩ => ⟨vs, h.trans h1, h2.mono e⟩
  | .obj c ts, ⟨C, dx, fs, names, h1, h2, h3, h4⟩ => ⟨C, dx, fs, names, h.trans h1, h2, h3, h4.mono e⟩
  | .dT ks ts, ⟨kvs, h1, h2, h3⟩ => ⟨kvs, h.trans h1, h2, h3.mono e⟩
  | .dK ks ts, ⟨kvs, h1, h2, h3⟩ => ⟨kvs, h.trans h1, h2, h3.mono e⟩
  | .frz f d, h1 => RT.mono e h1
  | .hid, _ => trivial

/-- a new object that stands for good; f: nothing in it is older than the entry -/
def Pt.add (p : Pt) (f : Bool) (a : Addr) (o : HO) : Pt := ⟨upd p.F a o, if f then upd p.N a o else p.N, p.ms⟩
theorem Pt.add_le {f : Bool} {a : Addr} {o : HO} (hF : p.F a = none) (hN : p.N a = none) : p.Le (p.add f a o) :=
  ⟨same_upd (Same.refl _) hF, by
    cases f
    · exact Same.refl _
    · exact same_upd (Same.refl _) hN, List.prefix_refl _⟩
theorem SR.add (s : SR Z p H μ) {f : Bool} {a : Addr} {o : HO} (n : H a = none) : SR Z (p.add f a o) (upd H a o) μ where
  sub := same_upd2 s.sub
  nin := by
    cases f
    · exact same_upd s.nin (s.freeN n)
    · exact same_upd2 s.nin
  fr := fun b u e => by
    cases f
    · exact s.fr b u e
    · by_cases hb : b = a
      · subst hb; exact s.free0 n
      · have e' : upd p.N a o b = some u := e
        rw [upd_ne hb] at e'
        exact s.fr b u e'
  org := fun b u e => by
    by_cases hb : b = a
    · subst hb; exact .inr (s.free0 n)
    · have e' : upd p.F a o b = some u := e
      rw [upd_ne hb] at e'
      exact s.org b u e'
  keep := fun b u e hb => by rw [upd_ne (ne_of_none e (s.free0 n))]; exact s.keep b u e hb
  dom := fun b u e => by rw [upd_ne (ne_of_none e (s.free0 n))]; exact s.dom b u e
  pre := s.pre
  nd := s.nd
  len := s.len
  nof := fun j b c hj hc hl => by
    obtain ⟨u, hu⟩ := s.trk b (List.mem_of_getElem? hj)
    show upd p.F a o b = none
    rw [upd_ne (ne_of_none hu n)]
    exact s.nof j b c hj hc hl
  trk := fun b hb => by
    obtain ⟨u, hu⟩ := s.trk b hb
    exact ⟨u, by rw [upd_ne (ne_of_none hu n)]; exact hu⟩
  new := s.new
  cell := fun j b c hj hc => by
    obtain ⟨u, hu⟩ := s.trk b (List.mem_of_getElem? hj)
    exact Cell.mono (Pt.add_le (s.freeF n) (s.freeN n)) (upd_ne (ne_of_none hu n)) (s.cell j b c hj hc)
theorem SR.add_le (s : SR Z p H μ) {f : Bool} {a : Addr} {o : HO} (n : H a = none) : p.Le (p.add f a o) := Pt.add_le (s.freeF n) (s.freeN n)

/-- a new cell -/
def Pt.push (p : Pt) (a : Addr) : Pt := ⟨p.F, p.N, p.ms ++ [a]⟩
theorem Pt.push_le {a : Addr} : p.Le (p.push a) := ⟨Same.refl _, Same.refl _, List.prefix_append _ _⟩
theorem get_snoc {α : Type} {l : List α} {x : α} {j : Nat} {y : α} (h : (l ++ [x])[j]? = some y) : (j < l.length ∧ l[j]? = some y) ∨ (j = l.length ∧ y = x) := by
  by_cases hj : j < l.length
  · rw [List.getElem?_append_left hj] at h
    exact .inl ⟨hj, h⟩
  · rw [List.getElem?_append_right (Nat.le_of_not_lt hj)] at h
    have : j - l.length = 0 := by
      cases e : j - l.length with
      | zero => rfl
      | succ n => rw [e] at h; simp at h
    rw [this] at h
    simp at h
    exact .inr ⟨by omega, h.symm⟩
theorem SR.push (s : SR Z p H μ) {a : Addr} {o : HO} {c : Cell} (n : H a = none) (hl : c.live = true) (hc : CellOk Z (p.push a) (upd H a o) a c) : SR Z (p.push a) (upd H a o) (μ ++ [c]) where
  sub := same_upd s.sub (s.freeF n)
  nin := s.nin
  fr := s.fr
  org := s.org
  keep := fun b u e hb => by rw [upd_ne (ne_of_none e (s.free0 n))]; exact s.keep b u e hb
  dom := fun b u e => by rw [upd_ne (ne_of_none e (s.free0 n))]; exact s.dom b u e
  pre := s.pre.trans (List.prefix_append _ _)
  nd := by
    show (p.ms ++ [a]).Nodup
    rw [List.nodup_append]
    refine ⟨s.nd, by simp, fun b hb c hc => ?_⟩
    obtain ⟨u, hu⟩ := s.trk b hb
    have : c = a := by simpa using hc
    subst this
    exact ne_of_none hu n
  len := by
    show (p.ms ++ [a]).length = (μ ++ [c]).length
    simp [s.len]
  nof := fun j b d hj hd hl => by
    rcases get_snoc hj with ⟨h1, h2⟩ | ⟨h1, h2⟩
    · rw [List.getElem?_append_left (by rw [← s.len]; exact h1)] at hd
      exact s.nof j b d h2 hd hl
    · subst h2; exact s.freeF n
  trk := fun b hb => by
    rcases List.mem_append.mp (show b ∈ p.ms ++ [a] from hb) with hb | hb
    · obtain ⟨u, hu⟩ := s.trk b hb
      exact ⟨u, by rw [upd_ne (ne_of_none hu n)]; exact hu⟩
    · have : b = a := by simpa using hb
      subst this
      exact ⟨_, upd_same⟩
  new := fun j b hj hb => by
    rcases get_snoc hj with ⟨h1, h2⟩ | ⟨h1, h2⟩
    · exact s.new j b h2 hb
    · subst h2; exact s.free0 n
  cell := fun j b d hj hd => by
    rcases get_snoc hj with ⟨h1, h2⟩ | ⟨h1, h2⟩
    · rw [List.getElem?_append_left (by rw [← s.len]; exact h1)] at hd
      obtain ⟨u, hu⟩ := s.trk b (List.mem_of_getElem? h2)
      exact Cell.mono Pt.push_le (upd_ne (ne_of_none hu n)) (s.cell j b d h2 hd)
    · subst h2
      rw [h1, s.len, List.getElem?_append_right (Nat.le_refl _), Nat.sub_self] at hd
      have : d = c := by simpa using hd.symm
      subst this
      exact hc

/-- a cell is written -/
theorem SR.write (s : SR Z p H μ) {j : Nat} {a : Addr} {o : HO} {c c' : Cell} (hj : p.ms[j]? = some a) (hc : μ[j]? = some c) (hl : c.live = true) (hl' : c'.live = true) (ho : CellOk Z p (upd H a o) a c') : SR Z p (upd H a o) (μ.set j c') where
  sub := fun b u e => by
    have : b ≠ a := ne_of_none e (s.nof j a c hj hc hl)
    rw [upd_ne this]
    exact s.sub b u e
  nin := s.nin
  fr := s.fr
  org := s.org
  keep := fun b u e hb => by
    by_cases hba : b = a
    · subst hba
      by_cases h0 : Z.ms0.length ≤ j
      · rw [s.new j b hj h0] at e; cases e
      · obtain ⟨l, hl⟩ := s.pre
        rw [← hl, List.getElem?_append_left (Nat.lt_of_not_le h0)] at hj
        exact absurd (List.mem_of_getElem? hj) hb
    · rw [upd_ne hba]
      exact s.keep b u e hb
  dom := fun b u e => by
    by_cases hba : b = a
    · subst hba; exact ⟨_, upd_same⟩
    · rw [upd_ne hba]; exact s.dom b u e
  pre := s.pre
  nd := s.nd
  len := by rw [List.length_set]; exact s.len
  nof := fun i b d hi hd hld => by
    by_cases e : j = i
    · subst e
      rw [hj] at hi; cases hi
      exact s.nof j a c hj hc hl
    · rw [List.getElem?_set_ne e] at hd
      exact s.nof i b d hi hd hld
  trk := fun b hb => by
    by_cases hba : b = a
    · subst hba; exact ⟨_, upd_same⟩
    · rw [upd_ne hba]; exact s.trk b hb
  new := s.new
  cell := fun i b d hi hd => by
    by_cases e : j = i
    · subst e
      rw [hj] at hi; cases hi
      rw [List.getElem?_set_self (by rw [← s.len]; exact (List.getElem?_eq_some_iff.mp hj).1)] at hd
      cases hd
      exact ho
    · rw [List.getElem?_set_ne e] at hd
      have : b ≠ a := fun z => by subst z; exact e (nd_ix s.nd hj hi)
      exact Cell.mono (Pt.Le.refl _) (upd_ne this) (s.cell i b d hi hd)

/-- a list stands still from now on -/
theorem SR.freeze (s : SR Z p H μ) {j : Nat} {a : Addr} {ts : List T} {f : Bool} {ds : List D} (hj : p.ms[j]? = some a) (hc : μ[j]? = some (.lst ts)) (h0 : Z.ms0.length ≤ j) (hp : pack ts = some (f, ds)) :
    ∃ o, H a = some o ∧ SR Z (p.add f a o) H (μ.set j (.frz f (.lst ds))) ∧ p.Le (p.add f a o) ∧ RT Z (p.add f a o) (.ref a) (.v f (.lst ds)) := by
  obtain ⟨vs, ha, hr⟩ := s.cell j a _ hj hc
  have hF := s.nof j a _ hj hc rfl
  have hN := s.nin.free hF
  have le : p.Le (p.add f a (.lst vs)) := Pt.add_le hF hN
  obtain ⟨r1, r2⟩ := pack_ok s hp hr
  have rt : RT Z (p.add f a (.lst vs)) (.ref a) (.v f (.lst ds)) := by
    cases f
    · refine Dx.lst (?_) (DxAll.mono le.f ds r2)
      show upd p.F a _ a = _
      exact upd_same
    · refine Dx.lst (?_) (DxAll.mono le.n ds (r1 rfl))
      show upd p.N a _ a = _
      exact upd_same
  refine ⟨.lst vs, ha, ⟨fun b u e => ?_, ?_, fun b u e => ?_, fun b u e => ?_, s.keep, s.dom, s.pre, s.nd, by rw [List.length_set]; exact s.len, fun i b d hi hd hl => ?_, s.trk, s.new, fun i b d hi hd => ?_⟩, le, rt⟩
  · by_cases hb : b = a
    · subst hb
      have e' : upd p.F b (.lst vs) b = some u := e
      rw [upd_same] at e'
      rw [ha]; exact e'
    · have e' : upd p.F a (.lst vs) b = some u := e
      rw [upd_ne hb] at e'
      exact s.sub b u e'
  · cases f
    · exact same_upd s.nin hN
    · exact same_upd2 s.nin
  · cases f
    · exact s.fr b u e
    · by_cases hb : b = a
      · subst hb; exact s.new j b hj h0
      · have e' : upd p.N a (.lst vs) b = some u := e
        rw [upd_ne hb] at e'
        exact s.fr b u e'
  · by_cases hb : b = a
    · subst hb; exact .inr (s.new j b hj h0)
    · have e' : upd p.F a (.lst vs) b = some u := e
      rw [upd_ne hb] at e'
      exact s.org b u e'
  · by_cases e : j = i
    · subst e
      rw [List.getElem?_set_self (by rw [← s.len]; exact (List.getElem?_eq_some_iff.mp hj).1)] at hd
      cases hd
      cases hl
    · rw [List.getElem?_set_ne e] at hd
      have : b ≠ a := fun z => by subst z; exact e (nd_ix s.nd hj hi)
      show upd p.F a _ b = none
      rw [upd_ne this]
      exact s.nof i b d hi hd hl
  · by_cases e : j = i
    · subst e
      rw [List.getElem?_set_self (by rw [← s.len]; exact (List.getElem?_eq_some_iff.mp hj).1)] at hd
      cases hd
      have hi' : p.ms[j]? = some b := hi
      rw [hj] at hi'; cases hi'
      exact rt
    · rw [List.getElem?_set_ne e] at hd
      exact Cell.mono le rfl (s.cell i b d hi hd)

/-- values that speak of the first k cells alone -/
def T.low (k : Nat) : T → Bool
  | .v _ _ => true
  | .m j => decide (j < k)
def Cell.low (k : Nat) : Cell → Bool
  | .lst ts => ts.all (T.low k)
  | .tup ts => ts.all (T.low k)
  | .obj _ ts => ts.all (T.low k)
  | .dT _ ts => ts.all (T.low k)
  | .dK _ ts => ts.all (T.low k)
  | .frz _ _ => true
  | .hid => true
def Pt.cut (p : Pt) (k : Nat) : Pt := ⟨p.F, p.N, p.ms.take k⟩
theorem RT.low {k : Nat} {v : V} : ∀ {t : T}, t.low k = true → RT Z p v t → RT Z (p.cut k) v t
  | .v true _, _, h => h
  | .v false _, _, h => h
  | .m j, e, ⟨a, h, r⟩ => ⟨a, by
      have : j < k := of_decide_eq_true e
      show (p.ms.take k)[j]? = some a
      rw [List.getElem?_take_of_lt this]
      exact h, r⟩
theorem RTs.low {k : Nat} : ∀ {vs : List V} {ts : List T}, ts.all (T.low k) = true → RTs Z p vs ts → RTs Z (p.cut k) vs ts
  | _, _, _, .nil => .nil
  | _, _, e, .cons h t => by
    rw [List.all_cons, Bool.and_eq_true_iff] at e
    exact .cons (h.low e.1) (RTs.low e.2 t)
theorem CellOk.low {k : Nat} {a : Addr} : ∀ {c : Cell}, c.low k = true → CellOk Z p H a c → CellOk Z (p.cut k) H a c
  | .lst ts, e, ⟨vs, h1, h2⟩ => ⟨vs, h1, h2.low e⟩
  | .tup ts, e, ⟨vs, h1, h2⟩ => ⟨vs, h1, h2.low e⟩
  | .obj c ts, e, ⟨C, dx, fs, names, h1, h2, h3, h4⟩ => ⟨C, dx, fs, names, h1, h2, h3, h4.low e⟩
  | .dT ks ts, e, ⟨kvs, h1, h2, h3⟩ => ⟨kvs, h1, h2, h3.low e⟩
  | .dK ks ts, e, ⟨kvs, h1, h2, h3⟩ => ⟨kvs, h1, h2, h3.low e⟩
  | .frz f d, _, h1 => RT.low rfl h1
  | .hid, _, _ => trivial
theorem SR.cut (s : SR Z p H μ) {k : Nat} (h0 : Z.ms0.length ≤ k) (hl : (μ.take k).all (Cell.low k) = true) : SR Z (p.cut k) H (μ.take k) where
  sub := s.sub
  nin := s.nin
  fr := s.fr
  org := s.org
  keep := s.keep
  dom := s.dom
  pre := by
    show Z.ms0 <+: p.ms.take k
    rw [List.prefix_take_iff]
    exact ⟨s.pre, h0⟩
  nd := s.nd.sublist (List.take_sublist _ _)
  len := by
    show (p.ms.take k).length = (μ.take k).length
    rw [List.length_take, List.length_take, s.len]
  nof := fun j a c hj hc hl => by
    have hj : (p.ms.take k)[j]? = some a := hj
    rw [List.getElem?_take] at hj hc
    split at hj
    · rename_i h
      rw [if_pos h] at hc
      exact s.nof j a c hj hc hl
    · cases hj
  trk := fun a ha => s.trk a (List.mem_of_mem_take ha)
  new := fun j a hj => by
    have hj : (p.ms.take k)[j]? = some a := hj
    rw [List.getElem?_take] at hj
    split at hj
    · exact s.new j a hj
    · cases hj
  cell := fun j a c hj hc => by
    have hj : (p.ms.take k)[j]? = some a := hj
    have hlow : c.low k = true := List.all_eq_true.mp hl c (List.mem_of_getElem? hc)
    rw [List.getElem?_take] at hj hc
    split at hj
    · rename_i h
      rw [if_pos h] at hc
      exact (s.cell j a c hj hc).low hlow
    · cases hj
/-- what was said before the cells above k were made still stands -/
theorem SR.cut_le {r : Pt} (s : SR Z r H μ) (e : p.Le r) {k : Nat} (hk : p.ms.length ≤ k) : p.Le (r.cut k) :=
  ⟨e.f, e.n, by
    show p.ms <+: r.ms.take k
    rw [List.prefix_take_iff]
    exact ⟨e.m, hk⟩⟩
end
end L3

set_option Elab.async false
set_option linter.all false
set_option maxRecDepth 100000
set_option maxHeartbeats 4000000
/-! L3, fourth part: what values are to a reader. -/
namespace L3
open PySem PySem.Spec PyProof.Rows L2

/-- the items of a list or a tuple, as values; the Bool: a list -/
def itemsV (f : Bool) : D → Option (Bool × List T)
  | .lst xs => some (true, xs.map (mkT f))
  | .tup xs => some (false, xs.map (mkT f))
  | .scr ns => some (true, ns.map fun n => .v true (.int n))
  | _ => none
def items (μ : Mu) : T → Option (Bool × List T)
  | .v f d => itemsV f d
  | .m j => match μ[j]? with
    | some (.lst ts) => some (true, ts)
    | some (.tup ts) => some (false, ts)
    | some (.frz f d) => itemsV f d
    | _ => none

mutual
/-- data without instances, as the library has it -/
def D.py : D → Option PyData
  | .non => some .none
  | .bl b => some (.bool b)
  | .int i => some (.int i)
  | .str s => some (.str s)
  | .lst xs => match D.pys xs with | some ds => some (.list ds) | none => none
  | .tup xs => match D.pys xs with | some ds => some (.tuple ds) | none => none
  | .obj _ _ => none
  | .dT _ _ => none
  | .scr ns => some (.list (ns.map PyData.int))
def D.pys : List D → Option (List PyData)
  | [] => some []
  | x :: xs => match D.py x, D.pys xs with
    | some d, some ds => some (d :: ds)
    | _, _ => none
end

theorem dp_ints {K : PySem.W.Frag} {H : Hp} : ∀ ns : List Int, DpAll K H (ns.map V.int) (ns.map PyData.int)
  | [] => .nil
  | _ :: ns => .cons (.int _) (dp_ints ns)
section
variable {Z : Ent} {p q : Pt} {H : Hp} {μ : Mu}
mutual
theorem Dx.py {K : PySem.W.Frag} {TB : Tab} : ∀ (d : D) {v : V} {e : PyData}, Dx K TB H v d → d.py = some e → Dp K H v e
  | .non, _, _, h, r => by cases h; simp [D.py] at r; subst r; exact .non
  | .bl _, _, _, h, r => by cases h; simp [D.py] at r; subst r; exact .bl _
  | .int _, _, _, h, r => by cases h; simp [D.py] at r; subst r; exact .int _
  | .str _, _, _, h, r => by cases h; simp [D.py] at r; subst r; exact .str _
  | .lst xs, _, _, h, r => by
    cases h with
    | lst hs ha =>
      unfold D.py at r
      match hp : D.pys xs, r with
      | some ds, r => cases r; exact .lst (SqL.of hs) (DxAll.pys xs ha hp)
  | .tup xs, _, _, h, r => by
    cases h with
    | tup hs ha =>
      unfold D.py at r
      match hp : D.pys xs, r with
      | some ds, r => cases r; exact .tup (SqT.of hs) (DxAll.pys xs ha hp)
  | .obj _ _, _, _, h, r => by unfold D.py at r; cases r
  | .dT _ _, _, _, h, r => by unfold D.py at r; cases r
  | .scr ns, _, _, h, r => by
    cases h with
    | scr hs =>
      unfold D.py at r; cases r
      exact .lst hs (dp_ints ns)
theorem DxAll.pys {K : PySem.W.Frag} {TB : Tab} : ∀ (ds : List D) {vs : List V} {es : List PyData}, DxAll K TB H vs ds → D.pys ds = some es → DpAll K H vs es
  | [], _, _, h, r => by cases h; simp [D.pys] at r; subst r; exact .nil
  | d :: ds, _, _, h, r => by
    cases h with
    | cons h1 h2 =>
      unfold D.pys at r
      match hp : D.py d, hq : D.pys ds, r with
      | some e, some es, r => cases r; exact .cons (Dx.py d h1 hp) (DxAll.pys ds h2 hq)
end

theorem RTs.of_all {f : Bool} {vs : List V} {ds : List D} (h : DxAll Z.K Z.TB (if f then p.N else p.F) vs ds) : RTs Z p vs (ds.map (mkT f)) := by
  refine RTs.mk (fun i v d h1 h2 => ?_) h.length
  obtain ⟨v', e1, e2⟩ := h.get h2
  rw [h1] at e1; cases e1
  cases f
  · exact e2
  · exact e2
theorem SqL.up {K : PySem.W.Frag} {F H : Hp} (e : Same F H) {a : Addr} {xs : List V} (h : SqL K F a xs) : SqL K H a xs := e.seq h
theorem SqT.up {K : PySem.W.Frag} {F H : Hp} (e : Same F H) {a : Addr} {xs : List V} (h : SqT K F a xs) : SqT K H a xs := by
  rcases h with (z | ⟨o, z⟩) | z
  · exact .inl (.inl (e _ _ z))
  · exact .inl (.inr ⟨o, e _ _ z⟩)
  · exact .inr z

theorem rts_ints : ∀ ns : List Int, RTs Z p (ns.map V.int) (ns.map fun n => .v true (.int n))
  | [] => .nil
  | _ :: ns => .cons (Dx.int _) (rts_ints ns)
theorem items_v (s : SR Z p H μ) {f : Bool} {d : D} {v : V} {b : Bool} {ts : List T} (h : RT Z p v (.v f d)) (e : itemsV f d = some (b, ts)) :
    ∃ a vs, v = .ref a ∧ (if b then SqL Z.K H a vs else SqT Z.K H a vs) ∧ RTs Z p vs ts := by
  have up : Same (if f then p.N else p.F) H := by
    cases f
    · exact s.sub
    · exact s.nin.trans s.sub
  have h : Dx Z.K Z.TB (if f then p.N else p.F) v d := by
    cases f
    · exact h
    · exact h
  cases h with
  | lst hs ha =>
    cases e
    exact ⟨_, _, rfl, SqL.of (up _ _ hs), RTs.of_all ha⟩
  | tup hs ha =>
    cases e
    exact ⟨_, _, rfl, SqT.of (up _ _ hs), RTs.of_all ha⟩
  | non => cases e
  | bl => cases e
  | int => cases e
  | str => cases e
  | obj => cases e
  | dT => cases e
  | scr hs =>
    cases e
    exact ⟨_, _, rfl, SqL.up up hs, rts_ints _⟩
theorem items_ok (s : SR Z p H μ) {t : T} {v : V} {b : Bool} {ts : List T} (h : RT Z p v t) (e : items μ t = some (b, ts)) :
    ∃ a vs, v = .ref a ∧ (if b then SqL Z.K H a vs else SqT Z.K H a vs) ∧ RTs Z p vs ts := by
  match t, h, e with
  | .v f d, h, e => exact items_v s h e
  | .m j, ⟨a, hj, hv⟩, e =>
    subst hv
    simp only [items] at e
    cases hc : μ[j]? with
    | none => rw [hc] at e; cases e
    | some c =>
      rw [hc] at e
      cases c with
      | lst ts' =>
        cases e
        obtain ⟨vs, h1, h2⟩ := s.cell j a _ hj hc
        exact ⟨a, vs, rfl, SqL.of h1, h2⟩
      | tup ts' =>
        cases e
        obtain ⟨vs, h1, h2⟩ := s.cell j a _ hj hc
        exact ⟨a, vs, rfl, SqT.of h1, h2⟩
      | frz f d => exact items_v s (show RT Z p (.ref a) (.v f d) from s.cell j a _ hj hc) e
      | obj _ _ => cases e
      | dT _ _ => cases e
      | dK _ _ => cases e
      | hid => cases e
/-- a list that stands in the heap is not too long -/
theorem items_len {X : Cx} {pins : List (Addr × Obj)} {σ : L2.St} {st : Shared} (I : Inv X pins σ H st) (hK : X.K = Z.K) (s : SR Z p H μ) {t : T} {v : V} {b : Bool} {ts : List T} (h : RT Z p v t) (e : items μ t = some (b, ts)) : ts.length ≤ sizeLine := by
  obtain ⟨a, vs, _, h1, h2⟩ := items_ok s h e
  rw [← h2.length]
  cases b
  · have h1 : SqT Z.K H a vs := h1
    rw [← hK] at h1
    obtain ⟨_, _, _, z⟩ := I.tuple h1
    exact z
  · have h1 : SqL Z.K H a vs := h1
    rw [← hK] at h1
    obtain ⟨_, _, _, z⟩ := I.list h1
    exact z

/-- the whole value, as it stands now -/
def deep : Nat → Mu → T → Option D
  | _, _, .v _ d => some d
  | 0, _, .m _ => none
  | n + 1, μ, .m j => match μ[j]? with
    | some (.lst ts) => match ts.mapM (deep n μ) with
      | some ds => some (.lst ds)
      | none => none
    | some (.tup ts) => match ts.mapM (deep n μ) with
      | some ds => some (.tup ds)
      | none => none
    | some (.dT ks ts) => match ts.mapM (deep n μ) with
      | some ds => some (.dT ks ds)
      | none => none
    | some (.frz _ d) => some d
    | _ => none
theorem deeps_of {G : Hp} {n : Nat} (ih : ∀ {t : T} {v : V} {d : D}, RT Z p v t → deep n μ t = some d → Dx Z.K Z.TB G v d) : ∀ {ts : List T} {vs : List V} {ds : List D}, RTs Z p vs ts → ts.mapM (deep n μ) = some ds → DxAll Z.K Z.TB G vs ds
  | [], _, _, h, e => by cases h; simp at e; subst e; exact .nil
  | t :: ts, _, ds, h, e => by
    cases h with
    | cons h1 h2 =>
      rw [List.mapM_cons] at e
      match hd : deep n μ t, hds : ts.mapM (deep n μ), e with
      | some d, some ds', e =>
        simp at e
        subst e
        exact .cons (ih h1 hd) (deeps_of ih h2 hds)
      | some d, none, e => simp at e
      | none, _, e => simp at e
/-- read in any heap that holds what is asked -/
theorem deep_in {G : Hp} (hF : Same p.F G) (hN : Same p.N p.F) (hC : ∀ (j : Nat) (a : Addr) (c : Cell), p.ms[j]? = some a → μ[j]? = some c → CellOk Z p G a c) :
    ∀ {n : Nat} {t : T} {v : V} {d : D}, RT Z p v t → deep n μ t = some d → Dx Z.K Z.TB G v d
  | _, .v f d, v, d', h, e => by
    have : d = d' := by unfold deep at e; exact Option.some.inj e
    subst this
    cases f
    · exact Dx.mono hF d h
    · exact Dx.mono (hN.trans hF) d h
  | 0, .m j, v, d, h, e => by unfold deep at e; cases e
  | n + 1, .m j, v, d, ⟨a, hj, hv⟩, e => by
    subst hv
    unfold deep at e
    cases hc : μ[j]? with
    | none => simp only [hc] at e; cases e
    | some c =>
      have q := hC j a c hj hc
      cases c with
      | lst ts =>
        obtain ⟨vs, h1, h2⟩ := q
        simp only [hc] at e
        cases hm : ts.mapM (deep n μ) with
        | none => rw [hm] at e; cases e
        | some ds =>
          rw [hm] at e
          cases e
          exact .lst h1 (deeps_of (fun h e => deep_in hF hN hC h e) h2 hm)
      | tup ts =>
        obtain ⟨vs, h1, h2⟩ := q
        simp only [hc] at e
        cases hm : ts.mapM (deep n μ) with
        | none => rw [hm] at e; cases e
        | some ds =>
          rw [hm] at e
          cases e
          exact .tup h1 (deeps_of (fun h e => deep_in hF hN hC h e) h2 hm)
      | dT ks ts =>
        obtain ⟨kvs, h1, h2, h3⟩ := q
        simp only [hc] at e
        cases hm : ts.mapM (deep n μ) with
        | none => rw [hm] at e; cases e
        | some ds =>
          rw [hm] at e
          cases e
          subst h2
          exact .dT h1 (deeps_of (fun h e => deep_in hF hN hC h e) h3 hm)
      | frz f d' =>
        simp only [hc] at e
        cases e
        have q : RT Z p (.ref a) (.v f d) := q
        cases f
        · exact Dx.mono hF d q
        · exact Dx.mono (hN.trans hF) d q
      | obj _ _ => simp only [hc] at e; cases e
      | hid => simp only [hc] at e; cases e
      | dK _ _ => simp only [hc] at e; cases e
theorem deep_ok (s : SR Z p H μ) {n : Nat} {t : T} {v : V} {d : D} (h : RT Z p v t) (e : deep n μ t = some d) : Dx Z.K Z.TB H v d :=
  deep_in s.sub s.nin s.cell h e
end
end L3

set_option Elab.async false
set_option linter.all false
set_option maxRecDepth 100000
set_option maxHeartbeats 4000000
/-! L3, fifth part: operators, by values. -/
namespace L3
open PySem PySem.Spec PyProof.Rows L2

abbrev Vt := Option (T × Mu)
def VPost (Z : Ent) (Q : VK) (p : Pt) (r : Vt) : Prop := match r with
  | some (t, μ) => ∀ (v : V) (H' : Hp) (q : Pt), p.Le q → SR Z q H' μ → RT Z q v t → Q v H'
  | none => False
def Vt.ot (r : Vt) : Ot T := match r with
  | some (t, μ) => some (.ok t μ)
  | none => none

/-- items that stand as a plain list or tuple -/
def itemsPV (f : Bool) : D → Option (Bool × List T)
  | .lst xs => some (true, xs.map (mkT f))
  | .tup xs => some (false, xs.map (mkT f))
  | _ => none
def itemsP (μ : Mu) : T → Option (Bool × List T)
  | .v f d => itemsPV f d
  | .m j => match μ[j]? with
    | some (.lst ts) => some (true, ts)
    | some (.tup ts) => some (false, ts)
    | some (.frz f d) => itemsPV f d
    | _ => none

/-- a new list: to change, or for good -/
def newL (live : Bool) (μ : Mu) (ts : List T) : Vt :=
  if live then some (.m μ.length, μ ++ [.lst ts]) else match pack ts with
    | some (f, ds) => some (.v f (.lst ds), μ)
    | none => none
def newU (μ : Mu) (ts : List T) : Vt := match pack ts with
  | some (f, ds) => some (.v f (.tup ds), μ)
  | none => none

section
variable {Z : Ent} {p q : Pt} {H : Hp} {μ : Mu}
theorem VPost.post {W : Wish} {σ : L2.St} {Q : VK} {r : Vt} (h : Post Z W σ Q p r.ot) : VPost Z Q p r := by
  match r, h with
  | some (t, μ), h => exact h
theorem itemsPV_ok (s : SR Z p H μ) {f : Bool} {d : D} {v : V} {b : Bool} {ts : List T} (h : RT Z p v (.v f d)) (e : itemsPV f d = some (b, ts)) :
    ∃ a vs, v = .ref a ∧ H a = some (if b then .lst vs else .tup vs) ∧ RTs Z p vs ts := by
  have up : Same (if f then p.N else p.F) H := by
    cases f
    · exact s.sub
    · exact s.nin.trans s.sub
  have h : Dx Z.K Z.TB (if f then p.N else p.F) v d := by
    cases f
    · exact h
    · exact h
  cases h with
  | lst hs ha =>
    cases e
    exact ⟨_, _, rfl, up _ _ hs, RTs.of_all ha⟩
  | tup hs ha =>
    cases e
    exact ⟨_, _, rfl, up _ _ hs, RTs.of_all ha⟩
  | non => cases e
  | bl => cases e
  | int => cases e
  | str => cases e
  | obj => cases e
  | dT => cases e
  | scr => cases e
theorem itemsP_ok (s : SR Z p H μ) {t : T} {v : V} {b : Bool} {ts : List T} (h : RT Z p v t) (e : itemsP μ t = some (b, ts)) :
    ∃ a vs, v = .ref a ∧ H a = some (if b then .lst vs else .tup vs) ∧ RTs Z p vs ts := by
  match t, h, e with
  | .v f d, h, e => exact itemsPV_ok s h e
  | .m j, ⟨a, hj, hv⟩, e =>
    subst hv
    simp only [itemsP] at e
    cases hc : μ[j]? with
    | none => rw [hc] at e; cases e
    | some c =>
      rw [hc] at e
      cases c with
      | lst ts' =>
        cases e
        obtain ⟨vs, h1, h2⟩ := s.cell j a _ hj hc
        exact ⟨a, vs, rfl, h1, h2⟩
      | tup ts' =>
        cases e
        obtain ⟨vs, h1, h2⟩ := s.cell j a _ hj hc
        exact ⟨a, vs, rfl, h1, h2⟩
      | frz f d => exact itemsPV_ok s (show RT Z p (.ref a) (.v f d) from s.cell j a _ hj hc) e
      | obj _ _ => cases e
      | dT _ _ => cases e
      | dK _ _ => cases e
      | hid => cases e
theorem itemsP_items {t : T} {b : Bool} {ts : List T} (e : itemsP μ t = some (b, ts)) : items μ t = some (b, ts) := by
  have hv : ∀ f d, itemsPV f d = some (b, ts) → itemsV f d = some (b, ts) := fun f d e => by
    cases d <;> first | exact e | cases e
  cases t with
  | v f d => exact hv f d e
  | m j =>
    simp only [itemsP] at e
    simp only [items]
    cases hc : μ[j]? with
    | none => rw [hc] at e; cases e
    | some c =>
      rw [hc] at e
      cases c with
      | lst ts' => exact e
      | tup ts' => exact e
      | frz f d => exact hv f d e
      | obj _ _ => cases e
      | dT _ _ => cases e
      | dK _ _ => cases e
      | hid => cases e

/-- a new object for good: the list, the tuple -/
theorem add_lst (s : SR Z p H μ) {vs : List V} {ts : List T} {f : Bool} {ds : List D} (hp : pack ts = some (f, ds)) (r : RTs Z p vs ts) {a : Addr} (n : H a = none) :
    RT Z (p.add f a (.lst vs)) (.ref a) (.v f (.lst ds)) := by
  obtain ⟨r1, r2⟩ := pack_ok s hp r
  have le : p.Le (p.add f a (.lst vs)) := s.add_le n
  cases f
  · exact Dx.lst (show upd p.F a _ a = _ from upd_same) (DxAll.mono le.f ds r2)
  · exact Dx.lst (show upd p.N a _ a = _ from upd_same) (DxAll.mono le.n ds (r1 rfl))
theorem add_tup (s : SR Z p H μ) {vs : List V} {ts : List T} {f : Bool} {ds : List D} (hp : pack ts = some (f, ds)) (r : RTs Z p vs ts) {a : Addr} (n : H a = none) :
    RT Z (p.add f a (.tup vs)) (.ref a) (.v f (.tup ds)) := by
  obtain ⟨r1, r2⟩ := pack_ok s hp r
  have le : p.Le (p.add f a (.tup vs)) := s.add_le n
  cases f
  · exact Dx.tup (show upd p.F a _ a = _ from upd_same) (DxAll.mono le.f ds r2)
  · exact Dx.tup (show upd p.N a _ a = _ from upd_same) (DxAll.mono le.n ds (r1 rfl))
theorem newL_ok (s : SR Z p H μ) {live : Bool} {vs : List V} {ts : List T} {Q : VK} (r : RTs Z p vs ts) (h : VPost Z Q p (newL live μ ts)) {a : Addr} (n : H a = none) : Q (.ref a) (upd H a (.lst vs)) := by
  unfold newL at h
  cases live
  · rw [if_neg Bool.false_ne_true] at h
    cases hp : pack ts with
    | none => rw [hp] at h; exact h.elim
    | some fd =>
      obtain ⟨f, ds⟩ := fd
      rw [hp] at h
      exact h _ _ _ (s.add_le n) (s.add n) (add_lst s hp r n)
  · rw [if_pos rfl] at h
    refine h _ _ _ Pt.push_le (s.push (c := .lst ts) n rfl ⟨vs, upd_same, r.mono Pt.push_le⟩) ⟨a, ?_, rfl⟩
    show (p.ms ++ [a])[μ.length]? = some a
    rw [← s.len]
    simp
theorem newU_ok (s : SR Z p H μ) {vs : List V} {ts : List T} {Q : VK} (r : RTs Z p vs ts) (h : VPost Z Q p (newU μ ts)) {a : Addr} (n : H a = none) : Q (.ref a) (upd H a (.tup vs)) := by
  unfold newU at h
  cases hp : pack ts with
  | none => rw [hp] at h; exact h.elim
  | some fd =>
    obtain ⟨f, ds⟩ := fd
    rw [hp] at h
    exact h _ _ _ (s.add_le n) (s.add n) (add_tup s hp r n)
theorem RT.int {f : Bool} {i : Int} {v : V} (h : RT Z p v (.v f (.int i))) : v = .int i := by
  cases f <;> (cases h; rfl)
theorem RT.str {f : Bool} {i : Str} {v : V} (h : RT Z p v (.v f (.str i))) : v = .str i := by
  cases f <;> (cases h; rfl)
theorem RT.bl {f : Bool} {i : Bool} {v : V} (h : RT Z p v (.v f (.bl i))) : v = .bl i := by
  cases f <;> (cases h; rfl)
theorem RT.non {f : Bool} {v : V} (h : RT Z p v (.v f .non)) : v = .non := by
  cases f <;> (cases h; rfl)
/-- a flat value comes, nothing changes -/
theorem VPost.flat {Q : VK} (s : SR Z p H μ) {d : D} {v : V} (hv : RT Z p v (.v true d)) (h : VPost Z Q p (some (.v true d, μ))) : Q v H := h v H p (Pt.Le.refl p) s hv
end

/-! ### ints -/
def bitsI (i : Int) : Nat := i.natAbs.log2
/-- what an operator makes of two ints; none: not said -/
def binI (op : Operator) (i j : Int) : Option Int := match op with
  | .Add => some (i + j)
  | .Sub => some (i - j)
  | .Mult => if bitsI i + bitsI j < 100000000 then some (i * j) else none
  | .FloorDiv => if 0 < j ∧ bitsI j < 9000 then some (i / j) else none
  | .Mod => if 0 < j then some (i % j) else none
  | .Pow => if 0 ≤ j ∧ (bitsI i + 1) * j.toNat ≤ 100000000 then some (i ^ j.toNat) else none
  | .LShift => if 0 ≤ j ∧ bitsI i + 1 + j.toNat ≤ 100000000 then some (i * 2 ^ j.toNat) else none
  | .RShift => if 0 ≤ j then some (i / 2 ^ j.toNat) else none
  | .BitAnd => some (Builtin.bitAnd i j)
  | .BitOr => some (Builtin.bitOr i j)
  | _ => none
theorem intBits_le (x : Int) : Builtin.Int.intBits x ≤ bitsI x + 1 := by
  unfold Builtin.Int.intBits bitsI
  split <;> omega
section
variable {X : Cx}
def rBinI (op : Operator) : R2 := fun x y H Q => ∃ i j k, x = .int i ∧ y = .int j ∧ binI op i j = some k ∧ Q (.int k) H
theorem op_binI (op : Operator) : OpR X (binaryOp op) (rBinI op) := by
  intro pins s σ H x y v u Q I rx ry h
  obtain ⟨i, j, k, rfl, rfl, hk, q⟩ := h
  cases op with
  | Add => cases hk; exact op_add pins s σ H _ _ v u Q I rx ry ⟨i, j, rfl, rfl, q⟩
  | Sub => cases hk; exact op_sub pins s σ H _ _ v u Q I rx ry ⟨i, j, rfl, rfl, q⟩
  | Mult =>
    simp only [binI] at hk
    split at hk
    · rename_i hc
      cases hk
      obtain ⟨t, rfl⟩ := rx
      obtain ⟨t', rfl⟩ := ry
      have ok : IntMulOk i j := by
        have h1 := intBits_le i
        have h2 := intBits_le j
        intro z
        rw [Bool.and_eq_true] at z
        have z2 := of_decide_eq_true z.2
        have e : bitsLine = 134217728 := by decide
        rw [e] at z2
        omega
      exact PyProof.Rows.mul_int ⟨.int _, H, I.tok _, ⟨_, rfl⟩, q⟩ ok
    · cases hk
  | FloorDiv =>
    simp only [binI] at hk
    split at hk
    · rename_i hc
      cases hk
      exact op_fdivW pins s σ H _ _ v u Q I rx ry ⟨i, j, rfl, rfl, hc, q⟩
    · cases hk
  | Mod =>
    simp only [binI] at hk
    split at hk
    · rename_i hc
      cases hk
      exact op_mod pins s σ H _ _ v u Q I rx ry ⟨i, j, rfl, rfl, hc, q⟩
    · cases hk
  | Pow =>
    simp only [binI] at hk
    split at hk
    · rename_i hc
      cases hk
      obtain ⟨t, rfl⟩ := rx
      obtain ⟨t', rfl⟩ := ry
      refine PyProof.Rows.pow_int hc.1 ?_ ⟨.int _, H, I.tok _, ⟨_, rfl⟩, q⟩
      have h1 := intBits_le i
      have h2 : Builtin.Int.intBits i * j.toNat ≤ 100000000 := Nat.le_trans (Nat.mul_le_mul_right _ h1) hc.2
      have h3 : ((Builtin.Int.intBits i * j.toNat : Nat) : Int) ≤ 2 ^ 27 := by omega
      rw [Int.natCast_mul, Int.toNat_of_nonneg hc.1] at h3
      exact h3
    · cases hk
  | LShift =>
    simp only [binI] at hk
    split at hk
    · rename_i hc
      cases hk
      obtain ⟨t, rfl⟩ := rx
      obtain ⟨t', rfl⟩ := ry
      refine PyProof.Rows.lshift_int hc.1 ?_ ⟨.int _, H, I.tok _, ⟨_, rfl⟩, q⟩
      have h1 := intBits_le i
      have h2 := hc.2
      have h3 := hc.1
      omega
    · cases hk
  | RShift =>
    simp only [binI] at hk
    split at hk
    · rename_i hc
      cases hk
      exact op_shr pins s σ H _ _ v u Q I rx ry ⟨i, j, rfl, rfl, hc, q⟩
    · cases hk
  | BitAnd => cases hk; exact op_and pins s σ H _ _ v u Q I rx ry ⟨i, j, rfl, rfl, q⟩
  | BitOr => cases hk; exact op_or pins s σ H _ _ v u Q I rx ry ⟨i, j, rfl, rfl, q⟩
  | _ => cases hk
end

/-! ### + of lists, of tuples, of texts; a list times an int -/
def binV (live : Bool) (op : Operator) (μ : Mu) (a b : T) : Vt := match a, b with
  | .v _ (.int i), .v _ (.int j) => match binI op i j with
    | some k => some (.v true (.int k), μ)
    | none => none
  | .v _ (.str x), .v _ (.str y) => match op with
    | .Add => if x.length + y.length ≤ sizeLine then some (.v true (.str (x ++ y)), μ) else none
    | _ => none
  | a, b => match op with
    | .Add => match itemsP μ a, itemsP μ b with
      | some (true, ts), some (true, us) => if ts.length + us.length ≤ sizeLine then newL live μ (ts ++ us) else none
      | some (false, ts), some (false, us) => if ts ≠ [] ∧ us ≠ [] ∧ ts.length + us.length ≤ sizeLine then newU μ (ts ++ us) else none
      | _, _ => none
    | .Mult => match itemsP μ a, b with
      | some (true, ts), .v _ (.int k) => if 0 ≤ k ∧ k < 2 ^ 63 ∧ ts.length * k.toNat ≤ sizeLine then newL live μ (List.replicate k.toNat ts).flatten else none
      | _, _ => none
    | _ => none
theorem RTs.rep {Z : Ent} {p : Pt} {vs : List V} {ts : List T} (h : RTs Z p vs ts) : ∀ n : Nat, RTs Z p (List.replicate n vs).flatten (List.replicate n ts).flatten
  | 0 => .nil
  | n + 1 => by
    rw [List.replicate_succ, List.replicate_succ, List.flatten_cons, List.flatten_cons]
    exact RTs.append h (RTs.rep h n)
theorem RTs.nil_iff {Z : Ent} {p : Pt} {vs : List V} {ts : List T} (h : RTs Z p vs ts) : vs = [] ↔ ts = [] := by
  cases h with
  | nil => simp
  | cons _ _ => simp

/-- how values are asked: at a state of the def -/
def rV2 (Z : Ent) (g : Mu → T → T → Vt) : R2 := fun x y H Q => ∃ (p : Pt) (μ : Mu) (tx ty : T), SR Z p H μ ∧ RT Z p x tx ∧ RT Z p y ty ∧ VPost Z Q p (g μ tx ty)
def rV1 (Z : Ent) (g : Mu → T → Vt) : V → Hp → VK → Prop := fun x H Q => ∃ (p : Pt) (μ : Mu) (tx : T), SR Z p H μ ∧ RT Z p x tx ∧ VPost Z Q p (g μ tx)
def rVs (Z : Ent) (g : Mu → List T → Vt) : List V → Hp → VK → Prop := fun xs H Q => ∃ (p : Pt) (μ : Mu) (ts : List T), SR Z p H μ ∧ RTs Z p xs ts ∧ VPost Z Q p (g μ ts)
section
variable {X : Cx} {Z : Ent}
theorem op_binV (hK : X.K = Z.K) (live : Bool) (op : Operator) : OpR X (binaryOp op) (rV2 Z (binV live op)) := by
  intro pins s σ H x y v u Q I rx ry h
  obtain ⟨p, μ, tx, ty, sr, hx, hy, h⟩ := h
  unfold binV at h
  split at h
  · rename_i _ i _ j
    cases hx.int
    cases hy.int
    split at h
    · rename_i k hk
      exact op_binI op pins s σ H _ _ v u Q I rx ry ⟨i, j, k, rfl, rfl, hk, VPost.flat sr (Dx.int k) h⟩
    · exact h.elim
  · rename_i _ a _ b
    cases hx.str
    cases hy.str
    split at h
    · split at h
      · rename_i hz
        exact op_add_str pins s σ H _ _ v u Q I rx ry ⟨_, _, rfl, rfl, hz, VPost.flat sr (Dx.str _) h⟩
      · exact h.elim
    · exact h.elim
  · split at h
    · split at h
      · rename_i ts us e1 e2
        split at h
        · rename_i hz
          obtain ⟨a, vs, rfl, h1, r1⟩ := itemsP_ok sr hx e1
          obtain ⟨b, ws, rfl, h2, r2⟩ := itemsP_ok sr hy e2
          exact op_cat pins s σ H _ _ v u Q I rx ry ⟨a, b, vs, ws, rfl, rfl, h1, h2, by rw [r1.length, r2.length]; exact hz, fun q n => newL_ok sr (r1.append r2) h n⟩
        · exact h.elim
      · rename_i ts us e1 e2
        split at h
        · rename_i hz
          obtain ⟨n1, n2, hz⟩ := hz
          obtain ⟨a, vs, rfl, h1, r1⟩ := itemsP_ok sr hx e1
          obtain ⟨b, ws, rfl, h2, r2⟩ := itemsP_ok sr hy e2
          refine op_catT pins s σ H _ _ v u Q I rx ry ⟨a, b, vs, ws, rfl, rfl, SqT.of h1, SqT.of h2, fun z => n1 (r1.nil_iff.mp z), by rw [r1.length, r2.length]; exact hz, fun z => absurd (r2.nil_iff.mp z) n2, fun _ q n => newU_ok sr (r1.append r2) h n⟩
        · exact h.elim
      · exact h.elim
    · split at h
      · rename_i ts _ k e1 _ _
        split at h
        · rename_i hz
          obtain ⟨h0, h1, hz⟩ := hz
          obtain ⟨a, vs, rfl, ha, r1⟩ := itemsP_ok sr hx e1
          cases hy.int
          refine op_rep pins s σ H _ _ v u Q I rx ry ⟨a, k, vs, rfl, rfl, ha, by omega, h1, by rw [r1.length]; exact hz, fun q n => newL_ok sr (r1.rep _) h n⟩
        · exact h.elim
      · exact h.elim
    · exact h.elim
end
end L3

set_option Elab.async false
set_option linter.all false
set_option maxRecDepth 100000
set_option maxHeartbeats 4000000
/-! L3, sixth part: comparisons, truth, places, slices, lengths. -/
namespace L3
open PySem PySem.Spec PyProof.Rows L2

/-- == of data -/
def eqD (a b : D) : Option Bool := match a.py, b.py with
  | some x, some y => if SeqAt.shaped x && SeqAt.shaped y then some (PyData.eqv x y) else none
  | _, _ => none
/-- how deep a list of lists that still changes is read -/
def DEEP : Nat := 6
def eqT (μ : Mu) (a b : T) : Option Bool := match a, b with
  | .v _ (.int i), .v _ (.int j) => some (decide (i = j))
  | .v _ (.str i), .v _ (.str j) => some (decide (i = j))
  | .v _ (.bl i), .v _ (.bl j) => some (decide (i = j))
  | a, b => match deep DEEP μ a, deep DEEP μ b with
    | some x, some y => eqD x y
    | _, _ => none
/-- membership -/
def inT (μ : Mu) (a b : T) : Option Bool := match a, b with
  | .v _ (.str x), .v _ (.str y) => some (!(Builtin.Str.occurrences y x 0 y.length 1).isEmpty)
  | a, b => match deep DEEP μ a, deep DEEP μ b with
    | some x, some (.lst ys) => match x.py, D.pys ys with
      | some d, some ds => if SeqAt.shaped d && SeqAt.shaped (.list ds) then some (ds.any fun z => PyData.eqv z d) else none
      | _, _ => none
    | _, _ => none
def cmpV (op : CmpOp) (μ : Mu) (a b : T) : Option Bool := match op with
  | .Eq => eqT μ a b
  | .NotEq => (eqT μ a b).map (!·)
  | .Lt => match a, b with
    | .v _ (.int i), .v _ (.int j) => some (decide (i < j))
    | _, _ => none
  | .LtE => match a, b with
    | .v _ (.int i), .v _ (.int j) => some (decide (i ≤ j))
    | _, _ => none
  | .Gt => match a, b with
    | .v _ (.int i), .v _ (.int j) => some (decide (j < i))
    | _, _ => none
  | .GtE => match a, b with
    | .v _ (.int i), .v _ (.int j) => some (decide (j ≤ i))
    | _, _ => none
  | .Is => match b with
    | .v _ .non => match a with
      | .v _ .non => some true
      | _ => some false
    | _ => none
  | .IsNot => match b with
    | .v _ .non => match a with
      | .v _ .non => some false
      | _ => some true
    | _ => none
  | .In => inT μ a b
  | .NotIn => (inT μ a b).map (!·)
def cmpVt (op : CmpOp) (μ : Mu) (a b : T) : Vt := match cmpV op μ a b with
  | some k => some (.v true (.bl k), μ)
  | none => none

section
variable {X : Cx} {Z : Ent}
theorem RT.non_iff {p : Pt} {v : V} : ∀ {t : T}, RT Z p v t → (decide (v = .non) = match t with | .v _ .non => true | _ => false)
  | .v f .non, h => by cases f <;> (cases h; rfl)
  | .v f (.bl _), h => by cases f <;> (cases h; rfl)
  | .v f (.int _), h => by cases f <;> (cases h; rfl)
  | .v f (.str _), h => by cases f <;> (cases h; rfl)
  | .v f (.lst _), h => by cases f <;> (cases h; rfl)
  | .v f (.tup _), h => by cases f <;> (cases h; rfl)
  | .v f (.obj _ _), h => by cases f <;> (cases h; rfl)
  | .v f (.dT _ _), h => by cases f <;> (cases h; rfl)
  | .v f (.scr _), h => by cases f <;> (cases h; rfl)
  | .m _, ⟨a, _, h⟩ => by subst h; rfl
/-- the answer of ==, of != -/
theorem eq_pair (hK : X.K = Z.K) (hu : X.A.units + 64 < cLine) {pins : List (Addr × Obj)} {s : Shared} {σ : L2.St} {H : Hp} {x y : V} {v u : Value} {p : Pt} {μ : Mu} {tx ty : T} {k : Bool}
    (I : Inv X pins σ H s) (rx : RelV x v) (ry : RelV y u) (sr : SR Z p H μ) (hx : RT Z p x tx) (hy : RT Z p y ty) (e : eqT μ tx ty = some k) :
    (∀ Q : VK, Q (.bl k) H → wpAny (model X.prog X.w) X.A (compareOp .Eq v u) (EP X pins σ Q) X.xe s) ∧ (∀ Q : VK, Q (.bl (!k)) H → wpAny (model X.prog X.w) X.A (compareOp .NotEq v u) (EP X pins σ Q) X.xe s) := by
  unfold eqT at e
  split at e
  · rename_i _ i _ j
    cases hx.int
    cases hy.int
    have e : decide (i = j) = k := Option.some.inj e
    have e2 : decide (V.int i = V.int j) = k := by rw [← e, Bool.eq_iff_iff]; simp
    exact ⟨fun Q q => op_eq pins s σ H _ _ v u Q I rx ry ⟨rfl, by rw [e2]; exact q⟩, fun Q q => op_ne pins s σ H _ _ v u Q I rx ry ⟨rfl, by rw [e2]; exact q⟩⟩
  · rename_i _ i _ j
    cases hx.str
    cases hy.str
    have e : decide (i = j) = k := Option.some.inj e
    have e2 : decide (V.str i = V.str j) = k := by rw [← e, Bool.eq_iff_iff]; simp
    exact ⟨fun Q q => op_eq pins s σ H _ _ v u Q I rx ry ⟨rfl, by rw [e2]; exact q⟩, fun Q q => op_ne pins s σ H _ _ v u Q I rx ry ⟨rfl, by rw [e2]; exact q⟩⟩
  · rename_i _ i _ j
    cases hx.bl
    cases hy.bl
    have e : decide (i = j) = k := Option.some.inj e
    have e2 : decide (V.bl i = V.bl j) = k := by rw [← e, Bool.eq_iff_iff]; simp
    exact ⟨fun Q q => op_eq pins s σ H _ _ v u Q I rx ry ⟨rfl, by rw [e2]; exact q⟩, fun Q q => op_ne pins s σ H _ _ v u Q I rx ry ⟨rfl, by rw [e2]; exact q⟩⟩
  · split at e
    · rename_i dx dy h1 h2
      have d1 := deep_ok sr hx h1
      have d2 := deep_ok sr hy h2
      unfold eqD at e
      split at e
      · rename_i ex ey p1 p2
        split at e
        · rename_i hs
          rw [Bool.and_eq_true_iff] at hs
          have e : PyData.eqv ex ey = k := Option.some.inj e
          have q1 := Dx.py dx d1 p1
          have q2 := Dx.py dy d2 p2
          rw [← hK] at q1 q2
          exact ⟨fun Q q => op_eqD hu pins s σ H _ _ v u Q I rx ry ⟨ex, ey, q1, q2, hs.1, hs.2, by rw [e]; exact q⟩,
            fun Q q => op_neD hu pins s σ H _ _ v u Q I rx ry ⟨ex, ey, q1, q2, hs.1, hs.2, by rw [e]; exact q⟩⟩
        · cases e
      · cases e
    · cases e
theorem in_pair (hK : X.K = Z.K) (hu : X.A.units + 65 < cLine) {pins : List (Addr × Obj)} {s : Shared} {σ : L2.St} {H : Hp} {x y : V} {v u : Value} {p : Pt} {μ : Mu} {tx ty : T} {k : Bool}
    (I : Inv X pins σ H s) (rx : RelV x v) (ry : RelV y u) (sr : SR Z p H μ) (hx : RT Z p x tx) (hy : RT Z p y ty) (e : inT μ tx ty = some k) :
    (∀ Q : VK, Q (.bl k) H → wpAny (model X.prog X.w) X.A (compareOp .In v u) (EP X pins σ Q) X.xe s) ∧ (∀ Q : VK, Q (.bl (!k)) H → wpAny (model X.prog X.w) X.A (compareOp .NotIn v u) (EP X pins σ Q) X.xe s) := by
  unfold inT at e
  split at e
  · rename_i _ i _ j
    cases hx.str
    cases hy.str
    have e := Option.some.inj e
    exact ⟨fun Q q => op_in_str pins s σ H _ _ v u Q I rx ry ⟨i, j, rfl, rfl, by rw [e]; exact q⟩, fun Q q => L2.op_notin_str pins s σ H _ _ v u Q I rx ry ⟨i, j, rfl, rfl, by rw [e]; exact q⟩⟩
  · split at e
    · rename_i dx dys h1 h2
      have d1 := deep_ok sr hx h1
      have d2 := deep_ok sr hy h2
      split at e
      · rename_i ex es p1 p2
        split at e
        · rename_i hs
          rw [Bool.and_eq_true_iff] at hs
          have e := Option.some.inj e
          have q1 := Dx.py dx d1 p1
          have p2' : D.py (.lst dys) = some (.list es) := by unfold D.py; rw [p2]
          have q2 := Dx.py _ d2 p2'
          rw [← hK] at q1 q2
          exact ⟨fun Q q => op_inD hu pins s σ H _ _ v u Q I rx ry ⟨ex, es, q1, q2, hs.1, hs.2, by rw [e]; exact q⟩,
            fun Q q => op_notInD hu pins s σ H _ _ v u Q I rx ry ⟨ex, es, q1, q2, hs.1, hs.2, by rw [e]; exact q⟩⟩
        · cases e
      · cases e
    · cases e
theorem op_cmpV (hK : X.K = Z.K) (hu : X.A.units + 65 < cLine) (op : CmpOp) : OpR X (compareOp op) (rV2 Z (cmpVt op)) := by
  intro pins s σ H x y v u Q I rx ry h
  obtain ⟨p, μ, tx, ty, sr, hx, hy, h⟩ := h
  unfold cmpVt at h
  split at h
  · rename_i k hk
    have q : Q (.bl k) H := VPost.flat sr (Dx.bl k) h
    cases op with
    | Eq => exact (eq_pair hK (by omega) I rx ry sr hx hy hk).1 Q q
    | NotEq =>
      have hk : (eqT μ tx ty).map (!·) = some k := hk
      cases e : eqT μ tx ty with
      | none => rw [e] at hk; cases hk
      | some k' =>
        rw [e] at hk
        have : (!k') = k := Option.some.inj hk
        exact (eq_pair hK (by omega) I rx ry sr hx hy e).2 Q (by rw [this]; exact q)
    | Lt =>
      simp only [cmpV] at hk
      split at hk
      · rename_i _ i _ j
        cases hx.int
        cases hy.int
        cases hk
        exact op_lt pins s σ H _ _ v u Q I rx ry ⟨i, j, rfl, rfl, q⟩
      · cases hk
    | LtE =>
      simp only [cmpV] at hk
      split at hk
      · rename_i _ i _ j
        cases hx.int
        cases hy.int
        cases hk
        exact op_le pins s σ H _ _ v u Q I rx ry ⟨i, j, rfl, rfl, q⟩
      · cases hk
    | Gt =>
      simp only [cmpV] at hk
      split at hk
      · rename_i _ i _ j
        cases hx.int
        cases hy.int
        cases hk
        exact op_gt pins s σ H _ _ v u Q I rx ry ⟨i, j, rfl, rfl, q⟩
      · cases hk
    | GtE =>
      simp only [cmpV] at hk
      split at hk
      · rename_i _ i _ j
        cases hx.int
        cases hy.int
        cases hk
        exact op_ge pins s σ H _ _ v u Q I rx ry ⟨i, j, rfl, rfl, q⟩
      · cases hk
    | Is =>
      simp only [cmpV] at hk
      split at hk
      · cases hy.non
        have e := hx.non_iff
        split at hk
        · cases hk
          exact op_isN pins s σ H _ _ v u Q I rx ry ⟨rfl, by rw [e]; exact q⟩
        · rename_i hne
          cases hk
          refine op_isN pins s σ H _ _ v u Q I rx ry ⟨rfl, ?_⟩
          rw [e]
          split
          · rename_i _ f
            exact (hne f rfl).elim
          · exact q
      · cases hk
    | IsNot =>
      simp only [cmpV] at hk
      split at hk
      · cases hy.non
        have e := hx.non_iff
        split at hk
        · cases hk
          exact op_notN pins s σ H _ _ v u Q I rx ry ⟨rfl, by rw [e]; exact q⟩
        · rename_i hne
          cases hk
          refine op_notN pins s σ H _ _ v u Q I rx ry ⟨rfl, ?_⟩
          rw [e]
          split
          · rename_i _ f
            exact (hne f rfl).elim
          · exact q
      · cases hk
    | In => exact (in_pair hK hu I rx ry sr hx hy hk).1 Q q
    | NotIn =>
      have hk : (inT μ tx ty).map (!·) = some k := hk
      cases e : inT μ tx ty with
      | none => rw [e] at hk; cases hk
      | some k' =>
        rw [e] at hk
        have : (!k') = k := Option.some.inj hk
        exact (in_pair hK hu I rx ry sr hx hy e).2 Q (by rw [this]; exact q)
  · exact h.elim

/-! ### truth -/
def truT (μ : Mu) : T → Option Bool
  | .v _ .non => some false
  | .v _ (.bl b) => some b
  | .v _ (.int i) => some (i != 0)
  | t => match items μ t with
    | some (_, ts) => some (!ts.isEmpty)
    | none => none
theorem isEmpty_rts {p : Pt} {vs : List V} {ts : List T} (h : RTs Z p vs ts) : vs.isEmpty = ts.isEmpty := by
  cases h <;> rfl
theorem truT_ok {H : Hp} {x : V} {p : Pt} {μ : Mu} {t : T} {k : Bool} (hK : X.K = Z.K) (sr : SR Z p H μ) (hx : RT Z p x t) (e : truT μ t = some k) : TruV X.K x H k := by
  unfold truT at e
  split at e
  · cases hx.non; cases e; rfl
  · cases hx.bl; cases e; rfl
  · cases hx.int; cases e; rfl
  · split at e
    · rename_i b ts hi
      cases e
      obtain ⟨a, vs, rfl, h1, h2⟩ := items_ok sr hx hi
      rw [hK]
      cases b
      · exact .inr (.inl ⟨vs, h1, by rw [isEmpty_rts h2]⟩)
      · exact .inl ⟨vs, h1, by rw [isEmpty_rts h2]⟩
    · cases e

/-! ### places -/
theorem atI_rts {p : Pt} {vs : List V} {ts : List T} {i : Int} {t : T} (h : RTs Z p vs ts) (e : atI ts i = some t) : ∃ v, atI vs i = some v ∧ RT Z p v t := by
  unfold atI at e ⊢
  rw [h.length]
  cases hj : ixN ts.length i with
  | none => rw [hj] at e; cases e
  | some j =>
    rw [hj] at e
    have e : ts[j]? = some t := e
    obtain ⟨v, h1, h2⟩ := h.get e
    exact ⟨v, h1, h2⟩
def ixV (μ : Mu) (a b : T) : Vt := match b with
  | .v _ (.int i) => match a with
    | .v _ (.str z) => if z.length ≤ sizeLine then (match atI z.cps.toList i with | some c => some (.v true (.str ⟨#[c]⟩), μ) | none => none) else none
    | a => match items μ a with
      | some (_, ts) => match atI ts i with
        | some t => some (t, μ)
        | none => none
      | none => none
  | _ => none
theorem ix_V (hK : X.K = Z.K) : IxR X (rV2 Z ixV) := by
  intro value slice pins s σ H x y v u Q I rx ry h hs
  obtain ⟨p, μ, tx, ty, sr, hx, hy, h⟩ := h
  unfold ixV at h
  split at h
  · rename_i _ i
    cases hy.int
    split at h
    · rename_i _ z
      cases hx.str
      split at h
      · rename_i hz
        split at h
        · rename_i c hc
          exact ix_str value slice pins s σ H _ _ v u Q I rx ry ⟨z, i, c, rfl, rfl, hz, hc, VPost.flat sr (Dx.str _) h⟩ hs
        · exact h.elim
      · exact h.elim
    · split at h
      · rename_i b ts hi
        split at h
        · rename_i t ht
          obtain ⟨a, vs, rfl, h1, h2⟩ := items_ok sr hx hi
          obtain ⟨w', h3, h4⟩ := atI_rts h2 ht
          have q : Q w' H := h w' H p (Pt.Le.refl p) sr h4
          cases b
          · exact ix_tup value slice pins s σ H _ _ v u Q I rx ry ⟨a, vs, i, w', rfl, rfl, by rw [hK]; exact h1, h3, q⟩ hs
          · exact ix_list value slice pins s σ H _ _ v u Q I rx ry ⟨a, vs, i, w', rfl, rfl, by rw [hK]; exact h1, h3, q⟩ hs
        · exact h.elim
      · exact h.elim
  · exact h.elim

/-! ### slices -/
def cutT (ts : List T) (lo hi : Option Int) : List T := (ts.drop (HT.sIx ts.length 0 lo)).take (HT.sIx ts.length ts.length hi - HT.sIx ts.length 0 lo)
theorem RTs.drop {p : Pt} : ∀ {vs : List V} {ts : List T} (n : Nat), RTs Z p vs ts → RTs Z p (vs.drop n) (ts.drop n)
  | _, _, 0, h => h
  | _, _, _ + 1, .nil => .nil
  | _, _, n + 1, .cons _ h => RTs.drop n h
theorem RTs.take {p : Pt} : ∀ {vs : List V} {ts : List T} (n : Nat), RTs Z p vs ts → RTs Z p (vs.take n) (ts.take n)
  | _, _, 0, _ => .nil
  | _, _, _ + 1, .nil => .nil
  | _, _, n + 1, .cons h g => .cons h (RTs.take n g)
theorem RTs.cut {p : Pt} {vs : List V} {ts : List T} (h : RTs Z p vs ts) (lo hi : Option Int) : RTs Z p (cutV vs lo hi) (cutT ts lo hi) := by
  unfold cutV cutT
  rw [h.length]
  exact (h.drop _).take _
def slV (live : Bool) (μ : Mu) (a : T) (lo hi : Option Int) : Vt := match a with
  | .v _ (.str z) => if z.length ≤ sizeLine then some (.v true (.str (cutS z lo hi)), μ) else none
  | a => match items μ a with
    | some (true, ts) => newL live μ (cutT ts lo hi)
    | _ => none
def rSlV (Z : Ent) (live : Bool) : V → Option Int → Option Int → Hp → VK → Prop := fun x lo hi H Q => ∃ (p : Pt) (μ : Mu) (tx : T), SR Z p H μ ∧ RT Z p x tx ∧ VPost Z Q p (slV live μ tx lo hi)
theorem sl_V (hK : X.K = Z.K) (live : Bool) : SlR X (rSlV Z live) := by
  intro pins s σ H x v vl vu lo hi sl Q I rx hs pl pu h
  obtain ⟨p, μ, tx, sr, hx, h⟩ := h
  unfold slV at h
  split at h
  · rename_i _ z
    cases hx.str
    split at h
    · rename_i hz
      exact sl_str pins s σ H _ v vl vu lo hi sl Q I rx hs pl pu ⟨z, rfl, hz, VPost.flat sr (Dx.str _) h⟩
    · exact h.elim
  · split at h
    · rename_i ts hi'
      obtain ⟨a, vs, rfl, h1, h2⟩ := items_ok sr hx hi'
      exact sl_list pins s σ H _ v vl vu lo hi sl Q I rx hs pl pu ⟨a, vs, rfl, by rw [hK]; exact h1, fun q n => newL_ok sr (h2.cut lo hi) h n⟩
    · exact h.elim
end
end L3

set_option Elab.async false
set_option linter.all false
set_option maxRecDepth 100000
set_option maxHeartbeats 4000000
/-! L3, seventh part: what a def promises, how it is called, what its body owes. -/
namespace L3
open PySem PySem.Spec PyProof.Rows L2

/-- the promise of a def, where no repr runs around it -/
structure FnG (P : Program) (w : World) (K : PySem.W.Frag) (mg : Str → Option Value) (base : Heap) (k : Nat) (f : Addr) (fd : FuncData) (ps : List Str) (sp : Sp) : Prop where
  len : ∀ vs H Q E, sp vs H Q E → vs.length = ps.length
  run : ∀ (A : Around) (outer : List Env) (s : Shared) (H : Hp) (args : Args) (us : List Value) (vs : List V) (Q : VK) (E : XK),
    Room k A → A.guards = some [] → Env0 P w K mg base A outer s H → BindsTo s fd args (ps.zip us) → Vals vs us → sp vs H Q E →
      codeAny (model P w) A (.call (.ref f) args) (CR (L2.CX P w) outer P w H s Q E) s

theorem FnG.mono {P : Program} {w : World} {K : PySem.W.Frag} {mg : Str → Option Value} {base : Heap} {j k : Nat} {f : Addr} {fd : FuncData} {ps : List Str} {sp : Sp}
    (F : FnG P w K mg base j f fd ps sp) (h : j ≤ k) : FnG P w K mg base k f fd ps sp :=
  ⟨F.len, fun A outer s H args us vs Q E hr => F.run A outer s H args us vs Q E (hr.mono h)⟩

/-- a def of the text keeps its promise: by its body's reading -/
theorem fnG_of {P : Program} {w : World} {K : PySem.W.Frag} {mg : Str → Option Value} {base : Heap} {k : Nat} {x qual : Str} {st : Stmt} {f : Addr} {fd : FuncData} {N ps : List Str} {sp : Sp}
    (F : Fun K x qual st f fd) (S : FnScope N ps (defScope st)) (hlen : ∀ vs H Q E, sp vs H Q E → vs.length = ps.length)
    (hbody : ∀ (cdv : Value) (A : Around) (outer : List Env) (s : Shared) (H : Hp) (vs : List V) (Q : VK) (E : XK),
      Room k (A.deeper (envOfC qual (defScope st) s.heap.objs.size f cdv)) → A.guards = some [] → sp vs H Q E →
        ∃ t, PSs (cxOf (L2.CX P w) P w K mg base N qual (defScope st) f cdv A outer s H E) (defBody st) t ∧ t { nx := fun _ H' => Q .non H', rt := Q } (start N vs) H) :
    FnG P w K mg base (k + 1) f fd ps sp := by
  obtain ⟨oc, od, kV, doc, pm, an, cdv, ct, osl, rfl, lk, hcd⟩ := F.ex
  constructor
  · exact hlen
  intro A outer s H args us vs Q E hr hgd e0 hb r hsp
  have hl := hlen _ _ _ _ hsp
  have KX : K.In s.heap := e0.mod.kin.keeps fun b o e => (e0.bs b o e).1
  have lim : s.heap.NoLimit := e0.mod.nolimit.keeps fun b o e => (e0.bs b o e).1
  have hkind : ∀ y ∈ ps.zip us, (defScope st).names.lookup y.1 = some .local ∨
      ((defScope st).names.lookup y.1 = some .cell ∧ ((cellsFrom (s.heap.objs.size + 1) (defScope st).names []).lookup y.1).isSome = true) := by
    intro y hy
    cases S.par y.1 (List.of_mem_zip (show (y.1, y.2) ∈ ps.zip us from hy)).1 with
    | inl q => exact Or.inl q
    | inr q => exact Or.inr ⟨q, PySem.W.cellsFrom_some _ _ _ (Or.inl q)⟩
  apply codeAny_call_function hr.depth (KX _ _ lk) rfl S.co S.gen rfl (PySem.W.codeRec_of KX hcd)
  apply hb
  refine wpAny_newFunctionEnv_cells S.kind hkind ?_
  intro env he s1 x
  subst he
  refine And.intro (lim.keeps x.toInCall.keep) (codeAny_func ?_)
  obtain ⟨t, ht, hq⟩ := hbody cdv A outer s H vs Q E (hr.deeper _) hgd hsp
  have I : Inv (cxOf (L2.CX P w) P w K mg base N qual (defScope st) f cdv A outer s H E) [] (start N vs) H s1 := inv_start S hr.hd e0 hl r x
  have hrun := ht.run [] s1 (start N vs) H _ I hq
  refine wpAny_mono hrun ?_ (fun _ _ z => z)
  intro fl s' hs
  cases fl with
  | ret u =>
    obtain ⟨v, σ', H', J, rv, q⟩ := hs
    exact ⟨v, H', J.os, J.bare, J.base, J.hok, rv, q⟩
  | next =>
    obtain ⟨σ', H', J, q⟩ := hs
    exact ⟨V.non, H', J.os, J.bare, J.base, J.hok, (rfl : Value.none = Value.none), q⟩
  | brk => obtain ⟨_, _, _, q⟩ := hs; exact q.elim
  | cont => obtain ⟨_, _, _, q⟩ := hs; exact q.elim

section
variable {X : Cx} {k : Nat} {f C : Addr} {fd : FuncData} {ps : List Str} {sp : Sp} {E : XK}
/-- the callee runs: its arguments bound -/
theorem runG {pins : List (Addr × Obj)} {σ : L2.St} {H : Hp} {s : Shared} {Q : VK} {us us' : List Value} {kw : List (Str × Value)} {vs : List V}
    (F : FnG X.prog X.w X.K X.mg X.base k f fd ps sp) (hr : Room k X.A) (hgd : X.A.guards = some []) (hb : BindsTo s fd ⟨us', kw⟩ (ps.zip us))
    (hx : PassesAt (L2.CX X.prog X.w) X σ E) (I : Inv X pins σ H s) (r : Vals vs us) (h : sp vs H Q E) :
    wpAny (model X.prog X.w) X.A (PySem.call (.ref f) us' kw) (EP X pins σ Q) X.xe s := by
  have hrun := F.run X.A X.stack s H ⟨us', kw⟩ us vs Q E hr hgd I.env0 hb r h
  refine wpAny_call (codeAny_mono hrun ?_)
  intro res s' hq
  match res, hq with
  | .error e, hq => exact hx pins H s e s' I hq
  | .ok (.ret u), hq => exact I.after hq
  | .ok .next, hq => exact False.elim hq
  | .ok .brk, hq => exact False.elim hq
  | .ok .cont, hq => exact False.elim hq
/-- an instance is made and its __init__ runs -/
theorem runMk {pins : List (Addr × Obj)} {σ : L2.St} {H : Hp} {s : Shared} {Q : VK} {us : List Value} {vs : List V} (M : Mk X.K C f)
    (F : FnG X.prog X.w X.K X.mg X.base k f fd ps sp) (hr : Room (k + 1) X.A) (hgd : X.A.guards = some []) (hb : Binds X.K fd ps [])
    (hx : PassesAt (L2.CX X.prog X.w) X σ E)
    (I : Inv X pins σ H s) (r : Vals vs us)
    (h : ∀ x dx, H x = none → H dx = none → dx ≠ x → sp (.ref x :: vs) (upd (upd H dx (.own x)) x (.ins C dx [])) (fun v H2 => v = .non ∧ Q (.ref x) H2) E) :
    wpAny (model X.prog X.w) X.A (PySem.call (.ref C) us) (EP X pins σ Q) X.xe s := by
  have hq := h (s.heap.objs.size + 1) s.heap.objs.size (I.hok.fresh (Nat.le_succ _)) (I.hok.fresh (Nat.le_refl _)) (Nat.ne_of_lt (Nat.lt_succ_self _))
  have I2 := Inv.made (C := C) I
  have r2 : Vals (V.ref (s.heap.objs.size + 1) :: vs) (Value.ref (s.heap.objs.size + 1) :: us) := Paired.cons rfl r
  have hl : (Value.ref (s.heap.objs.size + 1) :: us ++ []).length = ps.length := by
    have e := r2.length
    rw [F.len _ _ _ _ hq] at e
    rw [List.append_nil]
    exact e.symm
  have hbd := hb _ (Value.ref (s.heap.objs.size + 1) :: us) I2.kIn hl
  rw [List.append_nil] at hbd
  have hgm : (X.A.under (.builtin "type.__call__" ⟨.ref C :: us, []⟩)).guards = some [] := by
    first
      | exact hgd
      | simp [Around.under, Code.guards, Code.isGuard, guardIds, pushGuards, hgd]
  have hrun := F.run _ X.stack _ _ ⟨Value.ref (s.heap.objs.size + 1) :: us, []⟩ (Value.ref (s.heap.objs.size + 1) :: us) _ _ E (hr.make C us []) hgm (I2.env0.make C us []) hbd r2 hq
  refine wpAny_call (make_map (f := f) I.kIn M.makes M.init (beq_iff_eq.mp M.fn) (codeAny_mono hrun ?_))
  intro res s' hq'
  match res, hq' with
  | .error e, hq' => exact hx pins _ _ e s' I2 hq'
  | .ok (.ret u), hq' =>
    obtain ⟨v, H', I3, rv, ev, q3⟩ := I2.after hq'
    subst ev
    exact ⟨rv, V.ref (s.heap.objs.size + 1), H', I3, rfl, q3⟩
  | .ok .next, hq' => exact False.elim hq'
  | .ok .brk, hq' => exact False.elim hq'
  | .ok .cont, hq' => exact False.elim hq'
end
end L3

set_option Elab.async false
set_option linter.all false
set_option maxRecDepth 100000
set_option maxHeartbeats 4000000
/-! L3, eighth part: a call: what is handed in, what comes back. -/
namespace L3
open PySem PySem.Spec PyProof.Rows L2

abbrev noHp : Hp := fun _ => none
/-- a def that does g: its promise -/
def spD (K : PySem.W.Frag) (TB : Tab) (g : List T → Mu → Ot T) (n : Nat) : Sp := fun vs H Q E => vs.length = n ∧ ∃ (F : Hp) (ms : List Addr) (μ : Mu) (ts : List T),
  SR ⟨K, TB, H, F, ms⟩ ⟨F, noHp, ms⟩ H μ ∧ RTs ⟨K, TB, H, F, ms⟩ ⟨F, noHp, ms⟩ vs ts ∧ Post ⟨K, TB, H, F, ms⟩ (fun c d _ H' => E c d H') [] Q ⟨F, noHp, ms⟩ (g ts μ)

/-- names of the callee's cells in the caller -/
def ren (js : List Nat) (b : Nat) : T → T
  | .v f d => .v f d
  | .m i => match js[i]? with
    | some j => .m j
    | none => .m (b + (i - js.length))
def renC (js : List Nat) (b : Nat) : Cell → Cell
  | .lst ts => .lst (ts.map (ren js b))
  | .tup ts => .tup (ts.map (ren js b))
  | .obj c ts => .obj c (ts.map (ren js b))
  | .dT ks ts => .dT ks (ts.map (ren js b))
  | .dK ks ts => .dK ks (ts.map (ren js b))
  | .frz f d => .frz f d
  | .hid => .hid
def setAll (μ : Mu) : List Nat → Mu → Mu
  | [], _ => μ
  | _ :: _, [] => μ
  | j :: js, c :: cs => setAll (μ.set j c) js cs
/-- a cell whose content speaks of nothing else -/
def T.flat : T → Bool
  | .v _ d => d.atom
  | .m _ => false
def Cell.flat : Cell → Bool
  | .lst ts => ts.all T.flat
  | .obj _ ts => ts.all T.flat
  | _ => false
/-- the cells that are handed in by reference -/
def refsOf : List Bool → List T → List Nat
  | true :: rf, .m j :: ts => j :: refsOf rf ts
  | false :: rf, _ :: ts => refsOf rf ts
  | _, _ => []
def cellsAt (μ : Mu) : List Nat → Option Mu
  | [] => some []
  | j :: js => match μ[j]?, cellsAt μ js with
    | some c, some cs => if c.flat then some (c :: cs) else none
    | _, _ => none
/-- the arguments, as the callee has them; rf: by reference; i: how many cells so far; live: the caller's cells are only read -/
def argsIn (μ : Mu) (live : Bool) : List Bool → List T → Nat → Option (List T)
  | true :: rf, .m j :: ts, i => match argsIn μ live rf ts (i + 1) with
    | some us => some (.m i :: us)
    | none => none
  | false :: rf, .v _ d :: ts, i => match argsIn μ live rf ts i with
    | some us => some (mkT false d :: us)
    | none => none
  | false :: rf, .m j :: ts, i => if live then match deep DEEP μ (.m j), argsIn μ live rf ts i with
    | some d, some us => some (mkT false d :: us)
    | _, _ => none
    else none
  | [], [], _ => some []
  | _, _, _ => none
def T.news : T → Bool
  | .v f d => f || d.atom
  | .m _ => true
def Cell.news : Cell → Bool
  | .lst ts => ts.all T.news
  | .tup ts => ts.all T.news
  | .obj _ ts => ts.all T.news
  | .dT _ ts => ts.all T.news
  | .dK _ ts => ts.all T.news
  | .frz f _ => f
  | .hid => false
/-- the cells without those that are handed in by reference -/
def hide (μ : Mu) (js : List Nat) : Mu := setAll μ js (js.map fun _ => Cell.hid)
/-- what comes back; b: what the callee could see of the caller's changing lists must not come back -/
def back (b : Bool) (js : List Nat) (μ : Mu) : Ot T → Ot T
  | some (.ok t μ') => if !b || (t.news && μ'.all Cell.news) then some (.ok (ren js μ.length t) (setAll μ js ((μ'.take js.length).map (renC js μ.length)) ++ (μ'.drop js.length).map (renC js μ.length))) else none
  | some (.exc c t μ') => if !b || (t.news && μ'.all Cell.news) then some (.exc c (ren js μ.length t) (setAll μ js ((μ'.take js.length).map (renC js μ.length)) ++ (μ'.drop js.length).map (renC js μ.length))) else none
  | none => none
def callD (g : List T → Mu → Ot T) (live : Bool) (rf : List Bool) (ts : List T) (μ : Mu) : Ot T :=
  match argsIn (if live then hide μ (refsOf rf ts) else μ) live rf ts 0 with
  | some us => if (refsOf rf ts).Nodup then match cellsAt μ (refsOf rf ts) with
    | some cs => back live (refsOf rf ts) μ (g us cs)
    | none => none
    else none
  | none => none

section
variable {Z : Ent} {p q : Pt} {H H' : Hp} {μ : Mu}
theorem setAll_len : ∀ (js : List Nat) (cs μ : Mu), (setAll μ js cs).length = μ.length
  | [], _, _ => by simp only [setAll]
  | _ :: _, [], _ => by simp only [setAll]
  | j :: js, c :: cs, μ => by
    show (setAll (μ.set j c) js cs).length = _
    rw [setAll_len js cs, List.length_set]
theorem setAll_other : ∀ (js : List Nat) (cs μ : Mu) {i : Nat}, i ∉ js → (setAll μ js cs)[i]? = μ[i]?
  | [], _, _, _, _ => by simp only [setAll]
  | _ :: _, [], _, _, _ => by simp only [setAll]
  | j :: js, c :: cs, μ, i, h => by
    show (setAll (μ.set j c) js cs)[i]? = _
    rw [setAll_other js cs _ (fun z => h (List.mem_cons_of_mem _ z)), List.getElem?_set_ne (fun z => h (by rw [z]; exact List.mem_cons_self))]
theorem setAll_at : ∀ (js : List Nat) (cs μ : Mu) {k j : Nat} {c : Cell}, js.Nodup → js[k]? = some j → cs[k]? = some c → j < μ.length → (setAll μ js cs)[j]? = some c
  | [], _, _, _, _, _, _, h, _, _ => by simp at h
  | _ :: _, [], _, _, _, _, _, _, h, _ => by simp at h
  | j0 :: js, c0 :: cs, μ, 0, j, c, nd, h1, h2, hj => by
    simp at h1 h2
    subst h1 h2
    show (setAll (μ.set j0 c0) js cs)[j0]? = _
    rw [setAll_other js cs _ (List.nodup_cons.mp nd).1, List.getElem?_set_self hj]
  | j0 :: js, c0 :: cs, μ, k + 1, j, c, nd, h1, h2, hj => by
    show (setAll (μ.set j0 c0) js cs)[j]? = _
    exact setAll_at js cs _ (List.nodup_cons.mp nd).2 (by simpa using h1) (by simpa using h2) (by rw [List.length_set]; exact hj)
theorem cellsAt_get : ∀ {js : List Nat} {cs : Mu} {k j : Nat}, cellsAt μ js = some cs → js[k]? = some j → ∃ c, μ[j]? = some c ∧ cs[k]? = some c ∧ c.flat = true
  | [], _, _, _, _, h => by simp at h
  | j0 :: js, cs, k, j, e, h => by
    unfold cellsAt at e
    split at e
    · rename_i c0 cs0 h1 h2
      split at e
      · rename_i hf
        cases e
        cases k with
        | zero =>
          simp at h
          subst h
          exact ⟨c0, h1, rfl, hf⟩
        | succ k =>
          obtain ⟨c, a, b, d⟩ := cellsAt_get (k := k) h2 (by simpa using h)
          exact ⟨c, a, by simpa using b, d⟩
      · cases e
    · cases e
theorem cellsAt_len : ∀ {js : List Nat} {cs : Mu}, cellsAt μ js = some cs → cs.length = js.length
  | [], _, e => by cases e; rfl
  | j0 :: js, cs, e => by
    unfold cellsAt at e
    split at e
    · rename_i c0 cs0 h1 h2
      split at e
      · cases e
        simp [cellsAt_len h2]
      · cases e
    · cases e
/-- addresses of cells -/
def addrs (ms : List Addr) (js : List Nat) : List Addr := js.filterMap fun j => ms[j]?
theorem addrs_get {ms : List Addr} : ∀ {js : List Nat} {k j : Nat}, (∀ j ∈ js, j < ms.length) → js[k]? = some j → (addrs ms js)[k]? = ms[j]?
  | [], _, _, _, h => by simp at h
  | j0 :: js, k, j, hl, h => by
    have h0 : ms[j0]? = some (ms[j0]'(hl j0 List.mem_cons_self)) := List.getElem?_eq_getElem _
    unfold addrs
    rw [List.filterMap_cons, h0]
    cases k with
    | zero =>
      simp at h
      subst h
      exact h0.symm
    | succ k => exact addrs_get (js := js) (k := k) (fun j hj => hl j (List.mem_cons_of_mem _ hj)) (by simpa using h)
theorem addrs_len {ms : List Addr} : ∀ {js : List Nat}, (∀ j ∈ js, j < ms.length) → (addrs ms js).length = js.length
  | [], _ => rfl
  | j0 :: js, hl => by
    have h0 : ms[j0]? = some (ms[j0]'(hl j0 List.mem_cons_self)) := List.getElem?_eq_getElem _
    unfold addrs
    rw [List.filterMap_cons, h0]
    exact congrArg Nat.succ (addrs_len (js := js) fun j hj => hl j (List.mem_cons_of_mem _ hj))
theorem addrs_mem {ms : List Addr} {js : List Nat} {a : Addr} (h : a ∈ addrs ms js) : ∃ j ∈ js, ms[j]? = some a := by
  obtain ⟨j, hj, e⟩ := List.mem_filterMap.mp h
  exact ⟨j, hj, e⟩
theorem addrs_nodup {ms : List Addr} (nd : ms.Nodup) : ∀ {js : List Nat}, js.Nodup → (addrs ms js).Nodup
  | [], _ => List.nodup_nil
  | j0 :: js, h => by
    have ih := addrs_nodup nd (List.nodup_cons.mp h).2
    unfold addrs
    rw [List.filterMap_cons]
    split
    · exact ih
    · rename_i a ha
      refine List.nodup_cons.mpr ⟨fun hm => ?_, ih⟩
      obtain ⟨j, hj, e⟩ := addrs_mem hm
      exact (List.nodup_cons.mp h).1 (by rw [nd_ix nd ha e]; exact hj)

/-! the callee's entry -/
/-- the heap without some addresses -/
def less (H : Hp) (l : List Addr) : Hp := fun x => if x ∈ l then none else H x
theorem less_same {H : Hp} {l : List Addr} : Same (less H l) H := fun x o h => by
  unfold less at h
  split at h
  · cases h
  · exact h
def entC (Z : Ent) (p : Pt) (H : Hp) (live : Bool) (js : List Nat) : Ent := ⟨Z.K, Z.TB, H, if live then less H (addrs p.ms js) else p.F, addrs p.ms js⟩
def ptC (Z : Ent) (p : Pt) (H : Hp) (live : Bool) (js : List Nat) : Pt := ⟨if live then less H (addrs p.ms js) else p.F, noHp, addrs p.ms js⟩
theorem flat_rts {Z' : Ent} {q : Pt} : ∀ {vs : List V} {ts : List T}, RTs Z p vs ts → ts.all T.flat = true → RTs Z' q vs ts
  | _, _, .nil, _ => .nil
  | v :: vs, t :: ts, .cons h g, e => by
    rw [List.all_cons, Bool.and_eq_true_iff] at e
    refine .cons ?_ (flat_rts g e.2)
    match t, h, e.1 with
    | .v f d, h, e =>
      have h' : Dx Z.K Z.TB (if f then p.N else p.F) v d := by cases f <;> exact h
      cases h' <;> first
        | (cases f <;> first | exact Dx.non | exact Dx.bl _ | exact Dx.int _ | exact Dx.str _)
        | exact absurd e Bool.false_ne_true
theorem entC_ok (s : SR Z p H μ) {live : Bool} {js : List Nat} {cs : Mu} (nd : js.Nodup) (hc : cellsAt μ js = some cs) :
    SR (entC Z p H live js) (ptC Z p H live js) H cs := by
  have hlt : ∀ j ∈ js, j < p.ms.length := fun j hj => by
    obtain ⟨k, hk⟩ := List.getElem?_of_mem hj
    obtain ⟨c, h1, _, _⟩ := cellsAt_get hc hk
    rw [s.len]
    exact (List.getElem?_eq_some_iff.mp h1).1
  have hn := addrs_len hlt
  have at_ : ∀ {k : Nat} {a : Addr}, (addrs p.ms js)[k]? = some a → ∃ j c, js[k]? = some j ∧ p.ms[j]? = some a ∧ μ[j]? = some c ∧ cs[k]? = some c ∧ c.flat = true := fun {k a} h => by
    have hk : k < js.length := by rw [← hn]; exact (List.getElem?_eq_some_iff.mp h).1
    have e : js[k]? = some js[k] := List.getElem?_eq_getElem hk
    obtain ⟨c, h1, h2, h3⟩ := cellsAt_get hc e
    rw [addrs_get hlt e] at h
    exact ⟨_, c, e, h, h1, h2, h3⟩
  refine ⟨?_, fun _ _ e => (nomatch e), fun _ _ e => (nomatch e), fun a o e => .inl e, fun _ _ e _ => e, fun a o e => ⟨o, e⟩, List.prefix_refl _, addrs_nodup s.nd nd, ?_, ?_, ?_, ?_, ?_⟩
  · show Same (if live then less H (addrs p.ms js) else p.F) H
    cases live
    · exact s.sub
    · exact less_same
  · show (addrs p.ms js).length = cs.length
    rw [hn, cellsAt_len hc]
  · intro k a c h h2 _
    obtain ⟨j, c', e1, e2, e3, e4, e5⟩ := at_ h
    cases live
    · show p.F a = none
      refine s.nof j a c' e2 e3 ?_
      cases c' with
      | frz f d => cases e5
      | _ => rfl
    · show less H (addrs p.ms js) a = none
      unfold less
      rw [if_pos (show a ∈ addrs p.ms js from List.mem_of_getElem? h)]
  · intro a ha
    obtain ⟨j, _, e⟩ := addrs_mem ha
    exact s.trk a (List.mem_of_getElem? e)
  · intro k a h h2
    exact absurd (List.getElem?_eq_some_iff.mp h).1 (Nat.not_lt.mpr h2)
  · intro k a c h h2
    obtain ⟨j, c', e1, e2, e3, e4, e5⟩ := at_ h
    rw [e4] at h2
    cases h2
    have q := s.cell j a c e2 e3
    cases c with
    | lst ts =>
      obtain ⟨vs, h1, r⟩ := q
      exact ⟨vs, h1, flat_rts r e5⟩
    | obj c ts =>
      obtain ⟨C, dx, fs, names, h1, h2, h3, r⟩ := q
      exact ⟨C, dx, fs, names, h1, h2, h3, flat_rts r e5⟩
    | _ => cases e5
theorem args_ok (s : SR Z p H μ) {live : Bool} {js0 : List Nat} {ν : Mu} (up : Same p.F (less H (addrs p.ms js0)))
    (rd : live = true → ∀ {n : Nat} {t : T} {v : V} {d : D}, RT Z p v t → deep n ν t = some d → Dx Z.K Z.TB (less H (addrs p.ms js0)) v d) :
    ∀ {rf : List Bool} {ts : List T} {vs : List V} {i : Nat} {us : List T}, argsIn ν live rf ts i = some us → RTs Z p vs ts →
    (∀ (k j : Nat), (refsOf rf ts)[k]? = some j → (addrs p.ms js0)[i + k]? = p.ms[j]?) → RTs (entC Z p H live js0) (ptC Z p H live js0) vs us
  | [], [], vs, i, us, e, r, _ => by
    cases r
    simp only [argsIn] at e
    cases e
    exact .nil
  | true :: rf, .m j :: ts, vs, i, us, e, r, hj => by
    cases r with
    | cons r1 r2 =>
      simp only [argsIn] at e
      split at e
      · rename_i us' he
        cases e
        obtain ⟨a, h1, h2⟩ := r1
        refine .cons ⟨a, ?_, h2⟩ (args_ok s up rd he r2 fun k j' hk => ?_)
        · have := hj 0 j rfl
          show (addrs p.ms js0)[i]? = some a
          rw [show i = i + 0 from rfl, this]
          exact h1
        · have := hj (k + 1) j' (by simpa only [refsOf, List.getElem?_cons_succ] using hk)
          rw [show i + 1 + k = i + (k + 1) by omega]
          exact this
      · cases e
  | false :: rf, .v f d :: ts, vs, i, us, e, r, hj => by
    cases r with
    | cons r1 r2 =>
      simp only [argsIn] at e
      split at e
      · rename_i us' he
        cases e
        refine .cons (RT.mk ?_) (args_ok s up rd he r2 fun k j hk => hj k j (by simpa only [refsOf] using hk))
        show Dx Z.K Z.TB (if live then less H (addrs p.ms js0) else p.F) _ d
        have r1 : Dx Z.K Z.TB p.F _ d := r1.old s
        cases live
        · exact r1
        · exact Dx.mono up d r1
      · cases e
  | false :: rf, .m j :: ts, vs, i, us, e, r, hj => by
    cases r with
    | cons r1 r2 =>
      simp only [argsIn] at e
      split at e
      · rename_i hl
        subst hl
        split at e
        · rename_i d us' hd he
          cases e
          refine .cons (RT.mk ?_) (args_ok s up rd he r2 fun k j hk => hj k j (by simpa only [refsOf] using hk))
          exact rd rfl r1 hd
        · cases e
      · cases e
  | true :: _, [], _, _, _, e, _, _ => by simp only [argsIn] at e; cases e
  | false :: _, [], _, _, _, e, _, _ => by simp only [argsIn] at e; cases e
  | [], _ :: _, _, _, _, e, _, _ => by simp only [argsIn] at e; cases e
  | true :: _, .v _ _ :: _, _, _, _, e, _, _ => by simp only [argsIn] at e; cases e
/-- the cells by reference are alive: what stands for good is not among them -/
theorem less_up (s : SR Z p H μ) {js : List Nat} {cs : Mu} (hc : cellsAt μ js = some cs) : Same p.F (less H (addrs p.ms js)) := fun x o h => by
  unfold less
  split
  · rename_i hx
    obtain ⟨j, hj, e⟩ := addrs_mem hx
    obtain ⟨k, hk⟩ := List.getElem?_of_mem hj
    obtain ⟨c, h1, _, h3⟩ := cellsAt_get hc hk
    have : c.live = true := by
      cases c with
      | frz f d => cases h3
      | _ => rfl
    rw [s.nof j x c e h1 this] at h
    cases h
  · exact s.sub x o h
theorem hide_at {js : List Nat} {j : Nat} (hj : j ∉ js) : (hide μ js)[j]? = μ[j]? := setAll_other _ _ _ hj
theorem hide_in : ∀ {js : List Nat} {μ : Mu} {j : Nat} {c : Cell}, j ∈ js → (hide μ js)[j]? = some c → c = .hid
  | j0 :: js, μ, j, c, hj, h => by
    have h : (setAll (μ.set j0 .hid) js (js.map fun _ => Cell.hid))[j]? = some c := h
    by_cases e : j ∈ js
    · exact hide_in (μ := μ.set j0 .hid) e h
    · rw [setAll_other _ _ _ e] at h
      rcases List.mem_cons.mp hj with z | z
      · subst z
        rw [List.getElem?_set] at h
        split at h
        · split at h
          · exact (Option.some.inj h).symm
          · cases h
        · rename_i q; exact absurd rfl q
      · exact absurd z e
theorem hide_read (s : SR Z p H μ) {js : List Nat} {cs : Mu} (hc : cellsAt μ js = some cs) {n : Nat} {t : T} {v : V} {d : D} (h : RT Z p v t) (e : deep n (hide μ js) t = some d) :
    Dx Z.K Z.TB (less H (addrs p.ms js)) v d := by
  refine deep_in (less_up s hc) s.nin (fun j a c hj hcj => ?_) h e
  by_cases hm : j ∈ js
  · rw [hide_in hm hcj]
    trivial
  · rw [hide_at hm] at hcj
    have : a ∉ addrs p.ms js := fun z => by
      obtain ⟨i, hi, e'⟩ := addrs_mem z
      exact hm (by rw [nd_ix s.nd hj e']; exact hi)
    exact Cell.mono (Pt.Le.refl p) (by unfold less; rw [if_neg this]) (s.cell j a c hj hcj)
end

end L3

set_option Elab.async false
set_option linter.all false
set_option maxRecDepth 100000
set_option maxHeartbeats 4000000
/-! L3, ninth part: behind a call. -/
namespace L3
open PySem PySem.Spec PyProof.Rows L2

/-- the caller's heap behind the call -/
def ptB (p q : Pt) (live : Bool) (n : Nat) : Pt :=
  ⟨if live then (fun x => match p.F x with | some o => some o | none => q.N x) else q.F, fun x => match p.N x with | some o => some o | none => q.N x, p.ms ++ q.ms.drop n⟩
/-- the cells behind the call -/
def muB (μ μ' : Mu) (js : List Nat) : Mu := setAll μ js ((μ'.take js.length).map (renC js μ.length)) ++ (μ'.drop js.length).map (renC js μ.length)

section
variable {Z : Ent} {p q : Pt} {H H' : Hp} {μ μ' : Mu} {live : Bool} {js : List Nat} {cs : Mu}
theorem orl_l {f g : Hp} {x : Addr} {o : HO} (h : f x = some o) : (match f x with | some o => some o | none => g x) = some o := by rw [h]
theorem orl_r {f g : Hp} {x : Addr} (h : f x = none) : (match f x with | some o => some o | none => g x) = g x := by rw [h]

theorem ptB_le (s : SR Z p H μ) (e : (ptC Z p H live js).Le q) : p.Le (ptB p q live js.length) := by
  refine ⟨fun x o h => ?_, fun x o h => orl_l h, List.prefix_append _ _⟩
  cases live
  · exact e.f x o h
  · exact orl_l h
/-- a value that comes back -/
theorem ren_ok (s : SR Z p H μ) (nd : js.Nodup) (hc : cellsAt μ js = some cs) (e : (ptC Z p H live js).Le q) (c : SR (entC Z p H live js) q H' μ') {v : V} :
    ∀ {t : T}, (live = true → t.news = true) → RT (entC Z p H live js) q v t → RT Z (ptB p q live js.length) v (ren js μ.length t)
  | .v true d, _, r => by
    refine Dx.mono (fun x o h => ?_) d (show Dx Z.K Z.TB q.N v d from r)
    show (match p.N x with | some o => some o | none => q.N x) = some o
    rw [orl_r]
    · exact h
    · have hx : H x = none := c.fr x o h
      exact s.freeN hx
  | .v false d, hn, r => by
    cases live
    · exact r
    · have ha : d.atom = true := by
        have := hn rfl
        simpa [T.news] using this
      exact Dx.atomic (show Dx Z.K Z.TB q.F v d from r) ha
  | .m i, _, ⟨a, h, hv⟩ => by
    have hlt : ∀ j ∈ js, j < p.ms.length := fun j hj => by
      obtain ⟨k, hk⟩ := List.getElem?_of_mem hj
      obtain ⟨c, h1, _, _⟩ := cellsAt_get hc hk
      rw [s.len]
      exact (List.getElem?_eq_some_iff.mp h1).1
    have hn := addrs_len hlt
    obtain ⟨l, hq⟩ : addrs p.ms js <+: q.ms := e.m
    cases hi : js[i]? with
    | some j =>
      rw [show ren js μ.length (.m i) = .m j by simp only [ren, hi]]
      refine ⟨a, ?_, hv⟩
      have hk := addrs_get hlt hi
      have hil : i < (addrs p.ms js).length := by rw [hn]; exact (List.getElem?_eq_some_iff.mp hi).1
      rw [← hq, List.getElem?_append_left hil, hk] at h
      show (p.ms ++ q.ms.drop js.length)[j]? = some a
      rw [List.getElem?_append_left (List.getElem?_eq_some_iff.mp h).1]
      exact h
    | none =>
      rw [show ren js μ.length (.m i) = .m (μ.length + (i - js.length)) by simp only [ren, hi]]
      refine ⟨a, ?_, hv⟩
      have hge : js.length ≤ i := List.getElem?_eq_none_iff.mp hi
      show (p.ms ++ q.ms.drop js.length)[μ.length + (i - js.length)]? = some a
      rw [← s.len, List.getElem?_append_right (Nat.le_add_right _ _), Nat.add_sub_cancel_left, List.getElem?_drop, Nat.add_sub_cancel' hge]
      exact h
theorem rens_ok (s : SR Z p H μ) (nd : js.Nodup) (hc : cellsAt μ js = some cs) (e : (ptC Z p H live js).Le q) (c : SR (entC Z p H live js) q H' μ') :
    ∀ {vs : List V} {ts : List T}, (live = true → ts.all T.news = true) → RTs (entC Z p H live js) q vs ts → RTs Z (ptB p q live js.length) vs (ts.map (ren js μ.length))
  | _, _, _, .nil => .nil
  | _, _, hn, .cons h t => by
    have hn' : live = true → _ := fun z => Bool.and_eq_true_iff.mp (show (_ && _) = true from hn z)
    exact .cons (ren_ok s nd hc e c (fun z => (hn' z).1) h) (rens_ok s nd hc e c (fun z => (hn' z).2) t)
theorem renC_ok (s : SR Z p H μ) (nd : js.Nodup) (hc : cellsAt μ js = some cs) (e : (ptC Z p H live js).Le q) (c : SR (entC Z p H live js) q H' μ') {a : Addr} :
    ∀ {d : Cell}, (live = true → d.news = true) → CellOk (entC Z p H live js) q H' a d → CellOk Z (ptB p q live js.length) H' a (renC js μ.length d)
  | .lst ts, hn, ⟨vs, h1, h2⟩ => ⟨vs, h1, rens_ok s nd hc e c hn h2⟩
  | .tup ts, hn, ⟨vs, h1, h2⟩ => ⟨vs, h1, rens_ok s nd hc e c hn h2⟩
  | .obj k ts, hn, ⟨C, dx, fs, names, h1, h2, h3, h4⟩ => ⟨C, dx, fs, names, h1, h2, by rw [List.length_map]; exact h3, rens_ok s nd hc e c hn h4⟩
  | .dT ks ts, hn, ⟨kvs, h1, h2, h3⟩ => ⟨kvs, h1, h2, rens_ok s nd hc e c hn h3⟩
  | .dK ks ts, hn, ⟨kvs, h1, h2, h3⟩ => ⟨kvs, h1, h2, rens_ok s nd hc e c hn h3⟩
  | .frz f d, hn, h1 => by
    have := ren_ok s nd hc e c (t := .v f d) (fun z => by have := hn z; simp [T.news]; exact .inl this) h1
    exact this
  | .hid, _, _ => trivial
theorem renC_live {b : Nat} : ∀ {d : Cell}, (renC js b d).live = d.live
  | .lst _ => rfl
  | .tup _ => rfl
  | .obj _ _ => rfl
  | .dT _ _ => rfl
  | .dK _ _ => rfl
  | .frz _ _ => rfl
  | .hid => rfl

theorem sr_back (s : SR Z p H μ) (nd : js.Nodup) (hc : cellsAt μ js = some cs) (e : (ptC Z p H live js).Le q) (c : SR (entC Z p H live js) q H' μ')
    (hn : live = true → μ'.all Cell.news = true) : SR Z (ptB p q live js.length) H' (muB μ μ' js) := by
  have hlt : ∀ j ∈ js, j < p.ms.length := fun j hj => by
    obtain ⟨k, hk⟩ := List.getElem?_of_mem hj
    obtain ⟨c, h1, _, _⟩ := cellsAt_get hc hk
    rw [s.len]
    exact (List.getElem?_eq_some_iff.mp h1).1
  have hlen := addrs_len hlt
  have hqm : addrs p.ms js <+: q.ms := e.m
  have hql : js.length ≤ q.ms.length := by rw [← hlen]; exact hqm.length_le
  have hkeep : ∀ x o, H x = some o → x ∉ addrs p.ms js → H' x = some o := fun x o h hx => c.keep x o h hx
  have hnone : ∀ x, x ∈ q.ms.drop js.length → H x = none := fun x hx => by
    obtain ⟨k, hk⟩ := List.getElem?_of_mem hx
    rw [List.getElem?_drop] at hk
    exact c.new _ x hk (by show (addrs p.ms js).length ≤ _; rw [hlen]; exact Nat.le_add_right _ _)
  have hcut : (setAll μ js ((μ'.take js.length).map (renC js μ.length))).length = μ.length := setAll_len _ _ _
  have hF0 : ∀ x o, p.F x = some o → x ∉ addrs p.ms js := fun x o h hx => by
    have h' := less_up s hc x o h
    unfold less at h'
    rw [if_pos hx] at h'
    cases h'
  -- what stands at an index
  have look : ∀ (i : Nat) (a : Addr) (d : Cell), (p.ms ++ q.ms.drop js.length)[i]? = some a → (muB μ μ' js)[i]? = some d →
      (∃ (k j : Nat) (d' : Cell), js[k]? = some j ∧ i = j ∧ p.ms[i]? = some a ∧ q.ms[k]? = some a ∧ μ'[k]? = some d' ∧ d = renC js μ.length d') ∨
      (i ∉ js ∧ p.ms[i]? = some a ∧ μ[i]? = some d ∧ a ∉ addrs p.ms js) ∨
      (p.ms.length ≤ i ∧ ∃ (k : Nat) (d' : Cell), js.length ≤ k ∧ q.ms[k]? = some a ∧ μ'[k]? = some d' ∧ d = renC js μ.length d' ∧ a ∈ q.ms.drop js.length) := by
    intro i a d h1 h2
    unfold muB at h2
    by_cases hi : i < μ.length
    · rw [List.getElem?_append_left (by rw [s.len]; exact hi)] at h1
      rw [List.getElem?_append_left (by rw [hcut]; exact hi)] at h2
      by_cases hj : i ∈ js
      · obtain ⟨k, hk⟩ := List.getElem?_of_mem hj
        have hkl : k < js.length := (List.getElem?_eq_some_iff.mp hk).1
        have hqk : q.ms[k]? = some a := by
          obtain ⟨l, hq⟩ := hqm
          rw [← hq, List.getElem?_append_left (by rw [hlen]; exact hkl), addrs_get hlt hk]
          exact h1
        have hkm : k < μ'.length := by rw [← c.len]; exact (List.getElem?_eq_some_iff.mp hqk).1
        have hd' : μ'[k]? = some μ'[k] := List.getElem?_eq_getElem hkm
        have hm : ((μ'.take js.length).map (renC js μ.length))[k]? = some (renC js μ.length μ'[k]) := by
          rw [List.getElem?_map, List.getElem?_take_of_lt hkl, hd'] <;> rfl
        rw [setAll_at js _ _ nd hk hm hi] at h2
        exact .inl ⟨k, i, μ'[k], hk, rfl, h1, hqk, hd', (Option.some.inj h2).symm⟩
      · rw [setAll_other js _ _ hj] at h2
        refine .inr (.inl ⟨hj, h1, h2, fun hx => ?_⟩)
        obtain ⟨j, hj', e'⟩ := addrs_mem hx
        exact hj (by rw [nd_ix s.nd h1 e']; exact hj')
    · have hi : μ.length ≤ i := Nat.le_of_not_lt hi
      rw [List.getElem?_append_right (by rw [s.len]; exact hi)] at h1
      rw [List.getElem?_append_right (by rw [hcut]; exact hi), hcut, List.getElem?_map, List.getElem?_drop] at h2
      have hm := List.mem_of_getElem? h1
      rw [List.getElem?_drop, s.len] at h1
      cases hd : μ'[js.length + (i - μ.length)]? with
      | none => rw [hd] at h2; cases h2
      | some d' =>
        rw [hd] at h2
        exact .inr (.inr ⟨by rw [s.len]; exact hi, _, d', Nat.le_add_right _ _, h1, hd, (Option.some.inj h2).symm, hm⟩)
  have fF : ∀ x o, (ptB p q live js.length).F x = some o → (live = true ∧ (p.F x = some o ∨ (p.F x = none ∧ q.N x = some o))) ∨ (live = false ∧ q.F x = some o) := by
    intro x o h
    cases live
    · exact .inr ⟨rfl, h⟩
    · refine .inl ⟨rfl, ?_⟩
      have h : (match p.F x with | some o => some o | none => q.N x) = some o := h
      cases hp : p.F x with
      | some o' => rw [hp] at h; exact .inl h
      | none => rw [hp] at h; exact .inr ⟨rfl, h⟩
  have fN : ∀ x o, (ptB p q live js.length).N x = some o → p.N x = some o ∨ (p.N x = none ∧ q.N x = some o) := by
    intro x o h
    have h : (match p.N x with | some o => some o | none => q.N x) = some o := h
    cases hp : p.N x with
    | some o' => rw [hp] at h; exact .inl h
    | none => rw [hp] at h; exact .inr ⟨rfl, h⟩
  refine ⟨fun x o h => ?_, fun x o h => ?_, fun x o h => ?_, fun x o h => ?_, fun x o h hx => ?_, fun x o h => ?_, s.pre.trans (List.prefix_append _ _), ?_, ?_, fun i a d h1 h2 h3 => ?_, fun a ha => ?_, fun i a h1 h2 => ?_, fun i a d h1 h2 => ?_⟩
  · rcases fF x o h with ⟨z, h | ⟨_, h⟩⟩ | ⟨_, h⟩
    · exact hkeep x o (s.sub x o h) (hF0 x o h)
    · exact c.sub x o (c.nin x o h)
    · exact c.sub x o h
  · rcases fN x o h with h' | ⟨_, h'⟩
    · cases live
      · exact e.f x o (s.nin x o h')
      · exact orl_l (s.nin x o h')
    · cases live
      · exact c.nin x o h'
      · have hx : H x = none := c.fr x o h'
        show (match p.F x with | some o => some o | none => q.N x) = some o
        rw [orl_r (s.freeF hx)]
        exact h'
  · rcases fN x o h with h | ⟨_, h⟩
    · exact s.fr x o h
    · exact s.free0 (c.fr x o h)
  · rcases fF x o h with ⟨z, h | ⟨_, h⟩⟩ | ⟨z, h⟩
    · exact s.org x o h
    · exact .inr (s.free0 (c.fr x o h))
    · rcases c.org x o h with h | h
      · subst z
        exact s.org x o h
      · exact .inr (s.free0 h)
  · refine hkeep x o (s.keep x o h hx) fun hm => ?_
    obtain ⟨j, hj, e'⟩ := addrs_mem hm
    by_cases h0 : Z.ms0.length ≤ j
    · rw [s.new j x e' h0] at h; cases h
    · obtain ⟨l, hl⟩ := s.pre
      rw [← hl, List.getElem?_append_left (Nat.lt_of_not_le h0)] at e'
      exact hx (List.mem_of_getElem? e')
  · obtain ⟨o', h'⟩ := s.dom x o h
    exact c.dom x o' h'
  · show (p.ms ++ q.ms.drop js.length).Nodup
    rw [List.nodup_append]
    refine ⟨s.nd, c.nd.sublist (List.drop_sublist _ _), fun x hx y hy z => ?_⟩
    subst z
    obtain ⟨o, ho⟩ := s.trk x hx
    rw [hnone x hy] at ho
    cases ho
  · show (p.ms ++ q.ms.drop js.length).length = (muB μ μ' js).length
    unfold muB
    rw [List.length_append, List.length_append, hcut, List.length_map, List.length_drop, List.length_drop, s.len, c.len]
  · rcases look i a d h1 h2 with ⟨k, j, d', hk, hij, hp, hq, hd, rfl⟩ | ⟨hj, hp, hd, hna⟩ | ⟨_, k, d', hk, hq, hd, rfl, hm⟩
    · rw [renC_live] at h3
      cases live
      · exact c.nof k a d' hq hd h3
      · have hpF : p.F a = none := by
          cases hf : p.F a with
          | none => rfl
          | some o =>
            obtain ⟨c0, _, _, _⟩ := cellsAt_get hc hk
            refine absurd ?_ (hF0 a o hf)
            exact List.mem_of_getElem? (show (addrs p.ms js)[k]? = some a by rw [addrs_get hlt hk, ← hij]; exact hp)
        show (match p.F a with | some o => some o | none => q.N a) = none
        rw [orl_r hpF]
        cases hN : q.N a with
        | none => rfl
        | some o =>
          have h0 : H a = none := c.fr a o hN
          obtain ⟨u, hu⟩ := s.trk a (List.mem_of_getElem? hp)
          rw [h0] at hu; cases hu
    · have hpF := s.nof i a d hp hd h3
      obtain ⟨o, ho⟩ := s.trk a (List.mem_of_getElem? hp)
      cases hf : (ptB p q live js.length).F a with
      | none => rfl
      | some u =>
        rcases fF a u hf with ⟨z, h | ⟨_, h⟩⟩ | ⟨z, h⟩
        · rw [hpF] at h; cases h
        · have : H a = none := c.fr a u h
          rw [ho] at this; cases this
        · rcases c.org a u h with h | h
          · subst z
            have h : p.F a = some u := h
            rw [hpF] at h; cases h
          · have h : H a = none := h
            rw [ho] at h; cases h
    · rw [renC_live] at h3
      have hx := hnone a hm
      cases live
      · exact c.nof k a d' hq hd h3
      · show (match p.F a with | some o => some o | none => q.N a) = none
        rw [orl_r (s.freeF hx)]
        exact c.nin.free (c.nof k a d' hq hd h3)
  · rcases List.mem_append.mp (show a ∈ p.ms ++ q.ms.drop js.length from ha) with ha | ha
    · obtain ⟨o, ho⟩ := s.trk a ha
      by_cases hx : a ∈ addrs p.ms js
      · exact c.trk a (hqm.subset hx)
      · exact ⟨o, hkeep a o ho hx⟩
    · exact c.trk a (List.mem_of_mem_drop ha)
  · have h1 : (p.ms ++ q.ms.drop js.length)[i]? = some a := h1
    by_cases hi : i < p.ms.length
    · rw [List.getElem?_append_left hi] at h1
      exact s.new i a h1 h2
    · rw [List.getElem?_append_right (Nat.le_of_not_lt hi)] at h1
      exact s.free0 (hnone a (List.mem_of_getElem? h1))
  · have nw : ∀ {k : Nat} {d' : Cell}, μ'[k]? = some d' → live = true → d'.news = true := fun {k d'} hd z => List.all_eq_true.mp (hn z) d' (List.mem_of_getElem? hd)
    rcases look i a d h1 h2 with ⟨k, j, d', hk, hij, hp, hq, hd, rfl⟩ | ⟨hj, hp, hd, hna⟩ | ⟨_, k, d', hk, hq, hd, rfl, hm⟩
    · exact renC_ok s nd hc e c (nw hd) (c.cell k a d' hq hd)
    · obtain ⟨o, ho⟩ := s.trk a (List.mem_of_getElem? hp)
      exact Cell.mono (ptB_le s e) (by rw [hkeep a o ho hna, ho]) (s.cell i a d hp hd)
    · exact renC_ok s nd hc e c (nw hd) (c.cell k a d' hq hd)

/-- THE CALL: what the caller owes the callee's promise -/
theorem call_owes {W : Wish} {σ : L2.St} {Q : VK} {g : List T → Mu → Ot T} {rf : List Bool} {ts : List T} {vs : List V} (s : SR Z p H μ) (r : RTs Z p vs ts)
    (h : Post Z W σ Q p (callD g live rf ts μ)) : spD Z.K Z.TB g vs.length vs H Q (WE W σ) := by
  unfold callD at h
  split at h
  · rename_i us ha
    split at h
    · rename_i nd
      split at h
      · rename_i cs hc
        have hlt : ∀ j ∈ refsOf rf ts, j < p.ms.length := fun j hj => by
          obtain ⟨k, hk⟩ := List.getElem?_of_mem hj
          obtain ⟨c, h1, _, _⟩ := cellsAt_get hc hk
          rw [s.len]
          exact (List.getElem?_eq_some_iff.mp h1).1
        refine ⟨rfl, if live then less H (addrs p.ms (refsOf rf ts)) else p.F, addrs p.ms (refsOf rf ts), cs, us, entC_ok s nd hc, ?_, ?_⟩
        · refine args_ok s (js0 := refsOf rf ts) (less_up s hc) (fun hl {n t v d} r e => ?_) ha r fun k j hk => by rw [Nat.zero_add]; exact addrs_get hlt hk
          rw [hl, if_pos rfl] at e
          exact hide_read s hc r e
        · match hg : g us cs, h with
          | some (.ok t μ'), h =>
            simp only [back] at h
            split at h
            · rename_i hcond
              intro v H' q hle hsr hrt
              have hnew : live = true → t.news = true ∧ μ'.all Cell.news = true := fun z => by
                rw [z] at hcond
                simpa using hcond
              exact h v H' _ (ptB_le s hle) (sr_back s nd hc hle hsr fun z => (hnew z).2) (ren_ok s nd hc hle hsr (fun z => (hnew z).1) hrt)
            · exact h.elim
          | some (.exc c t μ'), h =>
            simp only [back] at h
            split at h
            · rename_i hcond
              intro C v dx H' q hC hle hsr h0 hd hrt
              have hnew : live = true → t.news = true ∧ μ'.all Cell.news = true := fun z => by
                rw [z] at hcond
                simpa using hcond
              refine h C v dx H' _ hC (ptB_le s hle) (sr_back s nd hc hle hsr fun z => (hnew z).2) (s.free0 h0) ?_ (ren_ok s nd hc hle hsr (fun z => (hnew z).1) hrt)
              have h0' : H dx = none := h0
              show (match p.N dx with | some o => some o | none => q.N dx) = _
              rw [orl_r (s.freeN h0')]
              exact hd
            · exact h.elim
          | none, h => exact h.elim
      · exact h.elim
    · exact h.elim
  · exact h.elim
end
end L3

set_option Elab.async false
set_option linter.all false
set_option maxRecDepth 100000
set_option maxHeartbeats 4000000
/-! L3, tenth part: expressions, one construct after the other. -/
namespace L3
open PySem PySem.Spec PyProof.Rows L2

abbrev Db := Gam → Mu → Ot Bool
section
variable {X : Cx} {Z : Ent} {W : Wish} {a b c e : Expr} {es : List Expr} {ga gb gc : De} {ta tb : Db} {da : Da} {pos : Pos}

/-! names, constants -/
def dVar (i : Nat) : De := fun Γ μ => match Γ[i]? with
  | some (some t) => some (.ok t μ)
  | _ => none
theorem xe_var {i : Nat} {x : Str} (hN : X.N[i]? = some x) (hv : Vis X.env.scope x) (hd : (x == ("__debug__" : Str)) = false) (hcd : (x == ("__classdict__" : Str)) = false) : PE X (.Name x pos) (tD Z W (dVar i)) :=
  pe_imp (pe_var hN hv hd hcd) fun σ H Q ⟨p, μ, Γ, s, e, h⟩ => by
    unfold dVar at h
    split at h
    · rename_i t ht
      obtain ⟨v, h1, h2⟩ := e.2 i t ht
      exact ⟨v, h1, h v H p (Pt.Le.refl p) s h2⟩
    · exact h.elim
def dAtm (d : D) : De := fun _ μ => some (.ok (.v true d) μ)
theorem xe_atm {v : V} {d : D} (h : PE X e (tC v)) (hv : ∀ F : Hp, Dx Z.K Z.TB F v d) : PE X e (tD Z W (dAtm d)) :=
  pe_imp h fun σ H Q ⟨p, μ, Γ, s, e, h⟩ => h v H p (Pt.Le.refl p) s (hv _)

/-! operators -/
def d1 (g : Mu → T → Vt) (ga : De) : De := fun Γ μ => Ot.bind (ga Γ μ) fun ta μ1 => (g μ1 ta).ot
def d2 (g : Mu → T → T → Vt) (ga gb : De) : De := fun Γ μ => Ot.bind (ga Γ μ) fun ta μ1 => Ot.bind (gb Γ μ1) fun tb μ2 => (g μ2 ta tb).ot
/-- one piece, then what is asked of its value -/
theorem one {g : Mu → T → Vt} {σ : L2.St} {H : Hp} {Q : VK} (h : tD Z W (d1 g ga) σ H Q) : tD Z W ga σ H fun x H1 => rV1 Z g x H1 Q := by
  obtain ⟨p, μ, Γ, s, e, h⟩ := h
  obtain ⟨p', μ', Γ', s', e', h'⟩ := tD_bind s e h
  refine ⟨p', μ', Γ', s', e', ?_⟩
  match hg : ga Γ' μ', h' with
  | some (.ok t μ1), h' =>
    intro v H' q hl hs hr
    obtain ⟨q1, μ2, t2, l1, s1, e1, r1, k1⟩ := h' v H' q hl hs hr
    exact ⟨q1, μ2, t2, s1, r1, VPost.post k1⟩
  | some (.exc c t μ1), h' => exact h'
theorem two {g : Mu → T → T → Vt} {σ : L2.St} {H : Hp} {Q : VK} (h : tD Z W (d2 g ga gb) σ H Q) :
    tD Z W ga σ H fun x H1 => tD Z W gb σ H1 fun y H2 => rV2 Z g x y H2 Q := by
  obtain ⟨p, μ, Γ, s, e, h⟩ := h
  obtain ⟨p', μ', Γ', s', e', h'⟩ := tD_bind s e h
  refine ⟨p', μ', Γ', s', e', ?_⟩
  match hg : ga Γ' μ', h' with
  | some (.ok t μ1), h' =>
    intro v H' q hl hs hr
    obtain ⟨q1, μ2, t2, l1, s1, e1, r1, k1⟩ := h' v H' q hl hs hr
    obtain ⟨p3, μ3, Γ3, s3, e3, h3⟩ := tD_bind s1 e1 k1
    refine ⟨p3, μ3, Γ3, s3, e3, ?_⟩
    match hg3 : gb Γ3 μ3, h3 with
    | some (.ok t4 μ4), h3 =>
      intro v4 H4 q4 hl4 hs4 hr4
      obtain ⟨q5, μ5, t5, l5, s5, e5, r5, k5⟩ := h3 v4 H4 q4 hl4 hs4 hr4
      exact ⟨q5, μ5, t2, t5, s5, r1.mono l5, r5, VPost.post k5⟩
    | some (.exc c4 t4 μ4), h3 => exact h3
  | some (.exc c t μ1), h' => exact h'
theorem xe_bin (hK : X.K = Z.K) (live : Bool) {op : Operator} (ha : PE X a (tD Z W ga)) (hb : PE X b (tD Z W gb)) : PE X (.BinOp a op b pos) (tD Z W (d2 (binV live op) ga gb)) :=
  pe_imp (pe_op (op_binV hK live op) ha hb) fun _ _ _ h => two h
theorem xe_cmp (hK : X.K = Z.K) (hu : X.A.units + 65 < cLine) {op : CmpOp} (ha : PE X a (tD Z W ga)) (hb : PE X b (tD Z W gb)) (hm : behindInMarks op b = false) : PE X (.Compare a [op] [b] pos) (tD Z W (d2 (cmpVt op) ga gb)) :=
  pe_imp (pe_cmpR (op_cmpV hK hu op) ha hb hm) fun _ _ _ h => two h
def negV (μ : Mu) : T → Vt
  | .v _ (.int i) => some (.v true (.int (-i)), μ)
  | _ => none
def invV (μ : Mu) : T → Vt
  | .v _ (.int i) => some (.v true (.int (Builtin.bitNot i)), μ)
  | _ => none
theorem un_V {op : UnaryOp} {g : Mu → T → Vt} {f : Int → Int} (ho : UnR X (unaryOp op) (rU fun i => .int (f i))) (hg : ∀ μ t, g μ t = match t with | .v _ (.int i) => some (.v true (.int (f i)), μ) | _ => none) :
    UnR X (unaryOp op) (rV1 Z g) := by
  intro pins s σ H x v Q I rx h
  obtain ⟨p, μ, tx, sr, hx, h⟩ := h
  rw [hg] at h
  split at h
  · rename_i _ i
    cases hx.int
    exact ho pins s σ H _ v Q I rx ⟨i, rfl, VPost.flat sr (Dx.int _) h⟩
  · exact h.elim
theorem xe_neg (ha : PE X a (tD Z W ga)) : PE X (.UnaryOp .USub a pos) (tD Z W (d1 negV ga)) :=
  pe_imp (pe_un (un_V (Z := Z) (g := negV) un_neg fun μ t => by cases t with | v f d => cases d <;> rfl | m j => rfl) ha) fun _ _ _ h => one h
theorem xe_inv (ha : PE X a (tD Z W ga)) : PE X (.UnaryOp .Invert a pos) (tD Z W (d1 invV ga)) :=
  pe_imp (pe_un (un_V (Z := Z) (g := invV) un_inv fun μ t => by cases t with | v f d => cases d <;> rfl | m j => rfl) ha) fun _ _ _ h => one h
theorem xe_ix (hK : X.K = Z.K) (ha : PE X a (tD Z W ga)) (hb : PE X b (tD Z W gb)) (hs : PlainIx b) : PE X (.Subscript a b pos) (tD Z W (d2 ixV ga gb)) :=
  pe_imp (pe_ix (ix_V hK) ha hb hs) fun _ _ _ h => two h

/-! tests -/
def bOf (g : De) : Db := fun Γ μ => Ot.bind (g Γ μ) fun t μ1 => match t with
  | .v _ (.bl k) => some (.ok k μ1)
  | _ => none
/-- a piece, read as a test -/
theorem bOf_test {σ : L2.St} {H : Hp} {Q : Bool → Hp → Prop} {g : De} (h : tDB Z W (bOf g) σ H Q) : tD Z W g σ H fun x H1 => ∃ k, x = .bl k ∧ Q k H1 := by
  obtain ⟨p, μ, Γ, s, e, h⟩ := h
  obtain ⟨p', μ', Γ', s', e', h'⟩ := tD_bindB s e h
  refine ⟨p', μ', Γ', s', e', ?_⟩
  match hg : g Γ' μ', h' with
  | some (.ok t μ1), h' =>
    intro v H' q hl hs hr
    obtain ⟨q1, μ2, t2, l1, s1, e1, r1, k1⟩ := h' v H' q hl hs hr
    split at k1
    · rename_i k
      cases r1.bl
      exact ⟨k, rfl, k1 H' q1 (Pt.Le.refl q1) s1⟩
    · exact k1.elim
  | some (.exc c t μ1), h' => exact h'
theorem xt_cmp (hK : X.K = Z.K) (hu : X.A.units + 65 < cLine) {op : CmpOp} (ha : PE X a (tD Z W ga)) (hb : PE X b (tD Z W gb)) (hm : behindInMarks op b = false) : PT X (.Compare a [op] [b] pos) (tDB Z W (bOf (d2 (cmpVt op) ga gb))) :=
  pt_imp (pt_cmpR (op_cmpV hK hu op) ha hb hm) fun _ _ _ h => by
    obtain ⟨p, μ, Γ, s, e, h'⟩ := bOf_test h
    exact two ⟨p, μ, Γ, s, e, h'⟩
def bTru (g : De) : Db := fun Γ μ => Ot.bind (g Γ μ) fun t μ1 => match truT μ1 t with
  | some k => some (.ok k μ1)
  | none => none
theorem xt_tru (hK : X.K = Z.K) (ha : PE X a (tD Z W ga)) (he : ∀ whole, isTrue a X.env whole = (do let v ← whole; standAt a.pos; holding [v] (truthy v))) : PT X a (tDB Z W (bTru ga)) :=
  pt_imp (pt_truth ha he) fun σ H Q ⟨p, μ, Γ, s, e, h⟩ => by
    obtain ⟨p', μ', Γ', s', e', h'⟩ := tD_bindB s e h
    refine ⟨p', μ', Γ', s', e', ?_⟩
    match hg : ga Γ' μ', h' with
    | some (.ok t μ1), h' =>
      intro v H' q hl hs hr
      obtain ⟨q1, μ2, t2, l1, s1, e1, r1, k1⟩ := h' v H' q hl hs hr
      split at k1
      · rename_i k hk
        exact ⟨k, truT_ok hK s1 r1 hk, k1 H' q1 (Pt.Le.refl q1) s1⟩
      · exact k1.elim
    | some (.exc c t μ1), h' => exact h'
def bNot (g : Db) : Db := fun Γ μ => Ot.bind (g Γ μ) fun k μ1 => some (.ok (!k) μ1)
def bAnd (g h : Db) : Db := fun Γ μ => Ot.bind (g Γ μ) fun k μ1 => if k then h Γ μ1 else some (.ok false μ1)
def bOr (g h : Db) : Db := fun Γ μ => Ot.bind (g Γ μ) fun k μ1 => if k then some (.ok true μ1) else h Γ μ1
theorem bind2B {g : Db} {k : Bool → Mu → Ot Bool} {σ : L2.St} {H : Hp} {Q R : Bool → Hp → Prop} (h : tDB Z W (fun Γ μ => Ot.bind (g Γ μ) fun b μ1 => k b μ1) σ H Q)
    (hR : ∀ b H1 (q : Pt) (μ1 : Mu) (Γ : Gam), SR Z q H1 μ1 → ER Z q σ Γ → PostB Z W σ Q q (k b μ1) → R b H1) : tDB Z W g σ H R := by
  obtain ⟨p, μ, Γ, s, e, h⟩ := h
  obtain ⟨p', μ', Γ', s', e', h'⟩ := tDB_bindB s e h
  refine ⟨p', μ', Γ', s', e', ?_⟩
  match hg : g Γ' μ', h' with
  | some (.ok t μ1), h' =>
    intro H' q hl hs
    obtain ⟨q1, μ2, l1, s1, e1, k1⟩ := h' H' q hl hs
    exact hR _ _ _ _ _ s1 e1 k1
  | some (.exc c t μ1), h' => exact h'
theorem xt_not (ha : PT X a (tDB Z W ta)) : PT X (.UnaryOp .Not a pos) (tDB Z W (bNot ta)) :=
  pt_imp (pt_not ha) fun σ H Q h => bind2B (k := fun k μ1 => some (.ok (!k) μ1)) h fun b H1 q μ1 Γ s e k => k H1 q (Pt.Le.refl q) s
theorem xt_and {rest : List Expr} (ha : PT X a (tDB Z W ta)) (hb : PW X (.BoolOp .And (b :: rest) pos) (tDB Z W tb)) : PW X (.BoolOp .And (a :: b :: rest) pos) (tDB Z W (bAnd ta tb)) := by
  have h := pw_and ha hb
  refine ⟨fun wh pins s σ H Q I q => h.run wh pins s σ H Q I ?_⟩
  obtain ⟨p, μ, Γ, sr, er, h'⟩ := q
  obtain ⟨p', μ', Γ', s', e', h'⟩ := tDB_bindB sr er h'
  refine ⟨p', μ', Γ', s', e', ?_⟩
  match hg : ta Γ' μ', h' with
  | some (.ok t μ1), h' =>
    intro H' q hl hs
    obtain ⟨q1, μ2, l1, s1, e1, k1⟩ := h' H' q hl hs
    cases t
    · rw [if_neg Bool.false_ne_true] at k1 ⊢
      exact k1 H' q1 (Pt.Le.refl q1) s1
    · rw [if_pos rfl] at k1 ⊢
      exact ⟨q1, μ2, _, s1, e1, k1⟩
  | some (.exc c t μ1), h' => exact h'
theorem xt_or {rest : List Expr} (ha : PT X a (tDB Z W ta)) (hb : PW X (.BoolOp .Or (b :: rest) pos) (tDB Z W tb)) : PW X (.BoolOp .Or (a :: b :: rest) pos) (tDB Z W (bOr ta tb)) := by
  have h := pw_or ha hb
  refine ⟨fun wh pins s σ H Q I q => h.run wh pins s σ H Q I ?_⟩
  obtain ⟨p, μ, Γ, sr, er, h'⟩ := q
  obtain ⟨p', μ', Γ', s', e', h'⟩ := tDB_bindB sr er h'
  refine ⟨p', μ', Γ', s', e', ?_⟩
  match hg : ta Γ' μ', h' with
  | some (.ok t μ1), h' =>
    intro H' q hl hs
    obtain ⟨q1, μ2, l1, s1, e1, k1⟩ := h' H' q hl hs
    cases t
    · rw [if_neg Bool.false_ne_true] at k1 ⊢
      exact ⟨q1, μ2, _, s1, e1, k1⟩
    · rw [if_pos rfl] at k1 ⊢
      exact k1 H' q1 (Pt.Le.refl q1) s1
  | some (.exc c t μ1), h' => exact h'

/-! and, or, not as values -/
def dAnd (ga gb : De) : De := fun Γ μ => Ot.bind (ga Γ μ) fun t μ1 => match t with
  | .v _ (.bl k) => if k then gb Γ μ1 else some (.ok (.v true (.bl false)) μ1)
  | _ => none
def dOr (ga gb : De) : De := fun Γ μ => Ot.bind (ga Γ μ) fun t μ1 => match t with
  | .v _ (.bl k) => if k then some (.ok (.v true (.bl true)) μ1) else gb Γ μ1
  | _ => none
def notV (μ : Mu) : T → Vt
  | .v _ (.bl k) => some (.v true (.bl (!k)), μ)
  | _ => none
def dNot (ga : De) : De := d1 notV ga
theorem xe_and {rest : List Expr} (ha : PE X a (tD Z W ga)) (hb : PE X (.BoolOp .And (b :: rest) pos) (tD Z W gb)) : PE X (.BoolOp .And (a :: b :: rest) pos) (tD Z W (dAnd ga gb)) :=
  pe_imp (pe_and ha hb) fun σ H Q ⟨p, μ, Γ, s, e, h⟩ => by
    obtain ⟨p', μ', Γ', s', e', h'⟩ := tD_bind s e h
    refine ⟨p', μ', Γ', s', e', ?_⟩
    match hg : ga Γ' μ', h' with
    | some (.ok t μ1), h' =>
      intro v H' q hl hs hr
      obtain ⟨q1, μ2, t2, l1, s1, e1, r1, k1⟩ := h' v H' q hl hs hr
      split at k1
      · rename_i k
        cases r1.bl
        refine ⟨k, rfl, ?_⟩
        cases k
        · rw [if_neg Bool.false_ne_true] at k1 ⊢
          exact k1 _ _ q1 (Pt.Le.refl q1) s1 (Dx.bl _)
        · rw [if_pos rfl] at k1 ⊢
          exact ⟨q1, μ2, _, s1, e1, k1⟩
      · exact k1.elim
    | some (.exc c t μ1), h' => exact h'
theorem xe_or {rest : List Expr} (ha : PE X a (tD Z W ga)) (hb : PE X (.BoolOp .Or (b :: rest) pos) (tD Z W gb)) : PE X (.BoolOp .Or (a :: b :: rest) pos) (tD Z W (dOr ga gb)) :=
  pe_imp (pe_or ha hb) fun σ H Q ⟨p, μ, Γ, s, e, h⟩ => by
    obtain ⟨p', μ', Γ', s', e', h'⟩ := tD_bind s e h
    refine ⟨p', μ', Γ', s', e', ?_⟩
    match hg : ga Γ' μ', h' with
    | some (.ok t μ1), h' =>
      intro v H' q hl hs hr
      obtain ⟨q1, μ2, t2, l1, s1, e1, r1, k1⟩ := h' v H' q hl hs hr
      split at k1
      · rename_i k
        cases r1.bl
        refine ⟨k, rfl, ?_⟩
        cases k
        · rw [if_neg Bool.false_ne_true] at k1 ⊢
          exact ⟨q1, μ2, _, s1, e1, k1⟩
        · rw [if_pos rfl] at k1 ⊢
          exact k1 _ _ q1 (Pt.Le.refl q1) s1 (Dx.bl _)
      · exact k1.elim
    | some (.exc c t μ1), h' => exact h'
theorem xe_not (ha : PE X a (tD Z W ga)) : PE X (.UnaryOp .Not a pos) (tD Z W (dNot ga)) :=
  pe_imp (pe_not ha) fun σ H Q h => by
    obtain ⟨p, μ, Γ, s, e, h'⟩ := one h
    refine ⟨p, μ, Γ, s, e, ?_⟩
    match hg : ga Γ μ, h' with
    | some (.ok t μ1), h' =>
      intro v H' q hl hs hr
      obtain ⟨q1, μ2, t2, s1, r1, k1⟩ := h' v H' q hl hs hr
      unfold notV at k1
      split at k1
      · rename_i k
        cases r1.bl
        exact ⟨k, rfl, VPost.flat s1 (Dx.bl _) k1⟩
      · exact k1.elim
    | some (.exc c t μ1), h' => exact h'

/-! a if t else b -/
def dIf (t : Db) (ga gb : De) : De := fun Γ μ => Ot.bind (t Γ μ) fun k μ1 => if k then ga Γ μ1 else gb Γ μ1
theorem xe_if (hc : PT X c (tDB Z W ta)) (ha : PE X a (tD Z W ga)) (hb : PE X b (tD Z W gb)) : PE X (.IfExp c a b pos) (tD Z W (dIf ta ga gb)) :=
  pe_imp (pe_ifExp hc ha hb) fun σ H Q ⟨p, μ, Γ, s, e, h⟩ => by
    obtain ⟨p', μ', Γ', s', e', h'⟩ := tDB_bind s e h
    refine ⟨p', μ', Γ', s', e', ?_⟩
    match hg : ta Γ' μ', h' with
    | some (.ok t μ1), h' =>
      intro H' q hl hs
      obtain ⟨q1, μ2, l1, s1, e1, k1⟩ := h' H' q hl hs
      cases t
      · rw [if_neg Bool.false_ne_true] at k1 ⊢
        exact ⟨q1, μ2, _, s1, e1, k1⟩
      · rw [if_pos rfl] at k1 ⊢
        exact ⟨q1, μ2, _, s1, e1, k1⟩
    | some (.exc c t μ1), h' => exact h'

/-! lists of arguments, displays -/
def aNil : Da := fun _ μ => some (.ok [] μ)
def aCons (g : De) (h : Da) : Da := fun Γ μ => Ot.bind (g Γ μ) fun t μ1 => Ot.bind (h Γ μ1) fun ts μ2 => some (.ok (t :: ts) μ2)
theorem xa_nil : PA X [] (tDA Z W aNil) := pa_imp pa_nil fun σ H Q ⟨p, μ, Γ, s, e, h⟩ => h [] H p (Pt.Le.refl p) s .nil
theorem xa_cons (ha : PE X a (tD Z W ga)) (hr : PA X es (tDA Z W da)) (hs : starEach (a :: es) X.env = (false, eval a X.env) :: starEach es X.env) : PA X (a :: es) (tDA Z W (aCons ga da)) :=
  pa_imp (pa_cons ha hr hs) fun σ H Q ⟨p, μ, Γ, s, e, h⟩ => by
    obtain ⟨p', μ', Γ', s', e', h'⟩ := tD_bindA s e h
    refine ⟨p', μ', Γ', s', e', ?_⟩
    match hg : ga Γ' μ', h' with
    | some (.ok t μ1), h' =>
      intro v H' q hl hs hr
      obtain ⟨q1, μ2, t2, l1, s1, e1, r1, k1⟩ := h' v H' q hl hs hr
      obtain ⟨p3, μ3, Γ3, s3, e3, h3⟩ := tDA_bindA s1 e1 k1
      refine ⟨p3, μ3, Γ3, s3, e3, ?_⟩
      match hg3 : da Γ3 μ3, h3 with
      | some (.ok t4 μ4), h3 =>
        intro v4 H4 q4 hl4 hs4 hr4
        obtain ⟨q5, μ5, t5, l5, s5, e5, r5, k5⟩ := h3 v4 H4 q4 hl4 hs4 hr4
        exact k5 _ _ q5 (Pt.Le.refl q5) s5 (.cons (r1.mono l5) r5)
      | some (.exc c4 t4 μ4), h3 => exact h3
    | some (.exc c t μ1), h' => exact h'
def dLst (live : Bool) (da : Da) : De := fun Γ μ => Ot.bind (da Γ μ) fun ts μ1 => if ts.length ≤ 64 then (newL live μ1 ts).ot else none
def dTup (da : Da) : De := fun Γ μ => Ot.bind (da Γ μ) fun ts μ1 => if ts.length ≤ 64 then (newU μ1 ts).ot else none
theorem small_line {n : Nat} (h : n ≤ 64) : n ≤ sizeLine := Nat.le_trans h (by decide)
theorem xe_lst (live : Bool) (h : PA X es (tDA Z W da)) : PE X (.List es pos) (tD Z W (dLst live da)) :=
  pe_imp (pe_lst h) fun σ H Q ⟨p, μ, Γ, s, e, h⟩ => by
    obtain ⟨p', μ', Γ', s', e', h'⟩ := tDA_bind s e h
    refine ⟨p', μ', Γ', s', e', ?_⟩
    match hg : da Γ' μ', h' with
    | some (.ok t μ1), h' =>
      intro v H' q hl hs hr
      obtain ⟨q1, μ2, t2, l1, s1, e1, r1, k1⟩ := h' v H' q hl hs hr
      split at k1
      · rename_i hz
        exact ⟨by rw [r1.length]; exact small_line hz, fun a n => newL_ok s1 r1 (VPost.post k1) n⟩
      · exact k1.elim
    | some (.exc c t μ1), h' => exact h'
theorem xe_tup {k : Nat} (h : PA X es (tDA Z W da)) : PE X (.Tuple es k pos) (tD Z W (dTup da)) :=
  pe_imp (pe_tup h) fun σ H Q ⟨p, μ, Γ, s, e, h⟩ => by
    obtain ⟨p', μ', Γ', s', e', h'⟩ := tDA_bind s e h
    refine ⟨p', μ', Γ', s', e', ?_⟩
    match hg : da Γ' μ', h' with
    | some (.ok t μ1), h' =>
      intro v H' q hl hs hr
      obtain ⟨q1, μ2, t2, l1, s1, e1, r1, k1⟩ := h' v H' q hl hs hr
      split at k1
      · rename_i hz
        exact ⟨by rw [r1.length]; exact small_line hz, fun a n => newU_ok s1 r1 (VPost.post k1) n⟩
      · exact k1.elim
    | some (.exc c t μ1), h' => exact h'
end
end L3

set_option Elab.async false
set_option linter.all false
set_option maxRecDepth 100000
set_option maxHeartbeats 4000000
/-! L3, eleventh part: slices, built-in functions, methods of lists. -/
namespace L3
open PySem PySem.Spec PyProof.Rows L2

section
variable {X : Cx} {Z : Ent} {W : Wish} {a b c e : Expr} {es : List Expr} {ga gb gc : De} {ta tb : Db} {da : Da} {pos p2 : Pos}

/-! slices -/
/-- a part of a slice: none, or a whole number -/
abbrev Dp3 := Option De
def dPart (g : Dp3) : Gam → Mu → Ot (Option Int) := fun Γ μ => match g with
  | none => some (.ok none μ)
  | some g => Ot.bind (g Γ μ) fun t μ1 => match t with
    | .v _ (.int i) => some (.ok (some i) μ1)
    | _ => none
def dSl (live : Bool) (ga : De) (gl gh : Dp3) : De := fun Γ μ => Ot.bind (ga Γ μ) fun t μ1 => Ot.bind (dPart gl Γ μ1) fun l μ2 => Ot.bind (dPart gh Γ μ2) fun u μ3 => (slV live μ3 t l u).ot
inductive PoD (X : Cx) (Z : Ent) (W : Wish) : Option Expr → Dp3 → Prop
  | none : PoD X Z W none none
  | some {e : Expr} {g : De} : PE X e (tD Z W g) → PoD X Z W (some e) (some g)
/-- a part of a slice is asked -/
theorem po_run {o : Option Expr} {g : Dp3} (h : PoD X Z W o g) : ∃ t : TO, PO X o t ∧ ∀ (σ : L2.St) (H : Hp) (p : Pt) (μ : Mu) (Γ : Gam) (Q : VK) (k : Option Int → Mu → Ot T) (R : Option Int → Hp → Prop), SR Z p H μ → ER Z p σ Γ →
    Post Z W σ Q p (Ot.bind (dPart g Γ μ) k) → (∀ o H1 (q : Pt) (μ1 : Mu), p.Le q → SR Z q H1 μ1 → ER Z q σ Γ → Post Z W σ Q q (k o μ1) → R o H1) → t σ H R := by
  cases h with
  | none => exact ⟨_, po_none, fun σ H p μ Γ Q k R s e h hR => hR none H p μ (Pt.Le.refl p) s e h⟩
  | some he =>
    rename_i e g
    refine ⟨_, po_some he, fun σ H p μ Γ Q k R s er h hR => ?_⟩
    have h' : Post Z W σ Q p (Ot.bind (g Γ μ) fun t μ1 => Ot.bind (match t with | .v _ (.int i) => some (.ok (some i) μ1) | _ => none) k) := by
      have e0 : Ot.bind (dPart (some g) Γ μ) k = Ot.bind (g Γ μ) fun t μ1 => Ot.bind (match t with | .v _ (.int i) => some (.ok (some i) μ1) | _ => none) k := by
        show Ot.bind (Ot.bind (g Γ μ) _) k = _
        cases g Γ μ with
        | none => rfl
        | some r => cases r <;> rfl
      rw [e0] at h
      exact h
    refine ⟨p, μ, Γ, s, er, ?_⟩
    match hg : g Γ μ, h' with
    | some (.ok t μ1), h' =>
      intro v H' q hl hs hr
      have h' : Post Z W σ Q p (Ot.bind (match t with | .v _ (.int i) => some (.ok (some i) μ1) | _ => none) k) := h'
      match t, hr, h' with
      | .v _ (.int i), hr, h' =>
        cases hr.int
        exact ⟨i, rfl, hR (some i) H' q μ1 hl hs (er.mono hl) (Post.le hl h')⟩
      | .v _ .non, _, h' => exact h'.elim
      | .v _ (.bl _), _, h' => exact h'.elim
      | .v _ (.str _), _, h' => exact h'.elim
      | .v _ (.lst _), _, h' => exact h'.elim
      | .v _ (.tup _), _, h' => exact h'.elim
      | .v _ (.obj _ _), _, h' => exact h'.elim
      | .v _ (.dT _ _), _, h' => exact h'.elim
      | .v _ (.scr _), _, h' => exact h'.elim
      | .m _, _, h' => exact h'.elim
    | some (.exc c t μ1), h' => exact h'
theorem xe_sl (hK : X.K = Z.K) (live : Bool) {lo hi : Option Expr} {gl gh : Dp3} (ha : PE X a (tD Z W ga)) (hl : PoD X Z W lo gl) (hh : PoD X Z W hi gh) : PE X (.Subscript a (.Slice lo hi none p2) pos) (tD Z W (dSl live ga gl gh)) := by
  obtain ⟨t1, o1, r1⟩ := po_run hl
  obtain ⟨t2, o2, r2⟩ := po_run hh
  refine pe_imp (pe_slice (sl_V hK live) ha o1 o2) fun σ H Q ⟨p, μ, Γ, s, e, h⟩ => ?_
  obtain ⟨p', μ', Γ', s', e', h'⟩ := tD_bind s e h
  refine ⟨p', μ', Γ', s', e', ?_⟩
  match hg : ga Γ' μ', h' with
  | some (.ok t μ1), h' =>
    intro v H' q hl hs hr
    obtain ⟨q1, μ2, t2, l1, s1, e1, rt, k1⟩ := h' v H' q hl hs hr
    refine r1 σ H' q1 μ2 Γ Q _ _ s1 e1 k1 fun l H1 q2 μ3 l2 s2 e2 k2 => ?_
    refine r2 σ H1 q2 μ3 Γ Q _ _ s2 e2 k2 fun u H2 q3 μ4 l3 s3 e3 k3 => ?_
    exact ⟨q3, μ4, t2, s3, (rt.mono l2).mono l3, VPost.post k3⟩
  | some (.exc c t μ1), h' => exact h'
/-- xs[::-1] -/
def revV (live : Bool) (μ : Mu) (t : T) : Vt := match items μ t with
  | some (true, ts) => newL live μ ts.reverse
  | _ => none
theorem RTs.reverse {p : Pt} {vs : List V} {ts : List T} (h : RTs Z p vs ts) : RTs Z p vs.reverse ts.reverse := by
  induction h with
  | nil => exact .nil
  | cons h t ih => rw [List.reverse_cons, List.reverse_cons]; exact RTs.append ih (.cons h .nil)
theorem xe_rev (hK : X.K = Z.K) (live : Bool) {k : Nat} {q1 q2 q3 : Pos} (ha : PE X a (tD Z W ga)) :
    PE X (.Subscript a (.Slice none none (some (.UnaryOp .USub (.Constant (.int 1) k q1) q2)) q3) pos) (tD Z W (d1 (revV live) ga)) :=
  pe_imp (pe_revL ha) fun σ H Q h => by
    obtain ⟨p, μ, Γ, s, e, h'⟩ := one h
    refine ⟨p, μ, Γ, s, e, ?_⟩
    match hg : ga Γ μ, h' with
    | some (.ok t μ1), h' =>
      intro v H' q hl hs hr
      obtain ⟨q1, μ2, t2, s1, r1, k1⟩ := h' v H' q hl hs hr
      unfold revV at k1
      split at k1
      · rename_i ts hi
        obtain ⟨a, vs, rfl, h1, h2⟩ := items_ok s1 r1 hi
        exact ⟨a, vs, rfl, by rw [hK]; exact h1, fun q n => newL_ok s1 h2.reverse k1 n⟩
      · exact k1.elim
    | some (.exc c t μ1), h' => exact h'

/-! built-in functions, by values -/
def dBi (g : Mu → List T → Vt) (da : Da) : De := fun Γ μ => Ot.bind (da Γ μ) fun ts μ1 => (g μ1 ts).ot
theorem args {g : Mu → List T → Vt} {σ : L2.St} {H : Hp} {Q : VK} (h : tD Z W (dBi g da) σ H Q) : tDA Z W da σ H fun xs H1 => rVs Z g xs H1 Q := by
  obtain ⟨p, μ, Γ, s, e, h⟩ := h
  obtain ⟨p', μ', Γ', s', e', h'⟩ := tDA_bind s e h
  refine ⟨p', μ', Γ', s', e', ?_⟩
  match hg : da Γ' μ', h' with
  | some (.ok t μ1), h' =>
    intro v H' q hl hs hr
    obtain ⟨q1, μ2, t2, l1, s1, e1, r1, k1⟩ := h' v H' q hl hs hr
    exact ⟨q1, μ2, t2, s1, r1, VPost.post k1⟩
  | some (.exc c t μ1), h' => exact h'
theorem xe_bi {id : String} {x : Str} {p : Pos} {g : Mu → List T → Vt} (hc : CallR X (.builtin id) (rVs Z g)) (hg : Gl X x) (hm : X.mg x = none) (hv : bootBuiltins x = some (.builtin id)) (ha : PA X (e :: es) (tDA Z W da))
    (hn : x ≠ "__name__") (hdb : (x == ("__debug__" : Str)) = false) (he : starEach (e :: es) X.env = (false, eval e X.env) :: starEach es X.env) (hpl : (backTo pos (starEach es X.env)).any (·.1) = false) :
    PE X (.Call (.Name x p) (e :: es) [] pos) (tD Z W (dBi g da)) := pe_imp (pe_callB hc hg hm hv ha hn hdb he hpl) fun _ _ _ h => args h
theorem xe_ty {id : String} {x : Str} {p : Pos} {g : Mu → List T → Vt} (hc : CallR X (.type id) (rVs Z g)) (hg : Gl X x) (hm : X.mg x = none) (hv : bootBuiltins x = some (.type id)) (ha : PA X (e :: es) (tDA Z W da))
    (hn : x ≠ "__name__") (hdb : (x == ("__debug__" : Str)) = false) (he : starEach (e :: es) X.env = (false, eval e X.env) :: starEach es X.env) (hpl : (backTo pos (starEach es X.env)).any (·.1) = false) :
    PE X (.Call (.Name x p) (e :: es) [] pos) (tD Z W (dBi g da)) := pe_imp (pe_callTy hc hg hm hv ha hn hdb he hpl) fun _ _ _ h => args h

def lenV (μ : Mu) : List T → Vt
  | [.v _ (.str z)] => if z.length ≤ sizeLine then some (.v true (.int z.length), μ) else none
  | [t] => match items μ t with
    | some (_, ts) => some (.v true (.int ts.length), μ)
    | none => none
  | _ => none
theorem RTs.one {p : Pt} {xs : List V} {t : T} (h : RTs Z p xs [t]) : ∃ v, xs = [v] ∧ RT Z p v t := by
  cases h with
  | cons h g => cases g; exact ⟨_, rfl, h⟩
theorem RTs.two {p : Pt} {xs : List V} {t u : T} (h : RTs Z p xs [t, u]) : ∃ v w, xs = [v, w] ∧ RT Z p v t ∧ RT Z p w u := by
  cases h with
  | cons h g =>
    cases g with
    | cons g k => cases k; exact ⟨_, _, rfl, h, g⟩
theorem seq_of (hK : X.K = Z.K) {H : Hp} {a : Addr} {vs : List V} {b : Bool} (h : if b then SqL Z.K H a vs else SqT Z.K H a vs) : SqL X.K H a vs ∨ SqT X.K H a vs := by
  rw [hK]
  cases b
  · exact .inr h
  · exact .inl h
theorem call_lenV (hK : X.K = Z.K) : CallR X (.builtin "len") (rVs Z lenV) := by
  intro pins s σ H xs us Q I r h
  obtain ⟨p, μ, ts, sr, hx, h⟩ := h
  unfold lenV at h
  split at h
  · rename_i _ z
    obtain ⟨v, rfl, hv⟩ := hx.one
    cases hv.str
    split at h
    · rename_i hz
      exact call_len_str pins s σ H _ us Q I r ⟨z, rfl, hz, VPost.flat sr (Dx.int _) h⟩
    · exact h.elim
  · rename_i t _
    obtain ⟨v, rfl, hv⟩ := hx.one
    split at h
    · rename_i b ts hi
      obtain ⟨a, vs, rfl, h1, h2⟩ := items_ok sr hv hi
      exact call_len_seq pins s σ H _ us Q I r ⟨a, vs, rfl, seq_of hK h1, by rw [h2.length]; exact VPost.flat sr (Dx.int _) h⟩
    · exact h.elim
  · exact h.elim
def listV (live : Bool) (μ : Mu) : List T → Vt
  | [t] => match items μ t with
    | some (_, ts) => newL live μ ts
    | none => none
  | _ => none
theorem call_listV (hK : X.K = Z.K) (live : Bool) : CallR X (.type "list") (rVs Z (listV live)) := by
  intro pins s σ H xs us Q I r h
  obtain ⟨p, μ, ts, sr, hx, h⟩ := h
  unfold listV at h
  split at h
  · rename_i t
    obtain ⟨v, rfl, hv⟩ := hx.one
    split at h
    · rename_i b ts hi
      obtain ⟨a, vs, rfl, h1, h2⟩ := items_ok sr hv hi
      exact call_list_of pins s σ H _ us Q I r ⟨a, vs, rfl, seq_of hK h1, fun l n => newL_ok sr h2 h n⟩
    · exact h.elim
  · exact h.elim
def tupleV (μ : Mu) : List T → Vt
  | [t] => match items μ t with
    | some (true, ts) => newU μ ts
    | some (false, _) => some (t, μ)
    | none => none
  | _ => none
theorem call_tupleV (hK : X.K = Z.K) : CallR X (.type "tuple") (rVs Z tupleV) := by
  intro pins s σ H xs us Q I r h
  obtain ⟨p, μ, ts, sr, hx, h⟩ := h
  unfold tupleV at h
  split at h
  · rename_i t
    obtain ⟨v, rfl, hv⟩ := hx.one
    split at h
    · rename_i ts hi
      obtain ⟨a, vs, rfl, h1, h2⟩ := items_ok sr hv hi
      exact call_tuple_of pins s σ H _ us Q I r ⟨a, vs, rfl, .inl ⟨by rw [hK]; exact h1, fun l n => newU_ok sr h2 h n⟩⟩
    · rename_i ts hi
      obtain ⟨a, vs, rfl, h1, h2⟩ := items_ok sr hv hi
      exact call_tuple_of pins s σ H _ us Q I r ⟨a, vs, rfl, .inr ⟨by rw [hK]; exact h1, h _ H p (Pt.Le.refl p) sr hv⟩⟩
    · exact h.elim
  · exact h.elim
def intsOf : List T → Option (List Int)
  | [] => some []
  | .v _ (.int i) :: r => match intsOf r with
    | some is => some (i :: is)
    | none => none
  | _ => none
theorem intsOf_ok {p : Pt} : ∀ {ts : List T} {vs : List V} {ns : List Int}, intsOf ts = some ns → RTs Z p vs ts → vs = ns.map V.int
  | [], vs, ns, e, h => by cases e; cases h; rfl
  | .v _ (.int i) :: ts, vs, ns, e, h => by
    cases h with
    | cons h1 h2 =>
      unfold intsOf at e
      split at e
      · rename_i is hi
        cases e
        cases h1.int
        rw [intsOf_ok hi h2, List.map_cons]
      · cases e
  | .v _ .non :: _, _, _, e, _ => by cases e
  | .v _ (.bl _) :: _, _, _, e, _ => by cases e
  | .v _ (.str _) :: _, _, _, e, _ => by cases e
  | .v _ (.lst _) :: _, _, _, e, _ => by cases e
  | .v _ (.tup _) :: _, _, _, e, _ => by cases e
  | .v _ (.obj _ _) :: _, _, _, e, _ => by cases e
  | .v _ (.dT _ _) :: _, _, _, e, _ => by cases e
  | .v _ (.scr _) :: _, _, _, e, _ => by cases e
  | .m _ :: _, _, _, e, _ => by cases e
def boolsOf : List T → Option (List Bool)
  | [] => some []
  | .v _ (.bl i) :: r => match boolsOf r with
    | some is => some (i :: is)
    | none => none
  | _ => none
theorem boolsOf_ok {p : Pt} : ∀ {ts : List T} {vs : List V} {ns : List Bool}, boolsOf ts = some ns → RTs Z p vs ts → vs = ns.map V.bl
  | [], vs, ns, e, h => by cases e; cases h; rfl
  | .v _ (.bl i) :: ts, vs, ns, e, h => by
    cases h with
    | cons h1 h2 =>
      unfold boolsOf at e
      split at e
      · rename_i is hi
        cases e
        cases h1.bl
        rw [boolsOf_ok hi h2, List.map_cons]
      · cases e
  | .v _ .non :: _, _, _, e, _ => by cases e
  | .v _ (.int _) :: _, _, _, e, _ => by cases e
  | .v _ (.str _) :: _, _, _, e, _ => by cases e
  | .v _ (.lst _) :: _, _, _, e, _ => by cases e
  | .v _ (.tup _) :: _, _, _, e, _ => by cases e
  | .v _ (.obj _ _) :: _, _, _, e, _ => by cases e
  | .v _ (.dT _ _) :: _, _, _, e, _ => by cases e
  | .v _ (.scr _) :: _, _, _, e, _ => by cases e
  | .m _ :: _, _, _, e, _ => by cases e
/-- a built-in function of one list of ints, of bools -/
def onInts (g : List Int → Option Int) (μ : Mu) : List T → Vt
  | [t] => match items μ t with
    | some (true, ts) => match intsOf ts with
      | some ns => match g ns with
        | some k => some (.v true (.int k), μ)
        | none => none
      | none => none
    | _ => none
  | _ => none
def onBools (g : List Bool → Bool) (μ : Mu) : List T → Vt
  | [t] => match items μ t with
    | some (true, ts) => match boolsOf ts with
      | some ns => some (.v true (.bl (g ns)), μ)
      | none => none
    | _ => none
  | _ => none
theorem onInts_ok (hK : X.K = Z.K) {id : String} {g : List Int → Option Int} (h0 : CallR X (.builtin id) (fun vs H Q => ∃ (a : Addr) (ns : List Int) (k : Int), vs = [.ref a] ∧ SqL X.K H a (ns.map V.int) ∧ g ns = some k ∧ Q (.int k) H)) :
    CallR X (.builtin id) (rVs Z (onInts g)) := by
  intro pins s σ H xs us Q I r h
  obtain ⟨p, μ, ts, sr, hx, h⟩ := h
  unfold onInts at h
  split at h
  · rename_i t
    obtain ⟨v, rfl, hv⟩ := hx.one
    split at h
    · rename_i ts hi
      split at h
      · rename_i ns hn
        split at h
        · rename_i k hk
          obtain ⟨a, vs, rfl, h1, h2⟩ := items_ok sr hv hi
          have e := intsOf_ok hn h2
          subst e
          exact h0 pins s σ H _ us Q I r ⟨a, ns, k, rfl, by rw [hK]; exact h1, hk, VPost.flat sr (Dx.int _) h⟩
        · exact h.elim
      · exact h.elim
    · exact h.elim
  · exact h.elim
theorem onBools_ok (hK : X.K = Z.K) {id : String} {g : List Bool → Bool} (h0 : CallR X (.builtin id) (fun vs H Q => ∃ (a : Addr) (bs : List Bool), vs = [.ref a] ∧ SqL X.K H a (bs.map V.bl) ∧ Q (.bl (g bs)) H)) :
    CallR X (.builtin id) (rVs Z (onBools g)) := by
  intro pins s σ H xs us Q I r h
  obtain ⟨p, μ, ts, sr, hx, h⟩ := h
  unfold onBools at h
  split at h
  · rename_i t
    obtain ⟨v, rfl, hv⟩ := hx.one
    split at h
    · rename_i ts hi
      split at h
      · rename_i ns hn
        obtain ⟨a, vs, rfl, h1, h2⟩ := items_ok sr hv hi
        have e := boolsOf_ok hn h2
        subst e
        exact h0 pins s σ H _ us Q I r ⟨a, ns, rfl, by rw [hK]; exact h1, VPost.flat sr (Dx.bl _) h⟩
      · exact h.elim
    · exact h.elim
  · exact h.elim
def maxI : List Int → Option Int
  | [] => none
  | [x] => some x
  | x :: y :: r => match maxI (y :: r) with
    | some m => some (if x ≤ m then m else x)
    | none => none
def minI : List Int → Option Int
  | [] => none
  | [x] => some x
  | x :: y :: r => match minI (y :: r) with
    | some m => some (if m ≤ x then m else x)
    | none => none
theorem maxI_ok : ∀ {ns : List Int} {k : Int}, maxI ns = some k → k ∈ ns ∧ ∀ y ∈ ns, y ≤ k
  | [], _, h => by cases h
  | [x], k, h => by cases h; simp
  | x :: y :: r, k, h => by
    unfold maxI at h
    split at h
    · rename_i m hm
      obtain ⟨h1, h2⟩ := maxI_ok hm
      have h := Option.some.inj h
      split at h
      · subst h
        exact ⟨List.mem_cons_of_mem _ h1, fun z hz => (List.mem_cons.mp hz).elim (fun e => by rw [e]; assumption) (h2 z)⟩
      · subst h
        refine ⟨List.mem_cons_self, fun z hz => (List.mem_cons.mp hz).elim (fun e => by rw [e]; exact Int.le_refl _) (fun e => ?_)⟩
        have := h2 z e
        omega
    · cases h
theorem minI_ok : ∀ {ns : List Int} {k : Int}, minI ns = some k → k ∈ ns ∧ ∀ y ∈ ns, k ≤ y
  | [], _, h => by cases h
  | [x], k, h => by cases h; simp
  | x :: y :: r, k, h => by
    unfold minI at h
    split at h
    · rename_i m hm
      obtain ⟨h1, h2⟩ := minI_ok hm
      have h := Option.some.inj h
      split at h
      · subst h
        exact ⟨List.mem_cons_of_mem _ h1, fun z hz => (List.mem_cons.mp hz).elim (fun e => by rw [e]; assumption) (h2 z)⟩
      · subst h
        refine ⟨List.mem_cons_self, fun z hz => (List.mem_cons.mp hz).elim (fun e => by rw [e]; exact Int.le_refl _) (fun e => ?_)⟩
        have := h2 z e
        omega
    · cases h
theorem call_sumV (hK : X.K = Z.K) (hc : X.calm = true) : CallR X (.builtin "sum") (rVs Z (onInts fun ns => some ns.sum)) :=
  onInts_ok hK fun pins s σ H xs us Q I r ⟨a, ns, k, e, h1, h2, q⟩ => cr_sum hc pins s σ H xs us Q I r ⟨a, ns, e, h1, by rw [Option.some.inj h2]; exact q⟩
theorem call_maxV (hK : X.K = Z.K) (hc : X.calm = true) : CallR X (.builtin "max") (rVs Z (onInts maxI)) :=
  onInts_ok hK fun pins s σ H xs us Q I r ⟨a, ns, k, e, h1, h2, q⟩ => cr_max hc pins s σ H xs us Q I r ⟨a, ns, e, h1, List.length_pos_of_mem (maxI_ok h2).1, fun m hm hle => by
    obtain ⟨k1, k2⟩ := maxI_ok h2
    have : m = k := by have := k2 m hm; have := hle k k1; omega
    subst this; exact q⟩
theorem call_minV (hK : X.K = Z.K) (hc : X.calm = true) : CallR X (.builtin "min") (rVs Z (onInts minI)) :=
  onInts_ok hK fun pins s σ H xs us Q I r ⟨a, ns, k, e, h1, h2, q⟩ => cr_min hc pins s σ H xs us Q I r ⟨a, ns, e, h1, List.length_pos_of_mem (minI_ok h2).1, fun m hm hle => by
    obtain ⟨k1, k2⟩ := minI_ok h2
    have : m = k := by have := k2 m hm; have := hle k k1; omega
    subst this; exact q⟩
theorem call_anyV (hK : X.K = Z.K) (hc : X.calm = true) : CallR X (.builtin "any") (rVs Z (onBools fun bs => bs.any id)) :=
  onBools_ok hK fun pins s σ H xs us Q I r ⟨a, bs, e, h1, q⟩ => cr_any hc pins s σ H xs us Q I r ⟨a, bs, e, h1, q⟩
theorem call_allV (hK : X.K = Z.K) (hc : X.calm = true) : CallR X (.builtin "all") (rVs Z (onBools fun bs => bs.all id)) :=
  onBools_ok hK fun pins s σ H xs us Q I r ⟨a, bs, e, h1, q⟩ => cr_all hc pins s σ H xs us Q I r ⟨a, bs, e, h1, q⟩
/-- max, min of two; abs; int -/
def max2V (μ : Mu) : List T → Vt
  | [.v _ (.int i), .v _ (.int j)] => some (.v true (.int (if j > i then j else i)), μ)
  | _ => none
def min2V (μ : Mu) : List T → Vt
  | [.v _ (.int i), .v _ (.int j)] => some (.v true (.int (if j < i then j else i)), μ)
  | _ => none
def absV (μ : Mu) : List T → Vt
  | [.v _ (.int i)] => some (.v true (.int (if i < 0 then -i else i)), μ)
  | _ => none
def intV (μ : Mu) : List T → Vt
  | [.v _ (.int i)] => some (.v true (.int i), μ)
  | [.v _ (.bl k)] => some (.v true (.int (if k then 1 else 0)), μ)
  | _ => none
theorem call_max2V (hc : X.calm = true) : CallR X (.builtin "max") (rVs Z max2V) := by
  intro pins s σ H xs us Q I r h
  obtain ⟨p, μ, ts, sr, hx, h⟩ := h
  unfold max2V at h
  split at h
  · obtain ⟨v, w, rfl, h1, h2⟩ := hx.two
    cases h1.int
    cases h2.int
    exact call_max2 hc pins s σ H _ us Q I r ⟨_, _, rfl, VPost.flat sr (Dx.int _) h⟩
  · exact h.elim
theorem call_min2V (hc : X.calm = true) : CallR X (.builtin "min") (rVs Z min2V) := by
  intro pins s σ H xs us Q I r h
  obtain ⟨p, μ, ts, sr, hx, h⟩ := h
  unfold min2V at h
  split at h
  · obtain ⟨v, w, rfl, h1, h2⟩ := hx.two
    cases h1.int
    cases h2.int
    exact call_min2 hc pins s σ H _ us Q I r ⟨_, _, rfl, VPost.flat sr (Dx.int _) h⟩
  · exact h.elim
theorem call_absV : CallR X (.builtin "abs") (rVs Z absV) := by
  intro pins s σ H xs us Q I r h
  obtain ⟨p, μ, ts, sr, hx, h⟩ := h
  unfold absV at h
  split at h
  · obtain ⟨v, rfl, h1⟩ := hx.one
    cases h1.int
    exact call_abs pins s σ H _ us Q I r ⟨_, rfl, VPost.flat sr (Dx.int _) h⟩
  · exact h.elim
theorem call_intV : CallR X (.type "int") (rVs Z intV) := by
  intro pins s σ H xs us Q I r h
  obtain ⟨p, μ, ts, sr, hx, h⟩ := h
  unfold intV at h
  split at h
  · obtain ⟨v, rfl, h1⟩ := hx.one
    cases h1.int
    exact call_int1 pins s σ H _ us Q I r (.inl ⟨_, rfl, VPost.flat sr (Dx.int _) h⟩)
  · obtain ⟨v, rfl, h1⟩ := hx.one
    cases h1.bl
    exact call_int1 pins s σ H _ us Q I r (.inr ⟨_, rfl, VPost.flat sr (Dx.int _) h⟩)
  · exact h.elim
end
end L3

set_option Elab.async false
set_option linter.all false
set_option maxRecDepth 100000
set_option maxHeartbeats 4000000
/-! L3, twelfth part: methods of lists, repr, sorted. -/
namespace L3
open PySem PySem.Spec PyProof.Rows L2

section
variable {X : Cx} {Z : Ent} {W : Wish} {a b c e : Expr} {es : List Expr} {ga gb gc : De} {ta tb : Db} {da : Da} {pos cpos apos : Pos}

/-! methods, by values: the list that the receiver is -/
abbrev Mv := Mu → T → List T → Vt
def dMt (g : Mv) (go : De) (da : Da) : De := fun Γ μ => Ot.bind (go Γ μ) fun t μ1 => if (items μ1 t).any (·.1) then Ot.bind (da Γ μ1) fun ts μ2 => (g μ2 t ts).ot else none
def rMt (Z : Ent) (g : Mv) : V → List V → Hp → VK → Prop := fun x xs H Q => ∃ (p : Pt) (μ : Mu) (t : T) (ts : List T), SR Z p H μ ∧ RT Z p x t ∧ RTs Z p xs ts ∧ VPost Z Q p (g μ t ts)
theorem tyV_list (hK : X.K = Z.K) {p : Pt} {H : Hp} {μ : Mu} {t : T} {v : V} (s : SR Z p H μ) (r : RT Z p v t) (h : (items μ t).any (·.1) = true) : tyV X.K "list" v H := by
  cases e : items μ t with
  | none => rw [e] at h; cases h
  | some bt =>
    obtain ⟨b, ts⟩ := bt
    rw [e] at h
    have hb : b = true := h
    subst hb
    obtain ⟨a, vs, rfl, h1, _⟩ := items_ok s r e
    exact .inl ⟨rfl, vs, by rw [hK]; exact h1⟩
theorem xe_mt {name : Str} {id : String} {g : Mv} (hK : X.K = Z.K) (slot : Slot "list" name id) (hty : typeOf (.builtin id) = pure (.type "method_descriptor")) (hm : MtR X id (rMt Z g)) (ho : PE X a (tD Z W ga)) (ha : PA X (e :: es) (tDA Z W da))
    (hbase : attributeBase a name X.env (eval a X.env) = eval a X.env) (hline : (apos.endLine == cpos.line) = true) (hs : starEach (e :: es) X.env = (false, eval e X.env) :: starEach es X.env)
    (hfew : ((backTo cpos (starEach (e :: es) X.env)).all (fun x => !x.1) && (backToKw cpos (keywordEach [] X.env)).all (fun x => x.1.isSome)
      && decide ((e :: es).length + ([] : List Keyword).length + (if ([] : List Keyword).isEmpty then 0 else 1) < 30)) = true)
    (hplain : (backTo cpos (starEach es X.env)).any (·.1) = false) : PE X (.Call (.Attribute a name apos) (e :: es) [] cpos) (tD Z W (dMt g ga da)) :=
  pe_imp (pe_bm PySem.F.plainAttrs_list slot hty hm ho ha hbase hfew hline hs hplain) fun σ H Q ⟨p, μ, Γ, s, er, h⟩ => by
    obtain ⟨p', μ', Γ', s', e', h'⟩ := tD_bind s er h
    refine ⟨p', μ', Γ', s', e', ?_⟩
    match hg : ga Γ' μ', h' with
    | some (.ok t μ1), h' =>
      intro v H' q hl hs hr
      obtain ⟨q1, μ2, t2, l1, s1, e1, r1, k1⟩ := h' v H' q hl hs hr
      split at k1
      · rename_i hlst
        refine ⟨tyV_list hK s1 r1 hlst, ?_⟩
        obtain ⟨p3, μ3, Γ3, s3, e3, h3⟩ := tDA_bind s1 e1 k1
        refine ⟨p3, μ3, Γ3, s3, e3, ?_⟩
        match hg3 : da Γ3 μ3, h3 with
        | some (.ok t4 μ4), h3 =>
          intro v4 H4 q4 hl4 hs4 hr4
          obtain ⟨q5, μ5, t5, l5, s5, e5, r5, k5⟩ := h3 v4 H4 q4 hl4 hs4 hr4
          exact ⟨q5, μ5, t2, t5, s5, r1.mono l5, r5, VPost.post k5⟩
        | some (.exc c4 t4 μ4), h3 => exact h3
      · exact k1.elim
    | some (.exc c t μ1), h' => exact h'
theorem xe_mt0 {name : Str} {id : String} {g : Mv} (hK : X.K = Z.K) (slot : Slot "list" name id) (hty : typeOf (.builtin id) = pure (.type "method_descriptor")) (hm : MtR X id (rMt Z g)) (ho : PE X a (tD Z W ga))
    (hbase : attributeBase a name X.env (eval a X.env) = eval a X.env) (hline : (apos.endLine == cpos.line) = true) : PE X (.Call (.Attribute a name apos) [] [] cpos) (tD Z W (dMt g ga aNil)) :=
  pe_imp (pe_bm0 PySem.F.plainAttrs_list slot hty hm ho hbase hline) fun σ H Q ⟨p, μ, Γ, s, er, h⟩ => by
    obtain ⟨p', μ', Γ', s', e', h'⟩ := tD_bind s er h
    refine ⟨p', μ', Γ', s', e', ?_⟩
    match hg : ga Γ' μ', h' with
    | some (.ok t μ1), h' =>
      intro v H' q hl hs hr
      obtain ⟨q1, μ2, t2, l1, s1, e1, r1, k1⟩ := h' v H' q hl hs hr
      split at k1
      · rename_i hlst
        have k1 : Post Z W σ Q q1 (g μ2 t2 []).ot := k1
        exact ⟨tyV_list hK s1 r1 hlst, q1, μ2, t2, [], s1, r1, .nil, VPost.post k1⟩
      · exact k1.elim
    | some (.exc c t μ1), h' => exact h'

/-- a living list and what it holds -/
def cellOf (μ : Mu) : T → Option (Nat × List T)
  | .m j => match μ[j]? with
    | some (.lst ts) => some (j, ts)
    | _ => none
  | _ => none
theorem cellOf_ok {p : Pt} {H : Hp} {μ : Mu} {t : T} {v : V} {j : Nat} {ts : List T} (s : SR Z p H μ) (r : RT Z p v t) (h : cellOf μ t = some (j, ts)) :
    ∃ a vs, v = .ref a ∧ p.ms[j]? = some a ∧ μ[j]? = some (.lst ts) ∧ H a = some (.lst vs) ∧ RTs Z p vs ts := by
  match t, r, h with
  | .m i, ⟨a, h1, h2⟩, h =>
    simp only [cellOf] at h
    cases hc : μ[i]? with
    | none => rw [hc] at h; cases h
    | some c =>
      rw [hc] at h
      cases c with
      | lst ts' =>
        cases h
        obtain ⟨vs, h3, h4⟩ := s.cell _ a _ h1 hc
        exact ⟨a, vs, h2, h1, hc, h3, h4⟩
      | obj _ _ => cases h
      | dT _ _ => cases h
      | dK _ _ => cases h
      | frz _ _ => cases h
      | hid => cases h
      | tup _ => cases h
  | .v _ _, _, h => cases h
/-- the list is written -/
theorem put_lst {p : Pt} {H : Hp} {μ : Mu} {j : Nat} {a : Addr} {ts us : List T} {ws : List V} {Q : VK} {v : V} {t : T} (s : SR Z p H μ) (h1 : p.ms[j]? = some a) (h2 : μ[j]? = some (.lst ts)) (r : RTs Z p ws us) (rv : RT Z p v t)
    (h : VPost Z Q p (some (t, μ.set j (.lst us)))) : Q v (upd H a (.lst ws)) :=
  h v _ p (Pt.Le.refl p) (s.write h1 h2 rfl rfl ⟨ws, upd_same, r⟩) rv
def appV : Mv := fun μ t ts => match cellOf μ t, ts with
  | some (j, us), [x] => if us.length < sizeLine then some (.v true .non, μ.set j (.lst (us ++ [x]))) else none
  | _, _ => none
theorem mt_app : MtR X "list.append" (rMt Z appV) := by
  intro pins s σ H x xs v us Q I rx rxs h
  obtain ⟨p, μ, t, ts, sr, hx, hxs, h⟩ := h
  unfold appV at h
  split at h
  · rename_i j us x hc
    obtain ⟨a, vs, rfl, h1, h2, h3, h4⟩ := cellOf_ok sr hx hc
    obtain ⟨w, rfl, hw⟩ := hxs.one
    split at h
    · rename_i hz
      exact mt_append pins s σ H _ _ v _ Q I rx rxs ⟨a, vs, w, rfl, rfl, h3, by rw [h4.length]; exact hz, put_lst sr h1 h2 (h4.append (.cons hw .nil)) (show RT Z p V.non (.v true .non) from Dx.non) h⟩
    · exact h.elim
  · exact h.elim
def extV : Mv := fun μ t ts => match cellOf μ t, ts with
  | some (j, us), [x] => match itemsP μ x with
    | some (true, ws) => if us.length + ws.length ≤ sizeLine then some (.v true .non, μ.set j (.lst (us ++ ws))) else none
    | _ => none
  | _, _ => none
theorem mt_ext : MtR X "list.extend" (rMt Z extV) := by
  intro pins s σ H x xs v us Q I rx rxs h
  obtain ⟨p, μ, t, ts, sr, hx, hxs, h⟩ := h
  unfold extV at h
  split at h
  · rename_i j us x hc
    obtain ⟨a, vs, rfl, h1, h2, h3, h4⟩ := cellOf_ok sr hx hc
    obtain ⟨w, rfl, hw⟩ := hxs.one
    split at h
    · rename_i ws hi
      split at h
      · rename_i hz
        obtain ⟨b, zs, rfl, k1, k2⟩ := itemsP_ok sr hw hi
        exact mt_extend pins s σ H _ _ v _ Q I rx rxs ⟨a, b, vs, zs, rfl, rfl, h3, k1, by rw [h4.length, k2.length]; exact hz, put_lst sr h1 h2 (h4.append k2) (show RT Z p V.non (.v true .non) from Dx.non) h⟩
      · exact h.elim
    · exact h.elim
  · exact h.elim
theorem RTs.eraseIdx {p : Pt} : ∀ {vs : List V} {ts : List T} (i : Nat), RTs Z p vs ts → RTs Z p (vs.eraseIdx i) (ts.eraseIdx i)
  | _, _, _, .nil => .nil
  | _, _, 0, .cons _ g => g
  | _, _, i + 1, .cons h g => .cons h (RTs.eraseIdx i g)
def popV : Mv := fun μ t ts => match cellOf μ t, ts with
  | some (j, us), [.v _ (.int i)] => if 0 ≤ i ∧ i < 2 ^ 63 then match us[i.toNat]? with
    | some x => some (x, μ.set j (.lst (us.eraseIdx i.toNat)))
    | none => none
    else none
  | _, _ => none
theorem mt_popV : MtR X "list.pop" (rMt Z popV) := by
  intro pins s σ H x xs v us Q I rx rxs h
  obtain ⟨p, μ, t, ts, sr, hx, hxs, h⟩ := h
  unfold popV at h
  split at h
  · rename_i j us _ i hc
    obtain ⟨a, vs, rfl, h1, h2, h3, h4⟩ := cellOf_ok sr hx hc
    obtain ⟨w, rfl, hw⟩ := hxs.one
    cases hw.int
    split at h
    · rename_i hi
      split at h
      · rename_i y hy
        obtain ⟨z, k1, k2⟩ := h4.get hy
        refine mt_popAt pins s σ H _ _ v _ Q I rx rxs ⟨a, vs, i, i.toNat, z, rfl, rfl, h3, by omega, hi.2, ?_, k1, put_lst sr h1 h2 (h4.eraseIdx _) k2 h⟩
        have hl := (List.getElem?_eq_some_iff.mp k1).1
        exact seqIndex_of hi.1 (by omega)
      · exact h.elim
    · exact h.elim
  · exact h.elim
def clrV : Mv := fun μ t ts => match cellOf μ t, ts with
  | some (j, us), [] => some (.v true .non, μ.set j (.lst []))
  | _, _ => none
theorem mt_clr : MtR X "list.clear" (rMt Z clrV) := by
  intro pins s σ H x xs v us Q I rx rxs h
  obtain ⟨p, μ, t, ts, sr, hx, hxs, h⟩ := h
  unfold clrV at h
  split at h
  · rename_i j us hc
    obtain ⟨a, vs, rfl, h1, h2, h3, h4⟩ := cellOf_ok sr hx hc
    cases hxs
    exact mt_clear pins s σ H _ _ v _ Q I rx rxs ⟨a, vs, rfl, rfl, h3, put_lst sr h1 h2 .nil (show RT Z p V.non (.v true .non) from Dx.non) h⟩
  · exact h.elim
def rvsV : Mv := fun μ t ts => match cellOf μ t, ts with
  | some (j, us), [] => some (.v true .non, μ.set j (.lst us.reverse))
  | _, _ => none
theorem mt_rvs : MtR X "list.reverse" (rMt Z rvsV) := by
  intro pins s σ H x xs v us Q I rx rxs h
  obtain ⟨p, μ, t, ts, sr, hx, hxs, h⟩ := h
  unfold rvsV at h
  split at h
  · rename_i j us hc
    obtain ⟨a, vs, rfl, h1, h2, h3, h4⟩ := cellOf_ok sr hx hc
    cases hxs
    exact mt_reverse pins s σ H _ _ v _ Q I rx rxs ⟨a, vs, rfl, rfl, h3, put_lst sr h1 h2 h4.reverse (show RT Z p V.non (.v true .non) from Dx.non) h⟩
  · exact h.elim
/-- the first place of an equal one -/
def firstEq (d : PyData) : List PyData → Option Nat
  | [] => none
  | z :: zs => if PyData.eqv z d then some 0 else (firstEq d zs).map (· + 1)
theorem firstEq_ok {d : PyData} : ∀ {zs : List PyData} {j : Nat}, firstEq d zs = some j → ∃ z, zs[j]? = some z ∧ PyData.eqv z d = true ∧ ∀ (m : Nat) (z' : PyData), m < j → zs[m]? = some z' → PyData.eqv z' d = false
  | [], _, h => by cases h
  | z :: zs, j, h => by
    unfold firstEq at h
    split at h
    · rename_i hz
      cases h
      exact ⟨z, rfl, hz, fun m _ hm => absurd hm (Nat.not_lt_zero _)⟩
    · rename_i hz
      cases hj : firstEq d zs with
      | none => rw [hj] at h; cases h
      | some i =>
        rw [hj] at h
        cases h
        obtain ⟨z', h1, h2, h3⟩ := firstEq_ok hj
        refine ⟨z', h1, h2, fun m y hm hy => ?_⟩
        cases m with
        | zero =>
          simp at hy
          subst hy
          exact Bool.not_eq_true _ ▸ hz
        | succ m => exact h3 m y (Nat.lt_of_succ_lt_succ hm) (by simpa using hy)
def idxV : Mv := fun μ t ts => match ts with
  | [x] => match deep DEEP μ t, deep DEEP μ x with
    | some (.lst ys), some d => match D.pys ys, d.py with
      | some es, some e => if SeqAt.shaped (.list es) && SeqAt.shaped e then match firstEq e es with
        | some j => some (.v true (.int (j : Nat)), μ)
        | none => none
        else none
      | _, _ => none
    | _, _ => none
  | _ => none
theorem Dx.ref_of {K : PySem.W.Frag} {TB : Tab} {H : Hp} {v : V} {ds : List D} (h : Dx K TB H v (.lst ds)) : ∃ a, v = .ref a := by cases h; exact ⟨_, rfl⟩
theorem mt_idx (hK : X.K = Z.K) (hu : X.A.units + 65 < cLine) : MtR X "list.index" (rMt Z idxV) := by
  intro pins s σ H x xs v us Q I rx rxs h
  obtain ⟨p, μ, t, ts, sr, hx, hxs, h⟩ := h
  unfold idxV at h
  split at h
  · rename_i y
    obtain ⟨w, rfl, hw⟩ := hxs.one
    split at h
    · rename_i ys d h1 h2
      split at h
      · rename_i es e p1 p2
        split at h
        · rename_i hsh
          rw [Bool.and_eq_true_iff] at hsh
          split at h
          · rename_i j hj
            obtain ⟨z, k1, k2, k3⟩ := firstEq_ok hj
            have q1 := deep_ok sr hx h1
            obtain ⟨a, rfl⟩ := q1.ref_of
            have p1' : D.py (.lst ys) = some (.list es) := by unfold D.py; rw [p1]
            have q1 := Dx.py _ q1 p1'
            have q2 := Dx.py d (deep_ok sr hw h2) p2
            rw [← hK] at q1 q2
            exact mt_indexD hu pins s σ H _ _ v _ Q I rx rxs ⟨a, w, e, es, j, z, rfl, rfl, q1, q2, hsh.1, hsh.2, k1, k2, k3, VPost.flat sr (Dx.int _) h⟩
          · exact h.elim
        · exact h.elim
      · exact h.elim
    · exact h.elim
  · exact h.elim

/-! repr -/
mutual
theorem D.py_nodict : ∀ (d : D) {e : PyData}, d.py = some e → e.hasDict = false
  | .non, _, h => by simp only [D.py] at h; cases h; simp only [PyData.hasDict]
  | .bl _, _, h => by simp only [D.py] at h; cases h; simp only [PyData.hasDict]
  | .int _, _, h => by simp only [D.py] at h; cases h; simp only [PyData.hasDict]
  | .str _, _, h => by simp only [D.py] at h; cases h; simp only [PyData.hasDict]
  | .lst xs, _, h => by
    unfold D.py at h
    split at h
    · rename_i ds hd
      cases h
      simp only [PyData.hasDict]
      exact D.pys_nodict xs hd
    · cases h
  | .tup xs, _, h => by
    unfold D.py at h
    split at h
    · rename_i ds hd
      cases h
      simp only [PyData.hasDict]
      exact D.pys_nodict xs hd
    · cases h
  | .obj _ _, _, h => by unfold D.py at h; cases h
  | .dT _ _, _, h => by unfold D.py at h; cases h
  | .scr ns, _, h => by
    unfold D.py at h; cases h
    simp only [PyData.hasDict]
    exact ints_nodict ns
theorem D.pys_nodict : ∀ (ds : List D) {es : List PyData}, D.pys ds = some es → PyData.hasDictAll es = false
  | [], _, h => by simp only [D.pys] at h; cases h; simp only [PyData.hasDictAll]
  | d :: ds, _, h => by
    unfold D.pys at h
    split at h
    · rename_i e es h1 h2
      cases h
      simp only [PyData.hasDictAll, D.py_nodict d h1, D.pys_nodict ds h2, Bool.or_self]
    · cases h
theorem ints_nodict : ∀ ns : List Int, PyData.hasDictAll (ns.map PyData.int) = false
  | [] => by simp only [List.map_nil, PyData.hasDictAll]
  | _ :: ns => by simp only [List.map_cons, PyData.hasDictAll, PyData.hasDict, ints_nodict ns, Bool.or_self]
end
/-- the text, and what repr asks -/
def reprS : PyData → Option Str
  | .none => some "None"
  | .bool k => some (if k then "True" else "False")
  | .list zs => if PyData.showable (.list zs) = true ∧ PyData.depth (.list zs) ≤ 64 ∧ (PyData.shown (.list zs)).length ≤ sizeLine then some (PyData.shown (.list zs)) else none
  | .tuple zs => if PyData.showable (.tuple zs) = true ∧ PyData.depth (.tuple zs) ≤ 64 ∧ (PyData.shown (.tuple zs)).length ≤ sizeLine then some (PyData.shown (.tuple zs)) else none
  | _ => none
def reprV (μ : Mu) : List T → Vt
  | [t] => match deep DEEP μ t with
    | some d => match d.py with
      | some e => match reprS e with
        | some z => some (.v true (.str z), μ)
        | none => none
      | none => none
    | none => none
  | _ => none
theorem call_reprV (hK : X.K = Z.K) (hg : X.A.guards = some []) (hu : X.A.units + 65 < cLine) : CallR X (.builtin "repr") (rVs Z reprV) := by
  intro pins s σ H xs us Q I r h
  obtain ⟨p, μ, ts, sr, hx, h⟩ := h
  unfold reprV at h
  split at h
  · rename_i t
    obtain ⟨v, rfl, hv⟩ := hx.one
    obtain ⟨u, rfl, ru⟩ := vals1 r
    split at h
    · rename_i d hd
      split at h
      · rename_i e he
        split at h
        · rename_i z hz
          have q : Q (.str z) H := VPost.flat sr (Dx.str _) h
          have q1 := Dx.py d (deep_ok sr hv hd) he
          rw [← hK] at q1
          obtain ⟨as, rd⟩ := Dp.reads I e v u q1 ru
          have nd := D.py_nodict d he
          cases q1 with
          | non =>
            cases ru
            cases hz
            exact PySem.P.repr_of_none ⟨.str "None", H, I.kept (fun _ _ z => z), ⟨_, rfl⟩, q⟩
          | bl b => 
            cases ru
            cases hz
            exact PySem.P.repr_of_bool ⟨.str (if b then "True" else "False"), H, I.kept (fun _ _ z => z), ⟨_, rfl⟩, q⟩
          | int i => cases hz
          | str z => cases hz
          | lst hs ha =>
            cases ru
            simp only [reprS] at hz
            split at hz
            · rename_i ok
              cases hz
              obtain ⟨o1, o2, o3⟩ := ok
              refine repr_of_reads' rd o1 (fun z => by rw [nd] at z; cases z) hg (by omega) (fun _ _ z => z) (fun h' u' tk k => ?_) o3
              exact ⟨.str _, H, I.kept (t' := tk) k, ⟨_, rfl⟩, q⟩
            · cases hz
          | tup hs ha =>
            cases ru
            simp only [reprS] at hz
            split at hz
            · rename_i ok
              cases hz
              obtain ⟨o1, o2, o3⟩ := ok
              refine repr_of_reads' rd o1 (fun z => by rw [nd] at z; cases z) hg (by omega) (fun _ _ z => z) (fun h' u' tk k => ?_) o3
              exact ⟨.str _, H, I.kept (t' := tk) k, ⟨_, rfl⟩, q⟩
            · cases hz
        · exact h.elim
      · exact h.elim
    · exact h.elim
  · exact h.elim
end
end L3

set_option Elab.async false
set_option linter.all false
set_option maxRecDepth 100000
set_option maxHeartbeats 4000000
/-! L3, thirteenth part: what is walked, where it goes, comprehensions. -/
namespace L3
open PySem PySem.Spec PyProof.Rows L2

/-- what is walked; n: how often -/
inductive ItV where
  | seq (b : Bool) (t : T) (n : Nat)
  | rng (lo : Int) (n : Nat)
  | rngR (lo : Int) (n : Nat)
  | rev (b : Bool) (t : T) (n : Nat)
  | enum (t : T) (n : Nat)
  | zip (b : Bool) (t u : T) (n m : Nat)
  | txt (z : Str)
/-- what comes: a value, a new pair -/
inductive Yl where
  | one (t : T)
  | two (t u : T)
def itemsN (b : Bool) (n : Nat) (μ : Mu) (t : T) : Option (List T) := match items μ t with
  | some (b', ts) => if b' = b ∧ ts.length = n then some ts else none
  | none => none
theorem itemsN_ok {Z : Ent} {p : Pt} {H : Hp} {μ : Mu} {b : Bool} {n : Nat} {t : T} {ts : List T} {v : V} (s : SR Z p H μ) (r : RT Z p v t) (h : itemsN b n μ t = some ts) :
    ∃ a vs, v = .ref a ∧ (if b then SqL Z.K H a vs else SqT Z.K H a vs) ∧ RTs Z p vs ts ∧ ts.length = n := by
  unfold itemsN at h
  split at h
  · rename_i b' ts' e
    split at h
    · rename_i hc
      obtain ⟨rfl, hl⟩ := hc
      cases h
      obtain ⟨a, vs, h1, h2, h3⟩ := items_ok s r e
      exact ⟨a, vs, h1, h2, h3, hl⟩
    · cases h
  · cases h
def ItV.len : ItV → Nat
  | .seq _ _ n => n
  | .rng _ n => n
  | .rngR _ n => n
  | .rev _ _ n => n
  | .enum _ n => n
  | .zip _ _ _ n m => min n m
  | .txt z => z.cps.size
def ItV.ok (μ : Mu) : ItV → Bool
  | .seq b t n => (itemsN b n μ t).isSome
  | .rng _ _ => true
  | .rngR _ _ => true
  | .rev b t n => (itemsN b n μ t).isSome
  | .enum t n => (itemsN true n μ t).isSome
  | .zip b t u n m => (itemsN b n μ t).isSome && (itemsN b m μ u).isSome
  | .txt _ => true
def ItV.at (μ : Mu) (i : Nat) : ItV → Option Yl
  | .seq b t n => match itemsN b n μ t with
    | some ts => ts[i]?.map .one
    | none => none
  | .rng lo _ => some (.one (.v true (.int (lo + i))))
  | .rngR lo n => some (.one (.v true (.int (lo + (n : Nat) - 1 + (i : Nat) * (-1)))))
  | .rev b t n => match itemsN b n μ t with
    | some ts => ts[n - 1 - i]?.map .one
    | none => none
  | .enum t n => match itemsN true n μ t with
    | some ts => ts[i]?.map (.two (.v true (.int (i : Nat))))
    | none => none
  | .zip b t u n m => match itemsN b n μ t, itemsN b m μ u with
    | some ts, some us => match ts[i]?, us[i]? with
      | some x, some y => some (.two x y)
      | _, _ => none
    | _, _ => none
  | .txt z => match z.cps[i]? with
    | some c => some (.one (.v true (.str ⟨#[c]⟩)))
    | none => none
def RY (Z : Ent) (p : Pt) (v : V) : Yl → Prop
  | .one t => RT Z p v t
  | .two t u => ∃ a x y, v = .ref a ∧ p.N a = some (.tup [x, y]) ∧ RT Z p x t ∧ RT Z p y u
structure ItOk (Z : Ent) (p : Pt) (J : It) (v : ItV) : Prop where
  go : ∀ (q : Pt) (H : Hp) (μ : Mu) (i : Nat), p.Le q → SR Z q H μ → v.ok μ = true → i < v.len → J.go i H
  stop : ∀ (q : Pt) (H : Hp) (μ : Mu), p.Le q → SR Z q H μ → v.ok μ = true → J.stop v.len H
  yld : ∀ (q : Pt) (H : Hp) (μ : Mu) (i : Nat) (x : V) (H' : Hp) (y : Yl), p.Le q → SR Z q H μ → v.at μ i = some y → J.yld i H x H' → ∃ r, q.Le r ∧ SR Z r H' μ ∧ RY Z r x y
section
variable {Z : Ent} {p : Pt}
theorem isSome_get {α : Type} {o : Option α} (h : o.isSome = true) : ∃ x, o = some x := by
  cases o with
  | none => cases h
  | some x => exact ⟨x, rfl⟩
theorem ref_eq {a b : Addr} {vs : List V} {v : V} (h : v = V.ref a) (g : v = V.ref b) : a = b := by
  rw [h] at g; cases g; rfl
theorem itOk_seq {K : PySem.W.Frag} (hK : K = Z.K) {b : Bool} {t : T} {n : Nat} {a : Addr} (r : RT Z p (.ref a) t) : ItOk Z p (if b then Itl K a else Itt K a) (.seq b t n) := by
  subst hK
  refine ⟨fun q H μ i l s h hi => ?_, fun q H μ l s h => ?_, fun q H μ i x H' y l s h j => ?_⟩
  · obtain ⟨ts, h⟩ := isSome_get h
    obtain ⟨a', vs, e, h1, h2, h3⟩ := itemsN_ok s (r.mono l) h
    cases e
    have hi : i < vs.length := by rw [h2.length, h3]; exact hi
    cases b
    · exact ⟨vs, vs[i], h1, by simp [hi]⟩
    · exact ⟨vs, vs[i], h1, by simp [hi]⟩
  · obtain ⟨ts, h⟩ := isSome_get h
    obtain ⟨a', vs, e, h1, h2, h3⟩ := itemsN_ok s (r.mono l) h
    cases e
    cases b
    · exact ⟨vs, h1, by rw [h2.length, h3]; exact Nat.le_refl _⟩
    · exact ⟨vs, h1, by rw [h2.length, h3]; exact Nat.le_refl _⟩
  · simp only [ItV.at] at h
    split at h
    · rename_i ts h0
      obtain ⟨a', vs, e, h1, h2, h3⟩ := itemsN_ok s (r.mono l) h0
      cases e
      cases ht : ts[i]? with
      | none => rw [ht] at h; cases h
      | some t1 =>
        rw [ht] at h
        cases h
        obtain ⟨w, k1, k2⟩ := h2.get ht
        cases b
        · obtain ⟨rfl, k⟩ := j
          have e := (k vs h1).symm.trans k1
          cases e
          exact ⟨q, .refl q, s, k2⟩
        · obtain ⟨rfl, k⟩ := j
          have e := (k vs h1).symm.trans k1
          cases e
          exact ⟨q, .refl q, s, k2⟩
    · cases h
theorem itOk_rng {lo : Int} {n : Nat} : ItOk Z p (Itr lo n) (.rng lo n) := by
  refine ⟨fun q H μ i l s h hi => hi, fun q H μ l s h => Nat.le_refl _, fun q H μ i x H' y l s h j => ?_⟩
  obtain ⟨rfl, rfl⟩ := j
  cases h
  exact ⟨q, .refl q, s, (Dx.int _ : Dx Z.K Z.TB q.N _ _)⟩
theorem itOk_rngR {lo : Int} {n : Nat} : ItOk Z p (Itc (lo + (n : Nat) - 1) (-1) n) (.rngR lo n) := by
  refine ⟨fun q H μ i l s h hi => hi, fun q H μ l s h => Nat.le_refl _, fun q H μ i x H' y l s h j => ?_⟩
  obtain ⟨rfl, rfl⟩ := j
  cases h
  exact ⟨q, .refl q, s, (Dx.int _ : Dx Z.K Z.TB q.N _ _)⟩
theorem itOk_txt {z : Str} : ItOk Z p (Its z) (.txt z) := by
  refine ⟨fun q H μ i l s h hi => hi, fun q H μ l s h => Nat.le_refl _, fun q H μ i x H' y l s h j => ?_⟩
  obtain ⟨rfl, c, hc, rfl⟩ := j
  simp only [ItV.at, hc] at h
  cases h
  exact ⟨q, .refl q, s, (Dx.str _ : Dx Z.K Z.TB q.N _ _)⟩
theorem itOk_rev {K : PySem.W.Frag} (hK : K = Z.K) {b : Bool} {t : T} {n : Nat} {a : Addr} (r : RT Z p (.ref a) t) : ItOk Z p (if b then Itv K a n else _root_.RT.ItvT K a n) (.rev b t n) := by
  subst hK
  refine ⟨fun q H μ i l s h hi => ?_, fun q H μ l s h => ?_, fun q H μ i x H' y l s h j => ?_⟩
  · obtain ⟨ts, h⟩ := isSome_get h
    obtain ⟨a', vs, e, h1, h2, h3⟩ := itemsN_ok s (r.mono l) h
    cases e
    have hi : i < n := hi
    have hi' : n - 1 - i < vs.length := by rw [h2.length, h3]; omega
    cases b
    · exact ⟨hi, vs, vs[n - 1 - i], h1, by simp [hi']⟩
    · exact ⟨hi, vs, vs[n - 1 - i], h1, by simp [hi']⟩
  · cases b
    · exact Nat.le_refl n
    · exact Nat.le_refl n
  · simp only [ItV.at] at h
    split at h
    · rename_i ts h0
      obtain ⟨a', vs, e, h1, h2, h3⟩ := itemsN_ok s (r.mono l) h0
      cases e
      cases ht : ts[n - 1 - i]? with
      | none => rw [ht] at h; cases h
      | some t1 =>
        rw [ht] at h
        cases h
        obtain ⟨w, k1, k2⟩ := h2.get ht
        cases b
        · obtain ⟨rfl, k⟩ := j
          have e := (k vs h1).symm.trans k1
          cases e
          exact ⟨q, .refl q, s, k2⟩
        · obtain ⟨rfl, k⟩ := j
          have e := (k vs h1).symm.trans k1
          cases e
          exact ⟨q, .refl q, s, k2⟩
    · cases h
/-- a new pair -/
theorem yl_two {q : Pt} {H : Hp} {μ : Mu} {A : Addr} {x y : V} {t u : T} (s : SR Z q H μ) (n : H A = none) (rx : RT Z q x t) (ry : RT Z q y u) : ∃ r, q.Le r ∧ SR Z r (upd H A (.tup [x, y])) μ ∧ RY Z r (.ref A) (.two t u) := by
  have l := s.add_le (f := true) (o := .tup [x, y]) n
  exact ⟨_, l, s.add (f := true) n, A, x, y, rfl, upd_same, rx.mono l, ry.mono l⟩
theorem itOk_enum {K : PySem.W.Frag} (hK : K = Z.K) {t : T} {n : Nat} {a : Addr} (r : RT Z p (.ref a) t) : ItOk Z p (Ite K a) (.enum t n) := by
  subst hK
  refine ⟨fun q H μ i l s h hi => ?_, fun q H μ l s h => ?_, fun q H μ i x H' y l s h j => ?_⟩
  · obtain ⟨ts, h⟩ := isSome_get h
    obtain ⟨a', vs, e, h1, h2, h3⟩ := itemsN_ok s (r.mono l) h
    cases e
    have hi : i < vs.length := by rw [h2.length, h3]; exact hi
    exact ⟨vs, vs[i], h1, by simp [hi]⟩
  · obtain ⟨ts, h⟩ := isSome_get h
    obtain ⟨a', vs, e, h1, h2, h3⟩ := itemsN_ok s (r.mono l) h
    cases e
    exact ⟨vs, h1, by rw [h2.length, h3]; exact Nat.le_refl _⟩
  · simp only [ItV.at] at h
    split at h
    · rename_i ts h0
      obtain ⟨a', vs, e, h1, h2, h3⟩ := itemsN_ok s (r.mono l) h0
      cases e
      cases ht : ts[i]? with
      | none => rw [ht] at h; cases h
      | some t1 =>
        rw [ht] at h
        cases h
        obtain ⟨w, k1, k2⟩ := h2.get ht
        obtain ⟨A, w', rfl, hn, rfl, k⟩ := j
        have e := (k vs h1).symm.trans k1
        cases e
        exact yl_two s hn (Dx.int _ : Dx Z.K Z.TB q.N _ _) k2
    · cases h
theorem itOk_zip {K : PySem.W.Frag} (hK : K = Z.K) {b : Bool} {t u : T} {n m : Nat} {a a2 : Addr} (r : RT Z p (.ref a) t) (r2 : RT Z p (.ref a2) u) : ItOk Z p (if b then Itz K a a2 else _root_.RZ.ItzT K a a2) (.zip b t u n m) := by
  subst hK
  refine ⟨fun q H μ i l s h hi => ?_, fun q H μ l s h => ?_, fun q H μ i x H' y l s h j => ?_⟩
  · simp only [ItV.ok, Bool.and_eq_true_iff] at h
    obtain ⟨ts, g1⟩ := isSome_get h.1
    obtain ⟨us, g2⟩ := isSome_get h.2
    obtain ⟨a', vs, e, h1, h2, h3⟩ := itemsN_ok s (r.mono l) g1
    obtain ⟨a'', ws, e', k1, k2, k3⟩ := itemsN_ok s (r2.mono l) g2
    cases e; cases e'
    have hi : i < min n m := hi
    have hi1 : i < vs.length := by rw [h2.length, h3]; omega
    have hi2 : i < ws.length := by rw [k2.length, k3]; omega
    cases b
    · exact ⟨vs, ws, vs[i], ws[i], h1, k1, by simp [hi1], by simp [hi2]⟩
    · exact ⟨vs, ws, vs[i], ws[i], h1, k1, by simp [hi1], by simp [hi2]⟩
  · simp only [ItV.ok, Bool.and_eq_true_iff] at h
    obtain ⟨ts, g1⟩ := isSome_get h.1
    obtain ⟨us, g2⟩ := isSome_get h.2
    obtain ⟨a', vs, e, h1, h2, h3⟩ := itemsN_ok s (r.mono l) g1
    obtain ⟨a'', ws, e', k1, k2, k3⟩ := itemsN_ok s (r2.mono l) g2
    cases e; cases e'
    have hl : vs.length ≤ min n m ∨ ws.length ≤ min n m := by rw [h2.length, h3, k2.length, k3]; omega
    cases b
    · exact ⟨vs, ws, h1, k1, hl⟩
    · exact ⟨vs, ws, h1, k1, hl⟩
  · simp only [ItV.at] at h
    split at h
    · rename_i ts us g1 g2
      split at h
      · rename_i t1 u1 ht hu
        cases h
        obtain ⟨a', vs, e, h1, h2, h3⟩ := itemsN_ok s (r.mono l) g1
        obtain ⟨a'', ws, e', k1, k2, k3⟩ := itemsN_ok s (r2.mono l) g2
        cases e; cases e'
        obtain ⟨w, x1, x2⟩ := h2.get ht
        obtain ⟨w2, y1, y2⟩ := k2.get hu
        cases b
        · obtain ⟨A, c, d, rfl, hn, rfl, f1, f2⟩ := j
          cases (f1 vs h1).symm.trans x1
          cases (f2 ws k1).symm.trans y1
          exact yl_two s hn x2 y2
        · obtain ⟨A, c, d, rfl, hn, rfl, f1, f2⟩ := j
          cases (f1 vs h1).symm.trans x1
          cases (f2 ws k1).symm.trans y1
          exact yl_two s hn x2 y2
      · cases h
    · cases h
end

/-- the walk has come -/
def PostI (Z : Ent) (W : Wish) (σ : L2.St) (R : It → Hp → Prop) (p : Pt) (r : Ot ItV) : Prop := match r with
  | some (.ok v μ) => ∀ (J : It) (H' : Hp) (q : Pt), p.Le q → SR Z q H' μ → ItOk Z q J v → R J H'
  | some (.exc c t μ) => PostX Z W σ p c t μ
  | none => False
abbrev Di := Gam → Mu → Ot ItV
def tI (Z : Ent) (W : Wish) (g : Di) : TI := fun σ H R => ∃ (p : Pt) (μ : Mu) (Γ : Gam), SR Z p H μ ∧ ER Z p σ Γ ∧ PostI Z W σ R p (g Γ μ)
theorem pi_imp {X : Cx} {tg e : Expr} {t u : TI} (h : PI X tg e t) (i : ∀ σ H Q, u σ H Q → t σ H Q) : PI X tg e u := ⟨fun pins s σ H Q I q => h.run pins s σ H Q I (i σ H Q q)⟩
section
variable {Z : Ent} {W : Wish} {σ : L2.St} {p q : Pt} {H : Hp} {μ : Mu} {Γ : Gam}
theorem PostI.le {R : It → Hp → Prop} {r : Ot ItV} (e : p.Le q) (h : PostI Z W σ R p r) : PostI Z W σ R q r := by
  match r, h with
  | some (.ok t μ), h => exact fun J H' r hl => h J H' r (e.trans hl)
  | some (.exc c t μ), h => exact PostX.le e h
theorem tD_bindI {g : De} {k : T → Mu → Ot ItV} {Q : It → Hp → Prop} (s : SR Z p H μ) (e : ER Z p σ Γ) (h : PostI Z W σ Q p (Ot.bind (g Γ μ) k)) :
    tD Z W g σ H fun v H1 => ∃ (q : Pt) (μ1 : Mu) (t : T), p.Le q ∧ SR Z q H1 μ1 ∧ ER Z q σ Γ ∧ RT Z q v t ∧ PostI Z W σ Q q (k t μ1) := by
  refine ⟨p, μ, Γ, s, e, ?_⟩
  match hg : g Γ μ, h with
  | some (.ok t μ1), h =>
    have h : PostI Z W σ Q p (k t μ1) := h
    exact fun v H' q hl hs hr => ⟨q, μ1, t, hl, hs, e.mono hl, hr, PostI.le hl h⟩
  | some (.exc c t μ1), h => exact h
theorem tDA_bindI {g : Da} {k : List T → Mu → Ot ItV} {Q : It → Hp → Prop} (s : SR Z p H μ) (e : ER Z p σ Γ) (h : PostI Z W σ Q p (Ot.bind (g Γ μ) k)) :
    tDA Z W g σ H fun vs H1 => ∃ (q : Pt) (μ1 : Mu) (ts : List T), p.Le q ∧ SR Z q H1 μ1 ∧ ER Z q σ Γ ∧ RTs Z q vs ts ∧ PostI Z W σ Q q (k ts μ1) := by
  refine ⟨p, μ, Γ, s, e, ?_⟩
  match hg : g Γ μ, h with
  | some (.ok t μ1), h =>
    have h : PostI Z W σ Q p (k t μ1) := h
    exact fun v H' q hl hs hr => ⟨q, μ1, t, hl, hs, e.mono hl, hr, PostI.le hl h⟩
  | some (.exc c t μ1), h => exact h
end
section
variable {X : Cx} {Z : Ent} {W : Wish} {tg a b : Expr} {es : List Expr} {ga gb : De} {da : Da} {pos nm : Pos}
/-- over a list or a tuple -/
def iSeq (b : Bool) (g : De) : Di := fun Γ μ => Ot.bind (g Γ μ) fun t μ1 => match items μ1 t with
  | some (b', ts) => if b' = b then some (.ok (.seq b t ts.length) μ1) else none
  | none => none
theorem xi_lst (hK : X.K = Z.K) (ha : PE X a (tD Z W ga)) : PI X tg a (tI Z W (iSeq true ga)) :=
  pi_imp (pi_list ha) fun σ H Q ⟨p, μ, Γ, s, er, h⟩ => by
    obtain ⟨p', μ', Γ', s', e', h'⟩ := tD_bindI s er h
    refine ⟨p', μ', Γ', s', e', ?_⟩
    match hg : ga Γ' μ', h' with
    | some (.ok t μ1), h' =>
      intro v H' q hl hs hr
      obtain ⟨q1, μ2, t2, l1, s1, e1, r1, k1⟩ := h' v H' q hl hs hr
      split at k1
      · rename_i b' ts hi
        split at k1
        · rename_i hb
          subst hb
          obtain ⟨a, vs, rfl, h1, h2⟩ := items_ok s1 r1 hi
          exact ⟨a, rfl, ⟨vs, by rw [hK]; exact h1⟩, k1 _ _ _ (.refl _) s1 (itOk_seq (b := true) hK r1)⟩
        · exact k1.elim
      · exact k1.elim
    | some (.exc c t μ1), h' => exact h'
theorem xi_tup (hK : X.K = Z.K) (ha : PE X a (tD Z W ga)) : PI X tg a (tI Z W (iSeq false ga)) :=
  pi_imp (pi_tup ha) fun σ H Q ⟨p, μ, Γ, s, er, h⟩ => by
    obtain ⟨p', μ', Γ', s', e', h'⟩ := tD_bindI s er h
    refine ⟨p', μ', Γ', s', e', ?_⟩
    match hg : ga Γ' μ', h' with
    | some (.ok t μ1), h' =>
      intro v H' q hl hs hr
      obtain ⟨q1, μ2, t2, l1, s1, e1, r1, k1⟩ := h' v H' q hl hs hr
      split at k1
      · rename_i b' ts hi
        split at k1
        · rename_i hb
          subst hb
          obtain ⟨a, vs, rfl, h1, h2⟩ := items_ok s1 r1 hi
          exact ⟨a, rfl, ⟨vs, by rw [hK]; exact h1⟩, k1 _ _ _ (.refl _) s1 (itOk_seq (b := false) hK r1)⟩
        · exact k1.elim
      · exact k1.elim
    | some (.exc c t μ1), h' => exact h'
/-- over a text -/
def iTxt (g : De) : Di := fun Γ μ => Ot.bind (g Γ μ) fun t μ1 => match t with
  | .v _ (.str z) => some (.ok (.txt z) μ1)
  | _ => none
theorem xi_txt (ha : PE X a (tD Z W ga)) : PI X tg a (tI Z W (iTxt ga)) :=
  pi_imp (pi_str ha) fun σ H Q ⟨p, μ, Γ, s, er, h⟩ => by
    obtain ⟨p', μ', Γ', s', e', h'⟩ := tD_bindI s er h
    refine ⟨p', μ', Γ', s', e', ?_⟩
    match hg : ga Γ' μ', h' with
    | some (.ok t μ1), h' =>
      intro v H' q hl hs hr
      obtain ⟨q1, μ2, t2, l1, s1, e1, r1, k1⟩ := h' v H' q hl hs hr
      split at k1
      · rename_i z
        cases r1.str
        exact ⟨z, rfl, k1 _ _ _ (.refl _) s1 itOk_txt⟩
      · exact k1.elim
    | some (.exc c t μ1), h' => exact h'
def iRng1D (da : Da) : Di := fun Γ μ => Ot.bind (da Γ μ) fun ts μ1 => match ts with
  | [.v _ (.int j)] => if -(2 ^ 62) ≤ j ∧ j < 2 ^ 62 then some (.ok (.rng 0 j.toNat) μ1) else none
  | _ => none
theorem xi_rng1 (hg : Gl X "range") (hm : X.mg "range" = none) (ha : PA X [a] (tDA Z W da)) (hs : starEach [a] X.env = [(false, eval a X.env)]) : PI X tg (.Call (.Name "range" nm) [a] [] pos) (tI Z W (iRng1D da)) :=
  pi_imp (pi_range1 hg hm ha hs) fun σ H Q ⟨p, μ, Γ, s, er, h⟩ => by
    obtain ⟨p', μ', Γ', s', e', h'⟩ := tDA_bindI s er h
    refine ⟨p', μ', Γ', s', e', ?_⟩
    match hg : da Γ' μ', h' with
    | some (.ok t μ1), h' =>
      intro v H' q hl hs hr
      obtain ⟨q1, μ2, t2, l1, s1, e1, r1, k1⟩ := h' v H' q hl hs hr
      split at k1
      · rename_i j
        split at k1
        · rename_i hj
          obtain ⟨w, rfl, hw⟩ := r1.one
          cases hw.int
          exact ⟨_, rfl, hj.1, hj.2, k1 _ _ _ (.refl _) s1 itOk_rng⟩
        · exact k1.elim
      · exact k1.elim
    | some (.exc c t μ1), h' => exact h'
def iRng2D (da : Da) : Di := fun Γ μ => Ot.bind (da Γ μ) fun ts μ1 => match ts with
  | [.v _ (.int i), .v _ (.int j)] => if -(2 ^ 62) ≤ i ∧ i < 2 ^ 62 ∧ -(2 ^ 62) ≤ j ∧ j < 2 ^ 62 then some (.ok (.rng i (j - i).toNat) μ1) else none
  | _ => none
theorem xi_rng2 (hg : Gl X "range") (hm : X.mg "range" = none) (ha : PA X [a, b] (tDA Z W da)) (hs : starEach [a, b] X.env = [(false, eval a X.env), (false, eval b X.env)]) (hs2 : starEach [b] X.env = [(false, eval b X.env)]) :
    PI X tg (.Call (.Name "range" nm) [a, b] [] pos) (tI Z W (iRng2D da)) :=
  pi_imp (pi_range2 hg hm ha hs hs2) fun σ H Q ⟨p, μ, Γ, s, er, h⟩ => by
    obtain ⟨p', μ', Γ', s', e', h'⟩ := tDA_bindI s er h
    refine ⟨p', μ', Γ', s', e', ?_⟩
    match hg : da Γ' μ', h' with
    | some (.ok t μ1), h' =>
      intro v H' q hl hs hr
      obtain ⟨q1, μ2, t2, l1, s1, e1, r1, k1⟩ := h' v H' q hl hs hr
      split at k1
      · rename_i i j
        split at k1
        · rename_i hj
          obtain ⟨w, w2, rfl, hw, hw2⟩ := r1.two
          cases hw.int; cases hw2.int
          exact ⟨_, _, rfl, hj, k1 _ _ _ (.refl _) s1 itOk_rng⟩
        · exact k1.elim
      · exact k1.elim
    | some (.exc c t μ1), h' => exact h'
def iEnumD (da : Da) : Di := fun Γ μ => Ot.bind (da Γ μ) fun ts μ1 => match ts with
  | [t] => match items μ1 t with
    | some (true, us) => some (.ok (.enum t us.length) μ1)
    | _ => none
  | _ => none
theorem xi_enum {elts : List Expr} {kk : Nat} {tpos : Pos} (hK : X.K = Z.K) (hg : Gl X "enumerate") (hm : X.mg "enumerate" = none) (ha : PA X [a] (tDA Z W da)) (hs : starEach [a] X.env = [(false, eval a X.env)]) :
    PI X (.Tuple elts kk tpos) (.Call (.Name "enumerate" nm) [a] [] pos) (tI Z W (iEnumD da)) :=
  pi_imp (pi_enum hg hm ha hs) fun σ H Q ⟨p, μ, Γ, s, er, h⟩ => by
    obtain ⟨p', μ', Γ', s', e', h'⟩ := tDA_bindI s er h
    refine ⟨p', μ', Γ', s', e', ?_⟩
    match hg : da Γ' μ', h' with
    | some (.ok t μ1), h' =>
      intro v H' q hl hs hr
      obtain ⟨q1, μ2, t2, l1, s1, e1, r1, k1⟩ := h' v H' q hl hs hr
      split at k1
      · rename_i t3
        split at k1
        · rename_i us hi
          obtain ⟨w, rfl, hw⟩ := r1.one
          obtain ⟨a, vs, rfl, h1, h2⟩ := items_ok s1 hw hi
          exact ⟨a, vs, rfl, by rw [hK]; exact h1, k1 _ _ _ (.refl _) s1 (itOk_enum hK hw)⟩
        · exact k1.elim
      · exact k1.elim
    | some (.exc c t μ1), h' => exact h'
def iZipD (da : Da) : Di := fun Γ μ => Ot.bind (da Γ μ) fun ts μ1 => match ts with
  | [t, u] => match items μ1 t, items μ1 u with
    | some (b, xs), some (b', ys) => if b = b' then some (.ok (.zip b t u xs.length ys.length) μ1) else none
    | _, _ => none
  | _ => none
theorem xi_zip {elts : List Expr} {kk : Nat} {tpos : Pos} (hK : X.K = Z.K) (hg : Gl X "zip") (hm : X.mg "zip" = none) (ha : PA X [a, b] (tDA Z W da)) (hs : starEach [a, b] X.env = (false, eval a X.env) :: starEach [b] X.env)
    (hpl : (backTo pos (starEach [b] X.env)).any (·.1) = false) : PI X (.Tuple elts kk tpos) (.Call (.Name "zip" nm) [a, b] [] pos) (tI Z W (iZipD da)) :=
  pi_imp (_root_.RZ.pi_zipA hg hm ha hs hpl) fun σ H Q ⟨p, μ, Γ, s, er, h⟩ => by
    obtain ⟨p', μ', Γ', s', e', h'⟩ := tDA_bindI s er h
    refine ⟨p', μ', Γ', s', e', ?_⟩
    match hg : da Γ' μ', h' with
    | some (.ok t μ1), h' =>
      intro v H' q hl hs hr
      obtain ⟨q1, μ2, t2, l1, s1, e1, r1, k1⟩ := h' v H' q hl hs hr
      split at k1
      · rename_i t3 u3
        split at k1
        · rename_i b1 xs b2 ys hi hj
          split at k1
          · rename_i hb
            subst hb
            obtain ⟨w, w2, rfl, hw, hw2⟩ := r1.two
            obtain ⟨a, vs, rfl, h1, h2⟩ := items_ok s1 hw hi
            obtain ⟨a2, ws, rfl, g1, g2⟩ := items_ok s1 hw2 hj
            have q := k1 _ _ _ (.refl _) s1 (itOk_zip (n := xs.length) (m := ys.length) hK hw hw2)
            refine ⟨a, a2, vs, ws, rfl, ?_⟩
            cases b1
            · exact .inr ⟨by rw [hK]; exact h1, by rw [hK]; exact g1, q⟩
            · exact .inl ⟨by rw [hK]; exact h1, by rw [hK]; exact g1, q⟩
          · exact k1.elim
        · exact k1.elim
      · exact k1.elim
    | some (.exc c t μ1), h' => exact h'
def iRevD (g : De) : Di := fun Γ μ => Ot.bind (g Γ μ) fun t μ1 => match items μ1 t with
  | some (b, ts) => some (.ok (.rev b t ts.length) μ1)
  | none => none
theorem xi_rev (hK : X.K = Z.K) (hg : Gl X "reversed") (hm : X.mg "reversed" = none) (ha : PE X a (tD Z W ga)) (hs : starEach [a] X.env = (false, eval a X.env) :: starEach [] X.env) :
    PI X tg (.Call (.Name "reversed" nm) [a] [] pos) (tI Z W (iRevD ga)) :=
  pi_imp (_root_.RT.pi_revA hg hm ha hs) fun σ H Q ⟨p, μ, Γ, s, er, h⟩ => by
    obtain ⟨p', μ', Γ', s', e', h'⟩ := tD_bindI s er h
    refine ⟨p', μ', Γ', s', e', ?_⟩
    match hg : ga Γ' μ', h' with
    | some (.ok t μ1), h' =>
      intro v H' q hl hs hr
      obtain ⟨q1, μ2, t2, l1, s1, e1, r1, k1⟩ := h' v H' q hl hs hr
      split at k1
      · rename_i b' ts hi
        obtain ⟨a, vs, rfl, h1, h2⟩ := items_ok s1 r1 hi
        have q := k1 _ _ _ (.refl _) s1 (itOk_rev (n := ts.length) hK r1)
        refine ⟨a, vs, rfl, ?_⟩
        rw [h2.length]
        cases b'
        · exact .inr ⟨by rw [hK]; exact h1, q⟩
        · exact .inl ⟨by rw [hK]; exact h1, q⟩
      · exact k1.elim
    | some (.exc c t μ1), h' => exact h'
end
end L3

set_option Elab.async false
set_option linter.all false
set_option maxRecDepth 100000
set_option maxHeartbeats 4000000
/-! L3, fourteenth part: targets, ends of statements, loops, comprehensions. -/
namespace L3
open PySem PySem.Spec PyProof.Rows L2

/-- where a value goes -/
abbrev Dg := Yl → Gam → Mu → Option Gam
abbrev Dgs := List T → Gam → Mu → Option Gam
/-- js: the slots that it may set -/
def tG (Z : Ent) (js : List Nat) (g : Dg) : TG := fun v σ H Q => ∃ (p : Pt) (μ : Mu) (Γ Γ' : Gam) (y : Yl), SR Z p H μ ∧ ER Z p σ Γ ∧ RY Z p v y ∧ g y Γ μ = some Γ' ∧
  ∀ σ', ER Z p σ' Γ' → (∀ i, i ∉ js → σ'[i]? = σ[i]?) → σ'.length = σ.length → Q σ' H
def tGs (Z : Ent) (js : List Nat) (g : Dgs) : TGs := fun vs σ H Q => ∃ (p : Pt) (μ : Mu) (Γ Γ' : Gam) (ts : List T), SR Z p H μ ∧ ER Z p σ Γ ∧ RTs Z p vs ts ∧ g ts Γ μ = some Γ' ∧
  ∀ σ', ER Z p σ' Γ' → (∀ i, i ∉ js → σ'[i]? = σ[i]?) → σ'.length = σ.length → Q σ' H
theorem pg_imp {X : Cx} {e : Expr} {t u : TG} (h : PG X e t) (i : ∀ v σ H Q, u v σ H Q → t v σ H Q) : PG X e u := ⟨fun pins s σ H v w Q I r q => h.run pins s σ H v w Q I r (i v σ H Q q)⟩
theorem pgs_imp {X : Cx} {e : List Expr} {t u : TGs} (h : PGs X e t) (i : ∀ v σ H Q, u v σ H Q → t v σ H Q) : PGs X e u := ⟨fun pins s σ H v w Q I r q => h.run pins s σ H v w Q I r (i v σ H Q q)⟩
/-- a name -/
def gNm (i : Nat) : Dg := fun y Γ _ => match y with
  | .one t => some (Γ.set i (some t))
  | .two _ _ => none
theorem set_else {σ : L2.St} {i : Nat} {w : Option V} : ∀ j, j ∉ [i] → (σ.set i w)[j]? = σ[j]? := fun j hj => List.getElem?_set_ne (fun z => hj (by rw [z]; exact List.mem_cons_self))
section
variable {X : Cx} {Z : Ent} {W : Wish} {pos : Pos}
theorem xg_nm {i : Nat} {x : Str} (hN : X.N.Nodup) (hi : X.N[i]? = some x) (hx : Loc X.env.scope x) (hf : X.fn x = true ∨ X.env.scope.names.lookup x = some .local) : PG X (.Name x pos) (tG Z [i] (gNm i)) :=
  pg_imp (pg_name hN hi hx hf) fun v σ H Q ⟨p, μ, Γ, Γ', y, s, e, r, h, q⟩ => by
    cases y with
    | two _ _ => cases h
    | one t =>
      cases h
      exact q _ (e.set r _) set_else (List.length_set ..)
def gsNil : Dgs := fun ts Γ _ => match ts with
  | [] => some Γ
  | _ => none
def gsCons (g : Dg) (h : Dgs) : Dgs := fun ts Γ μ => match ts with
  | t :: ts => match g (.one t) Γ μ with
    | some Γ' => h ts Γ' μ
    | none => none
  | [] => none
theorem xgs_nil : PGs X [] (tGs Z [] gsNil) :=
  pgs_imp pgs_nil fun v σ H Q ⟨p, μ, Γ, Γ', ts, s, e, r, h, q⟩ => by
    cases r with
    | nil => cases h; exact ⟨rfl, q _ e (fun _ _ => rfl) rfl⟩
    | cons _ _ => cases h
theorem xgs_cons {a : Expr} {es : List Expr} {js ks : List Nat} {g : Dg} {h : Dgs} (h1 : PG X a (tG Z js g)) (h2 : PGs X es (tGs Z ks h))
    (hs : (assignEach (a :: es) X.env).map (·.2) = assign a X.env :: (assignEach es X.env).map (·.2)) : PGs X (a :: es) (tGs Z (js ++ ks) (gsCons g h)) :=
  pgs_imp (pgs_cons h1 h2 hs) fun v σ H Q ⟨p, μ, Γ, Γ', ts, s, e, r, h, q⟩ => by
    cases r with
    | nil => cases h
    | cons r1 r2 =>
      simp only [gsCons] at h
      split at h
      · rename_i Γ1 hg
        exact ⟨_, _, rfl, p, μ, Γ, Γ1, .one _, s, e, r1, hg, fun σ1 e1 k1 n1 => ⟨p, μ, Γ1, Γ', _, s, e1, r2, h, fun σ2 e2 k2 n2 => q σ2 e2 (fun i hi => by
          rw [k2 i (fun z => hi (List.mem_append_right _ z)), k1 i (fun z => hi (List.mem_append_left _ z))]) (n2.trans n1)⟩⟩
      · cases h
/-- a row of targets: a new pair, a tuple -/
def gTp (n : Nat) (h : Dgs) : Dg := fun y Γ μ => match y with
  | .two t u => if n = 2 then h [t, u] Γ μ else none
  | .one t => match items μ t with
    | some (false, ts) => if ts.length = n then h ts Γ μ else none
    | _ => none
theorem xg_tup {es : List Expr} {k n : Nat} {js : List Nat} {h : Dgs} (hK : X.K = Z.K) (hc : X.calm = true) (hh : PGs X es (tGs Z js h)) (hn : (assignEach es X.env).length = n) (hst : (assignEach es X.env).findIdx? (·.1) = none) :
    PG X (.Tuple es k pos) (tG Z js (gTp n h)) :=
  pg_imp (pg_tup hc hh hn hst) fun v σ H Q ⟨p, μ, Γ, Γ', y, s, e, r, hd, q⟩ => by
    cases y with
    | two t u =>
      obtain ⟨a, x, z, rfl, h1, h2, h3⟩ := r
      simp only [gTp] at hd
      split at hd
      · rename_i hn2
        subst hn2
        exact ⟨a, [x, z], rfl, SqT.of (s.sub _ _ (s.nin _ _ h1)), rfl, p, μ, Γ, Γ', [t, u], s, e, .cons h2 (.cons h3 .nil), hd, q⟩
      · cases hd
    | one t =>
      simp only [gTp] at hd
      split at hd
      · rename_i ts hi
        split at hd
        · rename_i hl
          obtain ⟨a, vs, rfl, h1, h2⟩ := items_ok s r hi
          exact ⟨a, vs, rfl, by rw [hK]; exact h1, by rw [h2.length]; exact hl, p, μ, Γ, Γ', ts, s, e, h2, hd, q⟩
        · cases hd
      · cases hd
end

/-- how a statement ends -/
inductive Eo where
  | nx (Γ : Gam) (μ : Mu)
  | rt (t : T) (μ : Mu)
  | bk (Γ : Gam) (μ : Mu)
  | ct (Γ : Gam) (μ : Mu)
  | ex (Γ : Gam) (c : Nat) (t : T) (μ : Mu)
abbrev Ds := Gam → Mu → Option Eo
def PostS (Z : Ent) (W : Wish) (D : Ends) (p : Pt) (r : Option Eo) : Prop := match r with
  | some (.nx Γ μ) => ∀ (σ : L2.St) (H : Hp) (q : Pt), p.Le q → SR Z q H μ → ER Z q σ Γ → D.nx σ H
  | some (.rt t μ) => ∀ (v : V) (H : Hp) (q : Pt), p.Le q → SR Z q H μ → RT Z q v t → D.rt v H
  | some (.bk Γ μ) => ∀ (σ : L2.St) (H : Hp) (q : Pt), p.Le q → SR Z q H μ → ER Z q σ Γ → D.bk σ H
  | some (.ct Γ μ) => ∀ (σ : L2.St) (H : Hp) (q : Pt), p.Le q → SR Z q H μ → ER Z q σ Γ → D.ct σ H
  | some (.ex Γ c t μ) => ∀ (σ : L2.St) (q : Pt), p.Le q → ER Z q σ Γ → PostX Z W σ q c t μ
  | none => False
def tDS (Z : Ent) (W : Wish) (g : Ds) : TS := fun D σ H => ∃ (p : Pt) (μ : Mu) (Γ : Gam), SR Z p H μ ∧ ER Z p σ Γ ∧ PostS Z W D p (g Γ μ)
def Ot.bindS {α : Type} (x : Ot α) (Γ : Gam) (k : α → Mu → Option Eo) : Option Eo := match x with
  | some (.ok a μ) => k a μ
  | some (.exc c t μ) => some (.ex Γ c t μ)
  | none => none
section
variable {Z : Ent} {W : Wish} {σ : L2.St} {p q : Pt} {H : Hp} {μ : Mu} {Γ : Gam} {D : Ends}
theorem PostS.le {r : Option Eo} (e : p.Le q) (h : PostS Z W D p r) : PostS Z W D q r := by
  match r, h with
  | some (.nx _ _), h => exact fun σ H r l => h σ H r (e.trans l)
  | some (.rt _ _), h => exact fun σ H r l => h σ H r (e.trans l)
  | some (.bk _ _), h => exact fun σ H r l => h σ H r (e.trans l)
  | some (.ct _ _), h => exact fun σ H r l => h σ H r (e.trans l)
  | some (.ex _ _ _ _), h => exact fun σ r l => h σ r (e.trans l)
theorem tD_bindS {g : De} {k : T → Mu → Option Eo} (s : SR Z p H μ) (e : ER Z p σ Γ) (h : PostS Z W D p (Ot.bindS (g Γ μ) Γ k)) :
    tD Z W g σ H fun v H1 => ∃ (q : Pt) (μ1 : Mu) (t : T), p.Le q ∧ SR Z q H1 μ1 ∧ ER Z q σ Γ ∧ RT Z q v t ∧ PostS Z W D q (k t μ1) := by
  refine ⟨p, μ, Γ, s, e, ?_⟩
  match hg : g Γ μ, h with
  | some (.ok t μ1), h =>
    have h : PostS Z W D p (k t μ1) := h
    exact fun v H' q hl hs hr => ⟨q, μ1, t, hl, hs, e.mono hl, hr, PostS.le hl h⟩
  | some (.exc c t μ1), h => exact h σ p (.refl p) e
theorem tDA_bindS {g : Da} {k : List T → Mu → Option Eo} (s : SR Z p H μ) (e : ER Z p σ Γ) (h : PostS Z W D p (Ot.bindS (g Γ μ) Γ k)) :
    tDA Z W g σ H fun v H1 => ∃ (q : Pt) (μ1 : Mu) (t : List T), p.Le q ∧ SR Z q H1 μ1 ∧ ER Z q σ Γ ∧ RTs Z q v t ∧ PostS Z W D q (k t μ1) := by
  refine ⟨p, μ, Γ, s, e, ?_⟩
  match hg : g Γ μ, h with
  | some (.ok t μ1), h =>
    have h : PostS Z W D p (k t μ1) := h
    exact fun v H' q hl hs hr => ⟨q, μ1, t, hl, hs, e.mono hl, hr, PostS.le hl h⟩
  | some (.exc c t μ1), h => exact h σ p (.refl p) e
theorem tDB_bindS {g : Gam → Mu → Ot Bool} {k : Bool → Mu → Option Eo} (s : SR Z p H μ) (e : ER Z p σ Γ) (h : PostS Z W D p (Ot.bindS (g Γ μ) Γ k)) :
    tDB Z W g σ H fun b H1 => ∃ (q : Pt) (μ1 : Mu), p.Le q ∧ SR Z q H1 μ1 ∧ ER Z q σ Γ ∧ PostS Z W D q (k b μ1) := by
  refine ⟨p, μ, Γ, s, e, ?_⟩
  match hg : g Γ μ, h with
  | some (.ok t μ1), h =>
    have h : PostS Z W D p (k t μ1) := h
    exact fun H' q hl hs => ⟨q, μ1, hl, hs, e.mono hl, PostS.le hl h⟩
  | some (.exc c t μ1), h => exact h σ p (.refl p) e
theorem tI_bindS {g : Di} {k : ItV → Mu → Option Eo} (s : SR Z p H μ) (e : ER Z p σ Γ) (h : PostS Z W D p (Ot.bindS (g Γ μ) Γ k)) :
    tI Z W g σ H fun J H1 => ∃ (q : Pt) (μ1 : Mu) (v : ItV), p.Le q ∧ SR Z q H1 μ1 ∧ ER Z q σ Γ ∧ ItOk Z q J v ∧ PostS Z W D q (k v μ1) := by
  refine ⟨p, μ, Γ, s, e, ?_⟩
  match hg : g Γ μ, h with
  | some (.ok t μ1), h =>
    have h : PostS Z W D p (k t μ1) := h
    exact fun v H' q hl hs hr => ⟨q, μ1, t, hl, hs, e.mono hl, hr, PostS.le hl h⟩
  | some (.exc c t μ1), h => exact h σ p (.refl p) e
theorem tI_bind {g : Di} {k : ItV → Mu → Ot T} {Q : VK} (s : SR Z p H μ) (e : ER Z p σ Γ) (h : Post Z W σ Q p (Ot.bind (g Γ μ) k)) :
    tI Z W g σ H fun J H1 => ∃ (q : Pt) (μ1 : Mu) (v : ItV), p.Le q ∧ SR Z q H1 μ1 ∧ ER Z q σ Γ ∧ ItOk Z q J v ∧ Post Z W σ Q q (k v μ1) := by
  refine ⟨p, μ, Γ, s, e, ?_⟩
  match hg : g Γ μ, h with
  | some (.ok t μ1), h =>
    have h : Post Z W σ Q p (k t μ1) := h
    exact fun v H' q hl hs hr => ⟨q, μ1, t, hl, hs, e.mono hl, hr, Post.le hl h⟩
  | some (.exc c t μ1), h => exact h
end

/-! a for -/
def forD (v : ItV) (g : Dg) (b : Ds) : Nat → Nat → Ds
  | 0, _, Γ, μ => if v.ok μ then some (.nx Γ μ) else none
  | k + 1, i, Γ, μ => if v.ok μ then match v.at μ i with
    | some y => match g y Γ μ with
      | some Γ1 => match b Γ1 μ with
        | some (.nx Γ2 μ2) => forD v g b k (i + 1) Γ2 μ2
        | some (.ct Γ2 μ2) => forD v g b k (i + 1) Γ2 μ2
        | some (.bk Γ2 μ2) => some (.nx Γ2 μ2)
        | r => r
      | none => none
    | none => none
    else none
def sFor (it : Di) (g : Dg) (b : Ds) : Ds := fun Γ μ => Ot.bindS (it Γ μ) Γ fun v μ1 => forD v g b v.len 0 Γ μ1
section
variable {X : Cx} {Z : Ent} {W : Wish} {pos : Pos} {tg iter elt : Expr} {body : List Stmt} {it : Di} {g : Dg} {b : Ds} {js : List Nat}
theorem xs_for (hp : PassesOwn (model X.prog X.w) X.A X.env X.xe) (hc : X.calm = true) (hi : PI X tg iter (tI Z W it)) (hg : PG X tg (tG Z js g)) (hb : PSs X body (tDS Z W b)) (hs : ∀ x, foldedSetIterable iter X.env x = pure x) :
    PS X (.For tg iter body [] pos) (tDS Z W (sFor it g b)) :=
  ps_imp (ps_for hp hc hi hg hb hs) fun D σ H ⟨p, μ, Γ, s, e, h⟩ => by
    obtain ⟨p', μ', Γ', s', e', h'⟩ := tI_bindS s e h
    refine ⟨p', μ', Γ', s', e', ?_⟩
    match hg : it Γ' μ', h' with
    | some (.exc c t μ1), h' => exact h'
    | some (.ok v μ1), h' =>
      intro J H1 q hl hs hJ
      obtain ⟨q1, μ2, v2, l1, s1, e1, r1, k1⟩ := h' J H1 q hl hs hJ
      refine ⟨fun i m σ H => m = v2.len - i ∧ i ≤ v2.len ∧ ∃ (p3 : Pt) (μ3 : Mu) (Γ3 : Gam), q1.Le p3 ∧ SR Z p3 H μ3 ∧ ER Z p3 σ Γ3 ∧ PostS Z W D p3 (forD v2 g b (v2.len - i) i Γ3 μ3), ⟨v2.len, by simp, Nat.zero_le _, q1, μ2, Γ, .refl _, s1, e1, k1⟩, ?_⟩
      rintro i m σ H ⟨rfl, hi, p3, μ3, Γ3, l3, s3, e3, k3⟩
      by_cases hlt : i < v2.len
      · obtain ⟨k, hk⟩ : ∃ k, v2.len - i = k + 1 := ⟨v2.len - i - 1, by omega⟩
        rw [hk] at k3
        simp only [forD] at k3
        split at k3
        · rename_i hok
          refine .inr ⟨r1.go _ _ _ i l3 s3 hok hlt, fun σ' H' => v2.len - (i + 1) = v2.len - (i + 1) ∧ i + 1 ≤ v2.len ∧ ∃ (p3 : Pt) (μ3 : Mu) (Γ3 : Gam), q1.Le p3 ∧ SR Z p3 H' μ3 ∧ ER Z p3 σ' Γ3 ∧ PostS Z W D p3 (forD v2 g b (v2.len - (i + 1)) (i + 1) Γ3 μ3), fun σ' H' nx => ⟨v2.len - (i + 1), by omega, nx⟩, fun x H' y => ?_⟩
          split at k3
          · rename_i yv hat
            obtain ⟨p4, l4, s4, ry⟩ := r1.yld _ _ _ i x H' yv l3 s3 hat y
            split at k3
            · rename_i Γ5 hgg
              refine ⟨p4, μ3, Γ3, Γ5, yv, s4, e3.mono l4, ry, hgg, fun σ5 e5 _ _ => ⟨p4, μ3, Γ5, s4, e5, ?_⟩⟩
              have hk' : v2.len - (i + 1) = k := by omega
              have again : ∀ (Γ6 : Gam) (μ6 : Mu), PostS Z W D p3 (forD v2 g b k (i + 1) Γ6 μ6) → ∀ (σ : L2.St) (H : Hp) (q : Pt), p4.Le q → SR Z q H μ6 → ER Z q σ Γ6 →
                  v2.len - (i + 1) = v2.len - (i + 1) ∧ i + 1 ≤ v2.len ∧ ∃ (p3 : Pt) (μ3 : Mu) (Γ3 : Gam), q1.Le p3 ∧ SR Z p3 H μ3 ∧ ER Z p3 σ Γ3 ∧ PostS Z W D p3 (forD v2 g b (v2.len - (i + 1)) (i + 1) Γ3 μ3) :=
                fun Γ6 μ6 h6 σ H q l s e => ⟨rfl, hlt, q, μ6, Γ6, (l3.trans l4).trans l, s, e, by rw [hk']; exact PostS.le (l4.trans l) h6⟩
              match hb : b Γ5 μ3, k3 with
              | some (.nx Γ6 μ6), k3 => exact again Γ6 μ6 k3
              | some (.ct Γ6 μ6), k3 => exact again Γ6 μ6 k3
              | some (.bk Γ6 μ6), k3 => exact fun σ H q l => k3 σ H q (l4.trans l)
              | some (.rt t6 μ6), k3 => exact fun σ H q l => k3 σ H q (l4.trans l)
              | some (.ex Γ6 c6 t6 μ6), k3 => exact fun σ q l => k3 σ q (l4.trans l)
            · exact k3.elim
          · exact k3.elim
        · exact k3.elim
      · have hi' : i = v2.len := by omega
        subst hi'
        rw [Nat.sub_self] at k3
        simp only [forD] at k3
        split at k3
        · rename_i hok
          exact .inl ⟨r1.stop _ _ _ l3 s3 hok, k3 σ H p3 (.refl _) s3 e3⟩
        · exact k3.elim
end
end L3

set_option Elab.async false
set_option linter.all false
set_option maxRecDepth 100000
set_option maxHeartbeats 4000000
/-! L3, fifteenth part: comprehensions. -/
namespace L3
open PySem PySem.Spec PyProof.Rows L2

abbrev W0 : Wish := fun _ _ _ _ => False
def wipeG (Γ : Gam) : List Nat → Gam
  | [] => Γ
  | v :: vs => (wipeG Γ vs).set v none
theorem ER.wipeL {Z : Ent} {p : Pt} {σ : L2.St} {Γ : Gam} (e : ER Z p σ Γ) : ∀ vs : List Nat, ER Z p (L2.wipe σ vs) (wipeG Γ vs)
  | [] => e
  | v :: vs => by
    obtain ⟨h1, h2⟩ := ER.wipeL e vs
    refine ⟨by unfold L2.wipe wipeG; rw [List.length_set, List.length_set]; exact h1, fun i t h => ?_⟩
    unfold wipeG at h
    unfold L2.wipe
    by_cases hv : v = i
    · subst hv
      rw [List.getElem?_set] at h
      rw [if_pos rfl] at h
      split at h <;> cases h
    · rw [List.getElem?_set_ne hv] at h
      rw [List.getElem?_set_ne hv]
      exact h2 i t h
theorem ER.len {Z : Ent} {p : Pt} {σ : L2.St} {Γ : Gam} (e : ER Z p σ Γ) : σ.length = Γ.length := e.1
theorem wipe_get {σ : L2.St} : ∀ {vs : List Nat} {i : Nat}, (L2.wipe σ vs)[i]? = if i ∈ vs ∧ i < σ.length then some none else σ[i]?
  | [], i => by simp [L2.wipe]
  | v :: vs, i => by
    unfold L2.wipe
    rw [List.getElem?_set, wipe_length, wipe_get (vs := vs)]
    by_cases hv : v = i
    · subst hv
      by_cases hl : v < σ.length
      · simp [hl]
      · simp [hl]
    · have hv' : ¬ i = v := fun z => hv z.symm
      simp [hv, hv']
theorem wipe_agree {σ σ2 : L2.St} {js vs : List Nat} (h : ∀ i, i ∉ js → σ2[i]? = (L2.wipe σ vs)[i]?) (hl : σ2.length = σ.length) (hj : ∀ i ∈ js, i ∈ vs) : L2.wipe σ2 vs = L2.wipe σ vs := by
  refine List.ext_getElem? fun i => ?_
  rw [wipe_get, wipe_get, hl]
  by_cases hi : i ∈ vs ∧ i < σ.length
  · rw [if_pos hi, if_pos hi]
  · rw [if_neg hi, if_neg hi]
    by_cases hm : i ∈ vs
    · have hlt : ¬ i < σ.length := fun z => hi ⟨hm, z⟩
      rw [List.getElem?_eq_none (by omega), List.getElem?_eq_none (by omega)]
    · rw [h i fun z => hm (hj i z), wipe_get, if_neg hi]

/-- the tests of a clause -/
def tDT (Z : Ent) (g : Db) : TT := tDB Z W0 g
def bYes : Db := fun _ μ => some (.ok true μ)
section
variable {X : Cx} {Z : Ent} {e : Expr} {g : Db}
theorem xts_nil : PTs X [] (tDB Z W0 bYes) := ⟨fun pins s σ H Q I ⟨p, μ, Γ, sr, er, h⟩ => pts_nil.run pins s σ H Q I (h H p (.refl p) sr)⟩
theorem xts_one (h : PT X e (tDB Z W0 g)) : PTs X [e] (tDB Z W0 g) := pts_one h
end

/-- the turns of a comprehension; n0: where its list grows -/
def lcD (v : ItV) (g : Dg) (c : Db) (e : De) (own : List Nat) (n0 : Nat) (Γ : Gam) : Nat → Nat → Mu → Option Mu
  | 0, _, μ => if v.ok μ then some μ else none
  | k + 1, i, μ => if v.ok μ then match v.at μ i with
    | some y => match g y (wipeG Γ own) μ with
      | some Γ1 => match c Γ1 μ with
        | some (.ok true μ1) => match e Γ1 μ1 with
          | some (.ok t μ2) => match μ2[n0]? with
            | some (.lst acc) => if acc.length < sizeLine then lcD v g c e own n0 Γ k (i + 1) (μ2.set n0 (.lst (acc ++ [t]))) else none
            | _ => none
          | _ => none
        | some (.ok false μ1) => lcD v g c e own n0 Γ k (i + 1) μ1
        | _ => none
      | none => none
    | none => none
    else none
/-- the list that has come: it lives on, or stands for good from now on -/
def lcEnd (live : Bool) (n0 m0 : Nat) (μ : Mu) : Vt :=
  if live then some (.m n0, μ) else match μ[n0]? with
    | some (.lst ts) => match pack ts with
      | some (f, ds) => if m0 ≤ n0 ∧ (μ.take n0).all (Cell.low n0) then some (.v f (.lst ds), μ.take n0) else none
      | none => none
    | _ => none
def dLc (live : Bool) (m0 : Nat) (it : Di) (g : Dg) (c : Db) (e : De) (own : List Nat) : De := fun Γ μ => Ot.bind (it Γ μ) fun v μ1 => match lcD v g c e own μ1.length Γ v.len 0 (μ1 ++ [.lst []]) with
  | some μ2 => (lcEnd live μ1.length m0 μ2).ot
  | none => none
section
variable {Z : Ent} {p q : Pt} {H : Hp} {μ : Mu}
theorem take_set {α : Type} (l : List α) (n : Nat) (x : α) : (l.set n x).take n = l.take n := by
  rw [List.take_set]
  exact List.set_eq_of_length_le (by rw [List.length_take]; exact Nat.min_le_left _ _)
theorem lcEnd_ok (s : SR Z q H μ) {live : Bool} {n0 : Nat} {D : Addr} {Q : VK} (hn : p.ms.length = n0) (l : p.Le q) (hD : q.ms[n0]? = some D) (h : VPost Z Q p (lcEnd live n0 Z.ms0.length μ)) : Q (.ref D) H := by
  unfold lcEnd at h
  split at h
  · exact h _ _ q l s ⟨D, hD, rfl⟩
  · split at h
    · rename_i ts hts
      split at h
      · rename_i f ds hp
        split at h
        · rename_i hc
          obtain ⟨h0, hlow⟩ := hc
          obtain ⟨o, ho, s2, l2, r2⟩ := s.freeze hD hts h0 hp
          have s3 := s2.cut h0 (by rw [take_set]; exact hlow)
          rw [take_set] at s3
          have l3 : p.Le ((q.add f D o).cut n0) := s2.cut_le (l.trans l2) (by rw [hn]; exact Nat.le_refl _)
          exact h _ _ _ l3 s3 (RT.low rfl r2)
        · exact h.elim
      · exact h.elim
    · exact h.elim
end
section
variable {X : Cx} {Z : Ent} {W : Wish} {tg iter elt : Expr} {ifs : List Expr} {scope : Scope} {own : List (Str × Nat)} {pos spos : Pos} {it : Di} {g : Dg} {js : List Nat} {c : Db} {e : De}
theorem lc_owes {live : Bool} (hj : ∀ i ∈ js, i ∈ own.map (·.2)) {σ : L2.St} {H : Hp} {Q : VK} (h : tD Z W (dLc live Z.ms0.length it g c e (own.map (·.2))) σ H Q) :
    tLc (tI Z W it) (tG Z js g) (tDB Z W0 c) (tD Z W0 e) (own.map (·.2)) σ H Q := by
  obtain ⟨p, μ, Γ, s, er, h⟩ := h
  obtain ⟨p', μ', Γ', s', e', h'⟩ := tI_bind s er h
  refine ⟨p', μ', Γ', s', e', ?_⟩
  match hg : it Γ' μ', h' with
  | some (.exc c t μ1), h' => exact h'
  | some (.ok v μ1), h' =>
    intro J H1 q hl hs hJ D hD
    obtain ⟨q1, μ2, v2, l1, s1, e1, r1, k1⟩ := h' J H1 q hl hs hJ
    have s2 : SR Z (q1.push D) (upd H1 D (.lst [])) (μ2 ++ [.lst []]) := s1.push hD rfl ⟨[], upd_same, .nil⟩
    have hn : q1.ms.length = μ2.length := s1.len
    have hat : (q1.push D).ms[μ2.length]? = some D := by
      show (q1.ms ++ [D])[μ2.length]? = some D
      rw [← hn]; simp
    have atD : ∀ {r : Pt}, (q1.push D).Le r → r.ms[μ2.length]? = some D := fun {r} l => by
      obtain ⟨x, hx⟩ := l.m
      rw [← hx, List.getElem?_append_left (List.getElem?_eq_some_iff.mp hat).1]
      exact hat
    let G : Nat → Mu → Prop := fun i μ3 => ∃ μ4, lcD v2 g c e (own.map (·.2)) μ2.length Γ (v2.len - i) i μ3 = some μ4 ∧ Post Z W σ Q q1 (lcEnd live μ2.length Z.ms0.length μ4).ot
    have g0 : G 0 (μ2 ++ [.lst []]) := by
      split at k1
      · rename_i μ4 h4
        exact ⟨μ4, h4, k1⟩
      · exact k1.elim
    let Pv : Nat → Hp → Prop := fun i H => ∃ (p3 : Pt) (μ3 : Mu), (q1.push D).Le p3 ∧ SR Z p3 H μ3 ∧ G i μ3
    refine ⟨fun i m H => m = v2.len - i ∧ i ≤ v2.len ∧ Pv i H, ⟨v2.len, by simp, Nat.zero_le _, q1.push D, _, .refl _, s2, g0⟩, ?_⟩
    rintro i m H ⟨rfl, hi, p3, μ3, l3, s3, μ4, h4, k4⟩
    by_cases hlt : i < v2.len
    · obtain ⟨k, hk⟩ : ∃ k, v2.len - i = k + 1 := ⟨v2.len - i - 1, by omega⟩
      have hk' : v2.len - (i + 1) = k := by omega
      rw [hk] at h4
      simp only [lcD] at h4
      split at h4
      · rename_i hok
        refine .inr ⟨r1.go _ _ _ i ((Pt.push_le).trans l3) s3 hok hlt, fun H' => i + 1 ≤ v2.len ∧ Pv (i + 1) H', fun H' nx => ⟨v2.len - (i + 1), by omega, rfl, nx.1, nx.2⟩, fun x H' y => ?_⟩
        split at h4
        · rename_i yv hyv
          obtain ⟨p4, l4, s4, ry⟩ := r1.yld _ _ _ i x H' yv ((Pt.push_le).trans l3) s3 hyv y
          have e4 : ER Z p4 (wipe σ (own.map (·.2))) (wipeG Γ (own.map (·.2))) := ((e1.mono (Pt.push_le.trans l3)).mono l4).wipeL _
          split at h4
          · rename_i Γ5 hgg
            refine ⟨p4, μ3, _, Γ5, yv, s4, e4, ry, hgg, fun σ5 e5 k5 n5 => ⟨wipe_agree k5 (n5.trans (wipe_length ..)) hj, p4, μ3, Γ5, s4, e5, ?_⟩⟩
            cases hc : c Γ5 μ3 with
            | none => rw [hc] at h4; cases h4
            | some rc =>
              rw [hc] at h4
              cases rc with
              | exc _ _ _ => cases h4
              | ok bb μ6 =>
                cases bb with
                | false =>
                  intro H6 p6 l6 s6
                  rw [if_neg Bool.false_ne_true]
                  exact ⟨hlt, p6, μ6, (l3.trans l4).trans l6, s6, μ4, by rw [hk']; exact h4, k4⟩
                | true =>
                  intro H6 p6 l6 s6
                  rw [if_pos rfl]
                  refine ⟨p6, μ6, Γ5, s6, e5.mono l6, ?_⟩
                  cases he : e Γ5 μ6 with
                  | none => simp only [he] at h4; cases h4
                  | some re =>
                    simp only [he] at h4
                    cases re with
                    | exc _ _ _ => cases h4
                    | ok t μ7 =>
                      intro v7 H7 p7 l7 s7 r7
                      cases hm : μ7[μ2.length]? with
                      | none => simp only [hm] at h4; cases h4
                      | some cc =>
                        simp only [hm] at h4
                        cases cc with
                        | lst acc =>
                          dsimp only at h4
                          split at h4
                          · rename_i hz
                            have L : (q1.push D).Le p7 := ((l3.trans l4).trans l6).trans l7
                            have hD7 := atD L
                            obtain ⟨vs, hv, rv⟩ := s7.cell _ _ _ hD7 hm
                            refine ⟨vs, hv, by rw [rv.length]; exact hz, hlt, p7, _, L, s7.write hD7 hm rfl rfl (c' := .lst (acc ++ [t])) ⟨vs ++ [v7], upd_same, rv.append (.cons r7 .nil)⟩, μ4, by rw [hk']; exact h4, k4⟩
                          · cases h4
                        | obj _ _ => cases h4
                        | dT _ _ => cases h4
                        | dK _ _ => cases h4
                        | frz _ _ => cases h4
                        | hid => cases h4
                        | tup _ => cases h4
          · cases h4
        · cases h4
      · cases h4
    · have hi' : i = v2.len := by omega
      subst hi'
      rw [Nat.sub_self] at h4
      simp only [lcD] at h4
      split at h4
      · rename_i hok
        cases h4
        exact .inl ⟨r1.stop _ _ _ (Pt.push_le.trans l3) s3 hok, lcEnd_ok (p := q1) s3 hn (Pt.push_le.trans l3) (atD l3) (VPost.post k4)⟩
      · cases h4
end
end L3

set_option Elab.async false
set_option linter.all false
set_option maxRecDepth 100000
set_option maxHeartbeats 4000000
/-! L3, sixteenth part: statements. -/
namespace L3
open PySem PySem.Spec PyProof.Rows L2

section
variable {X : Cx} {Z : Ent} {W : Wish} {tg iter elt : Expr} {ifs : List Expr} {scope : Scope} {own : List (Str × Nat)} {pos spos py : Pos} {it : Di} {g : Dg} {js : List Nat} {c : Db} {e : De}
theorem xe_lc (live : Bool) {m0 : Nat} (hm : Z.ms0.length = m0) (hc : X.calm = true) (hN : X.N.Nodup) (hi : PI X tg iter (tI Z W it)) (ok : BlkOk X.N X.env.scope scope own) (hj : ∀ i ∈ js, i ∈ own.map (·.2))
    (hg : ∀ (s : Shared) (H : Hp) (C : Addr) (cl : List (Str × Addr)) (fp : List Addr), PG (X.blk s H scope (compEnvC scope cl C X.env) fp) tg (tG Z js g)) (ht : ∀ (s : Shared) (H : Hp) (C : Addr) (cl : List (Str × Addr)) (fp : List Addr), PTs (X.blk s H scope (compEnvC scope cl C X.env) fp) ifs (tDB Z W0 c))
    (he : ∀ (s : Shared) (H : Hp) (C : Addr) (cl : List (Str × Addr)) (fp : List Addr), PE (X.blk s H scope (compEnvC scope cl C X.env) fp) elt (tD Z W0 e)) (hs : ∀ x, foldedSetIterable iter X.env x = pure x) :
    PE X (.ListComp elt [⟨tg, iter, ifs, 0⟩] scope pos) (tD Z W (dLc live m0 it g c e (own.map (·.2)))) := by
  subst hm
  exact pe_imp (pe_lc hc hN hi ok hg ht he hs) fun σ H Q h => lc_owes hj h

/-! names, returns, sequences -/
def sSet (i : Nat) (g : De) : Ds := fun Γ μ => Ot.bindS (g Γ μ) Γ fun t μ1 => some (.nx (Γ.set i (some t)) μ1)
def sRet (g : De) : Ds := fun Γ μ => Ot.bindS (g Γ μ) Γ fun t μ1 => some (.rt t μ1)
def sRetN : Ds := fun _ μ => some (.rt (.v true .non) μ)
def sExp (g : De) : Ds := fun Γ μ => Ot.bindS (g Γ μ) Γ fun _ μ1 => some (.nx Γ μ1)
def sNil : Ds := fun Γ μ => some (.nx Γ μ)
def sBrk : Ds := fun Γ μ => some (.bk Γ μ)
def sCnt : Ds := fun Γ μ => some (.ct Γ μ)
def sSeq (a b : Ds) : Ds := fun Γ μ => match a Γ μ with
  | some (.nx Γ1 μ1) => b Γ1 μ1
  | r => r
def sIf (c : Db) (a b : Ds) : Ds := fun Γ μ => Ot.bindS (c Γ μ) Γ fun k μ1 => if k then a Γ μ1 else b Γ μ1
/-- a value to any target -/
def sAsg (g : De) (h : Dg) : Ds := fun Γ μ => Ot.bindS (g Γ μ) Γ fun t μ1 => match h (.one t) Γ μ1 with
  | some Γ1 => some (.nx Γ1 μ1)
  | none => none
variable {ex : Expr} {st : Stmt} {rest body orelse : List Stmt} {ge : De} {a b : Ds} {i j k : Nat} {x y z : Str} {gc : Db}
theorem set_owes {Q : L2.St → Hp → Prop} {rt : VK} {bk ct : L2.St → Hp → Prop} {σ : L2.St} {H : Hp} (h : tDS Z W (sSet i ge) { nx := Q, rt := rt, bk := bk, ct := ct } σ H) : tD Z W ge σ H fun v H1 => Q (σ.set i (some v)) H1 := by
  obtain ⟨p, μ, Γ, s, e, h⟩ := h
  obtain ⟨p', μ', Γ', s', e', h'⟩ := tD_bindS s e h
  refine ⟨p', μ', Γ', s', e', ?_⟩
  match hg : ge Γ' μ', h' with
  | some (.ok t μ1), h' =>
    intro v H' q hl hs hr
    obtain ⟨q1, μ2, t2, l1, s1, e1, r1, k1⟩ := h' v H' q hl hs hr
    exact k1 _ _ q1 (.refl _) s1 (e1.set r1 _)
  | some (.exc c t μ1), h' => exact h'
theorem xs_set {pos' : Pos} (hN : X.N.Nodup) (hi : X.N[i]? = some x) (hx : Loc X.env.scope x) (he : PE X ex (tD Z W ge)) (hs : swapsWith ex (some (.Name x pos')) pos.line X.env = pure false) (hf : X.fn x = true ∨ X.env.scope.names.lookup x = some .local) :
    PS X (.Assign [.Name x pos'] ex pos) (tDS Z W (sSet i ge)) :=
  ps_imp (ps_set hN hi hx he hs hf) fun D σ H h => set_owes h
theorem xs_setLc (live : Bool) {m0 : Nat} (hm : Z.ms0.length = m0) (hc : X.calm = true) (hN : X.N.Nodup) (hy : X.N[i]? = some y) (hyl : X.env.scope.names.lookup y = some .local)
    (hsw : swapsWith (.ListComp elt [⟨tg, iter, ifs, 0⟩] scope pos) (some (.Name y py)) spos.line X.env = pure true) (hi : PI X tg iter (tI Z W it)) (ok : BlkOk X.N X.env.scope scope own) (hj : ∀ i ∈ js, i ∈ own.map (·.2))
    (hg : ∀ (s : Shared) (H : Hp) (C : Addr) (cl : List (Str × Addr)) (fp : List Addr), PG (X.blk s H scope (compEnvC scope cl C X.env) fp) tg (tG Z js g)) (ht : ∀ (s : Shared) (H : Hp) (C : Addr) (cl : List (Str × Addr)) (fp : List Addr), PTs (X.blk s H scope (compEnvC scope cl C X.env) fp) ifs (tDB Z W0 c))
    (he : ∀ (s : Shared) (H : Hp) (C : Addr) (cl : List (Str × Addr)) (fp : List Addr), PE (X.blk s H scope (compEnvC scope cl C X.env) fp) elt (tD Z W0 e)) (hs : ∀ x, foldedSetIterable iter X.env x = pure x) :
    PS X (.Assign [.Name y py] (.ListComp elt [⟨tg, iter, ifs, 0⟩] scope pos) spos) (tDS Z W (sSet i (dLc live m0 it g c e (own.map (·.2))))) := by
  subst hm
  exact ps_imp (ps_setLc hc hN hy hyl hsw hi ok hg ht he hs) fun D σ H h => lc_owes hj (set_owes h)
theorem xs_ret (he : PE X ex (tD Z W ge)) : PS X (.Return (some ex) pos) (tDS Z W (sRet ge)) :=
  ps_imp (ps_ret he) fun D σ H ⟨p, μ, Γ, s, e, h⟩ => by
    obtain ⟨p', μ', Γ', s', e', h'⟩ := tD_bindS s e h
    refine ⟨p', μ', Γ', s', e', ?_⟩
    match hg : ge Γ' μ', h' with
    | some (.ok t μ1), h' =>
      intro v H' q hl hs hr
      obtain ⟨q1, μ2, t2, l1, s1, e1, r1, k1⟩ := h' v H' q hl hs hr
      exact k1 _ _ q1 (.refl _) s1 r1
    | some (.exc c t μ1), h' => exact h'
theorem xs_retN : PS X (.Return none pos) (tDS Z W sRetN) :=
  ps_imp ps_retN fun D σ H ⟨p, μ, Γ, s, e, h⟩ => h .non H p (.refl _) s (Dx.non : Dx Z.K Z.TB p.N _ _)
theorem xs_exp (he : PE X ex (tD Z W ge)) (hs : swapsWith ex none pos.line X.env = pure false) : PS X (.Expr ex pos) (tDS Z W (sExp ge)) :=
  ps_imp (ps_expr he hs) fun D σ H ⟨p, μ, Γ, s, e, h⟩ => by
    obtain ⟨p', μ', Γ', s', e', h'⟩ := tD_bindS s e h
    refine ⟨p', μ', Γ', s', e', ?_⟩
    match hg : ge Γ' μ', h' with
    | some (.ok t μ1), h' =>
      intro v H' q hl hs hr
      obtain ⟨q1, μ2, t2, l1, s1, e1, r1, k1⟩ := h' v H' q hl hs hr
      exact k1 _ _ q1 (.refl _) s1 e1
    | some (.exc c t μ1), h' => exact h'
theorem xs_pass : PS X (.Pass pos) (tDS Z W sNil) := ps_imp ps_pass fun D σ H ⟨p, μ, Γ, s, e, h⟩ => h σ H p (.refl _) s e
theorem xs_brk : PS X (.Break pos) (tDS Z W sBrk) := ps_imp ps_break fun D σ H ⟨p, μ, Γ, s, e, h⟩ => h σ H p (.refl _) s e
theorem xs_cnt : PS X (.Continue pos) (tDS Z W sCnt) := ps_imp ps_continue fun D σ H ⟨p, μ, Γ, s, e, h⟩ => h σ H p (.refl _) s e
theorem xss_nil : PSs X [] (tDS Z W sNil) := pss_imp pss_nil fun D σ H ⟨p, μ, Γ, s, e, h⟩ => h σ H p (.refl _) s e
theorem xss_cons (h1 : PS X st (tDS Z W a)) (h2 : PSs X rest (tDS Z W b)) : PSs X (st :: rest) (tDS Z W (sSeq a b)) :=
  pss_imp (pss_cons h1 h2) fun D σ H ⟨p, μ, Γ, s, e, h⟩ => by
    refine ⟨p, μ, Γ, s, e, ?_⟩
    unfold sSeq at h
    match hg : a Γ μ, h with
    | some (.nx Γ1 μ1), h => exact fun σ1 H1 q l s1 e1 => ⟨q, μ1, Γ1, s1, e1, PostS.le l h⟩
    | some (.rt _ _), h => exact h
    | some (.bk _ _), h => exact h
    | some (.ct _ _), h => exact h
    | some (.ex _ _ _ _), h => exact h
theorem xss_one (h1 : PS X st (tDS Z W a)) : PSs X [st] (tDS Z W a) := pss_one h1
theorem xs_if (hc : PT X ex (tDB Z W gc)) (ha : PSs X body (tDS Z W a)) (hb : PSs X orelse (tDS Z W b)) : PS X (.If ex body orelse pos) (tDS Z W (sIf gc a b)) :=
  ps_imp (ps_if hc ha hb) fun D σ H ⟨p, μ, Γ, s, e, h⟩ => by
    obtain ⟨p', μ', Γ', s', e', h'⟩ := tDB_bindS s e h
    refine ⟨p', μ', Γ', s', e', ?_⟩
    match hg : gc Γ' μ', h' with
    | some (.ok t μ1), h' =>
      intro H' q hl hs
      obtain ⟨q1, μ2, l1, s1, e1, k1⟩ := h' H' q hl hs
      cases t
      · exact ⟨q1, μ2, Γ, s1, e1, k1⟩
      · exact ⟨q1, μ2, Γ, s1, e1, k1⟩
    | some (.exc c t μ1), h' => exact h'
theorem xs_asg (he : PE X ex (tD Z W ge)) (hg : PG X tg (tG Z js g)) (hs : swapsWithSole [tg] ex pos.line X.env = pure false) (hw : swappedStores [tg] ex X.env = pure none) (h1 : (assignEach [tg] X.env).map (·.2) = [assign tg X.env]) :
    PS X (.Assign [tg] ex pos) (tDS Z W (sAsg ge g)) :=
  ps_imp (ps_asg he hg hs hw h1) fun D σ H ⟨p, μ, Γ, s, e, h⟩ => by
    obtain ⟨p', μ', Γ', s', e', h'⟩ := tD_bindS s e h
    refine ⟨p', μ', Γ', s', e', ?_⟩
    match hg : ge Γ' μ', h' with
    | some (.ok t μ1), h' =>
      intro v H' q hl hs hr
      obtain ⟨q1, μ2, t2, l1, s1, e1, r1, k1⟩ := h' v H' q hl hs hr
      split at k1
      · rename_i Γ1 hg1
        exact ⟨q1, μ2, Γ, Γ1, .one t2, s1, e1, r1, hg1, fun σ' e' _ _ => k1 _ _ q1 (.refl _) s1 e'⟩
      · exact k1.elim
    | some (.exc c t μ1), h' => exact h'
/-- a, b = x, y -/
def sPar (i j : Nat) (da : Da) : Ds := fun Γ μ => Ot.bindS (da Γ μ) Γ fun ts μ1 => match ts with
  | [t, u] => some (.nx ((Γ.set i (some t)).set j (some u)) μ1)
  | _ => none
variable {e1 e2 e3 : Expr} {da : Da} {px p2 p3 pt : Pos} {kt k2 : Nat} {pt2 : Pos}
theorem xs_par {kt k2 pt2} (hc : X.calm = true) (hN : X.N.Nodup) (hi : X.N[i]? = some x) (hj : X.N[j]? = some y) (hij : i ≠ j)
    (hx : X.env.scope.names.lookup x = some .local) (hy : X.env.scope.names.lookup y = some .local) (ha : PA X [e1, e2] (tDA Z W da))
    (hw : swappedStores [.Tuple [.Name x px, .Name y py] kt pt] (.Tuple [e1, e2] k2 pt2) X.env = pure (some [x, y]))
    (hs : swapsWithSole [.Tuple [.Name x px, .Name y py] kt pt] (.Tuple [e1, e2] k2 pt2) pos.line X.env = pure false) :
    PS X (.Assign [.Tuple [.Name x px, .Name y py] kt pt] (.Tuple [e1, e2] k2 pt2) pos) (tDS Z W (sPar i j da)) :=
  ps_imp (ps_par hc hN hi hj hij hx hy ha hw hs) fun D σ H ⟨p, μ, Γ, s, e, h⟩ => by
    obtain ⟨p', μ', Γ', s', e', h'⟩ := tDA_bindS s e h
    refine ⟨p', μ', Γ', s', e', ?_⟩
    match hg : da Γ' μ', h' with
    | some (.ok t μ1), h' =>
      intro v H' q hl hs hr
      obtain ⟨q1, μ2, t2, l1, s1, e1, r1, k1⟩ := h' v H' q hl hs hr
      split at k1
      · rename_i t u
        obtain ⟨w, w2, rfl, hw, hw2⟩ := r1.two
        exact ⟨w, w2, rfl, k1 _ _ q1 (.refl _) s1 ((e1.set hw _).set hw2 _)⟩
      · exact k1.elim
    | some (.exc c t μ1), h' => exact h'

/-! while -/
def whK (c : Db) (b : Ds) : Nat → Ds
  | 0, _, _ => none
  | n + 1, Γ, μ => Ot.bindS (c Γ μ) Γ fun k μ1 => if k then match b Γ μ1 with
    | some (.nx Γ2 μ2) => whK c b n Γ2 μ2
    | some (.ct Γ2 μ2) => whK c b n Γ2 μ2
    | some (.bk Γ2 μ2) => some (.nx Γ2 μ2)
    | r => r
    else some (.nx Γ μ1)
theorem whK_succ (c : Db) (b : Ds) : ∀ (n : Nat) (Γ : Gam) (μ : Mu) (r : Eo), whK c b n Γ μ = some r → whK c b (n + 1) Γ μ = some r
  | 0, _, _, _, h => by cases h
  | n + 1, Γ, μ, r, h => by
    simp only [whK] at h
    rw [whK]
    cases hc : c Γ μ with
    | none => rw [hc] at h; cases h
    | some rc =>
      rw [hc] at h
      cases rc with
      | exc _ _ _ => exact h
      | ok k μ1 =>
        dsimp only [Ot.bindS] at h ⊢
        cases k with
        | false => exact h
        | true =>
          simp only [if_true] at h ⊢
          cases hb : b Γ μ1 with
          | none => rw [hb] at h; cases h
          | some rb =>
            rw [hb] at h
            cases rb with
            | nx Γ2 μ2 => exact whK_succ c b n Γ2 μ2 r h
            | ct Γ2 μ2 => exact whK_succ c b n Γ2 μ2 r h
            | bk _ _ => exact h
            | rt _ _ => exact h
            | ex _ _ _ _ => exact h
theorem whK_le (c : Db) (b : Ds) {n m : Nat} (h : n ≤ m) {Γ : Gam} {μ : Mu} {r : Eo} (e : whK c b n Γ μ = some r) : whK c b m Γ μ = some r := by
  induction h with
  | refl => exact e
  | step _ ih => exact whK_succ c b _ _ _ _ ih
open Classical in
noncomputable def sWh (c : Db) (b : Ds) : Ds := fun Γ μ => if h : ∃ n r, whK c b n Γ μ = some r then some (Classical.choose (Classical.choose_spec h)) else none
theorem sWh_of {c : Db} {b : Ds} {n : Nat} {Γ : Gam} {μ : Mu} {r : Eo} (h : whK c b n Γ μ = some r) : sWh c b Γ μ = some r := by
  have h0 : ∃ n r, whK c b n Γ μ = some r := ⟨n, r, h⟩
  unfold sWh
  rw [dif_pos h0]
  have q := Classical.choose_spec (Classical.choose_spec h0)
  have q1 := whK_le c b (Nat.le_max_left (Classical.choose h0) n) q
  have q2 := whK_le c b (Nat.le_max_right (Classical.choose h0) n) h
  exact q1.symm.trans q2
theorem sWh_ex {c : Db} {b : Ds} {Γ : Gam} {μ : Mu} {r : Eo} (h : sWh c b Γ μ = some r) : ∃ n, whK c b n Γ μ = some r := by
  unfold sWh at h
  split at h
  · rename_i h0
    cases h
    exact ⟨_, Classical.choose_spec (Classical.choose_spec h0)⟩
  · cases h
theorem xs_wh (hp : PassesOwn (model X.prog X.w) X.A X.env X.xe) (hc : PT X ex (tDB Z W gc)) (hb : PSs X body (tDS Z W b)) : PS X (.While ex body [] pos) (tDS Z W (sWh gc b)) :=
  ps_imp (ps_while hp hc hb) fun D σ H ⟨p, μ, Γ, s, e, h⟩ => by
    obtain ⟨n, r, hn, hr⟩ : ∃ n r, whK gc b n Γ μ = some r ∧ PostS Z W D p (some r) := by
      cases hh : sWh gc b Γ μ with
      | none => rw [hh] at h; exact h.elim
      | some r =>
        obtain ⟨n, hn⟩ := sWh_ex hh
        exact ⟨n, r, hn, by rw [hh] at h; exact h⟩
    refine ⟨fun m σ H => ∃ (p : Pt) (μ : Mu) (Γ : Gam), SR Z p H μ ∧ ER Z p σ Γ ∧ PostS Z W D p (whK gc b m Γ μ), ⟨n, p, μ, Γ, s, e, by rw [hn]; exact hr⟩, ?_⟩
    rintro m σ H ⟨p, μ, Γ, s, e, h⟩
    cases m with
    | zero => exact h.elim
    | succ m =>
      simp only [whK] at h
      obtain ⟨p', μ', Γ', s', e', h'⟩ := tDB_bindS s e h
      refine ⟨p', μ', Γ', s', e', ?_⟩
      match hg : gc Γ' μ', h' with
      | some (.exc c t μ1), h' => exact h'
      | some (.ok t μ1), h' =>
        intro H' q hl hs
        obtain ⟨q1, μ2, l1, s1, e1, k1⟩ := h' H' q hl hs
        cases t with
        | false => exact k1 _ _ q1 (.refl _) s1 e1
        | true =>
          simp only [if_true] at k1 ⊢
          refine ⟨fun σ H => ∃ (p : Pt) (μ : Mu) (Γ : Gam), SR Z p H μ ∧ ER Z p σ Γ ∧ PostS Z W D p (whK gc b m Γ μ), fun σ' H' h => ⟨m, Nat.lt_succ_self _, h⟩, q1, μ2, Γ, s1, e1, ?_⟩
          match hb : b Γ μ2, k1 with
          | some (.nx Γ6 μ6), k1 => exact fun σ H q l s e => ⟨q, μ6, Γ6, s, e, PostS.le l k1⟩
          | some (.ct Γ6 μ6), k1 => exact fun σ H q l s e => ⟨q, μ6, Γ6, s, e, PostS.le l k1⟩
          | some (.bk Γ6 μ6), k1 => exact k1
          | some (.rt t6 μ6), k1 => exact k1
          | some (.ex Γ6 c6 t6 μ6), k1 => exact k1
end
end L3

set_option Elab.async false
set_option linter.all false
set_option maxRecDepth 100000
set_option maxHeartbeats 4000000
/-! L3, seventeenth part: defs and calls. -/
namespace L3
open PySem PySem.Spec PyProof.Rows L2

/-- what every rule of an expression may ask; k: how deep calls may go -/
structure Be (X : Cx) (Z : Ent) (W : Wish) (k : Nat) : Prop where
  hK : X.K = Z.K
  room : Room k X.A
  gd : X.A.guards = some []
  calm : X.calm = true
  nd : X.N.Nodup
  tk : Takes X W
structure Bs (X : Cx) (Z : Ent) (W : Wish) (k : Nat) : Prop extends Be X Z W k where
  own : PassesOwn (model X.prog X.w) X.A X.env X.xe
section
variable {X : Cx} {Z : Ent} {W : Wish} {k : Nat}
theorem Be.hu (b : Be X Z W k) : X.A.units + 65 < cLine := by
  have := b.room.un
  omega
theorem Be.blk (b : Be X Z W k) (s : Shared) (H : Hp) (scope : Scope) (C : Addr) (cl : List (Str × Addr)) (fp : List Addr) : Be (X.blk s H scope (compEnvC scope cl C X.env) fp) Z W0 k :=
  ⟨b.hK, b.room, b.gd, b.calm, b.nd, fun u s' ⟨_, _, _, _, _, _, _, _, _, _, _, _, _, _, _, _, w⟩ => w.elim⟩
end

/-! a def -/
/-- what of the cells goes back: nothing but the ones handed in, or one more -/
def retV (m0 : Nat) (t : T) (μ : Mu) : T × Mu := if (μ.take m0).all (Cell.low m0) then
    if t.low m0 then (t, μ.take m0) else match t with
      | .m j => match μ[j]? with
        | some c => if m0 ≤ j ∧ c.low m0 = true then (.m m0, μ.take m0 ++ [c]) else (t, μ)
        | none => (t, μ)
      | .v _ _ => (t, μ)
  else (t, μ)
def retD (m0 : Nat) : Option Eo → Ot T
  | some (.nx _ μ) => some (.ok (retV m0 (.v true .non) μ).1 (retV m0 (.v true .non) μ).2)
  | some (.rt t μ) => some (.ok (retV m0 t μ).1 (retV m0 t μ).2)
  | some (.ex _ c t μ) => some (.exc c (retV m0 t μ).1 (retV m0 t μ).2)
  | _ => none
def startG (n nN : Nat) (ts : List T) : Gam := ts.map some ++ List.replicate (nN - n) none
def defD (n nN : Nat) (g : Nat → Ds) (ts : List T) (μ : Mu) : Ot T := retD μ.length (g μ.length (startG n nN ts) μ)
section
variable {Z : Ent} {p q : Pt} {H : Hp} {μ : Mu}
theorem SR.keep1 (s : SR Z q H μ) {k j : Nat} {a : Addr} {c : Cell} (h0 : Z.ms0.length ≤ k) (hk : k ≤ j) (hl : (μ.take k).all (Cell.low k) = true) (hj : q.ms[j]? = some a) (hc : μ[j]? = some c) (hlow : c.low k = true) :
    SR Z ((q.cut k).push a) H (μ.take k ++ [c]) := by
  have sc := s.cut h0 hl
  have hjl : j < q.ms.length := (List.getElem?_eq_some_iff.mp hj).1
  have hkl : (q.cut k).ms.length = k := by
    show (q.ms.take k).length = k
    rw [List.length_take]; omega
  refine ⟨s.sub, s.nin, s.fr, s.org, s.keep, s.dom, sc.pre.trans (List.prefix_append _ _), ?_, ?_, fun i b d hi hd hv => ?_, fun b hb => ?_, fun i b hi h1 => ?_, fun i b d hi hd => ?_⟩
  · show (q.ms.take k ++ [a]).Nodup
    rw [List.nodup_append]
    refine ⟨sc.nd, by simp, fun b hb c' hc' => ?_⟩
    have : c' = a := by simpa using hc'
    subst this
    intro z
    subst z
    obtain ⟨i, hi⟩ := List.getElem?_of_mem hb
    have hik : i < k := by
      have := (List.getElem?_eq_some_iff.mp hi).1
      rw [List.length_take] at this
      omega
    rw [List.getElem?_take_of_lt hik] at hi
    have := nd_ix s.nd hi hj
    omega
  · show (q.ms.take k ++ [a]).length = (μ.take k ++ [c]).length
    have := sc.len
    rw [List.length_append, List.length_append]
    have h2 : (q.ms.take k).length = (μ.take k).length := this
    rw [h2]
    rfl
  · rcases get_snoc hi with ⟨h1, h2⟩ | ⟨h1, h2⟩
    · rw [List.getElem?_append_left (by rw [← sc.len]; exact h1)] at hd
      exact sc.nof i b d h2 hd hv
    · subst h2
      rw [h1, sc.len, List.getElem?_append_right (Nat.le_refl _), Nat.sub_self] at hd
      have : d = c := by simpa using hd.symm
      subst this
      exact s.nof j b d hj hc hv
  · rcases List.mem_append.mp (show b ∈ q.ms.take k ++ [a] from hb) with hb | hb
    · exact sc.trk b hb
    · have : b = a := by simpa using hb
      subst this
      exact s.trk b (List.mem_of_getElem? hj)
  · rcases get_snoc hi with ⟨h2, h3⟩ | ⟨h2, h3⟩
    · exact sc.new i b h3 h1
    · subst h3
      exact s.new j b hj (Nat.le_trans h0 hk)
  · rcases get_snoc hi with ⟨h1, h2⟩ | ⟨h1, h2⟩
    · rw [List.getElem?_append_left (by rw [← sc.len]; exact h1)] at hd
      exact Cell.mono Pt.push_le rfl (sc.cell i b d h2 hd)
    · subst h2
      rw [h1, sc.len, List.getElem?_append_right (Nat.le_refl _), Nat.sub_self] at hd
      have : d = c := by simpa using hd.symm
      subst this
      exact Cell.mono Pt.push_le rfl ((s.cell j b d hj hc).low hlow)
theorem retV_ok (s : SR Z q H μ) {t : T} {v : V} (l : p.Le q) (hp : p.ms.length = Z.ms0.length) (r : RT Z q v t) : ∃ r', p.Le r' ∧ SR Z r' H (retV Z.ms0.length t μ).2 ∧ RT Z r' v (retV Z.ms0.length t μ).1 ∧ r'.N = q.N := by
  unfold retV
  have lc : p.Le (q.cut Z.ms0.length) := s.cut_le l (Nat.le_of_eq hp)
  split
  · rename_i hl
    split
    · rename_i h
      exact ⟨_, lc, s.cut (Nat.le_refl _) hl, r.low h, rfl⟩
    · split
      · rename_i j hnl
        obtain ⟨a, hj, hv⟩ := r
        split
        · rename_i c hc
          split
          · rename_i h
            refine ⟨_, lc.trans Pt.push_le, s.keep1 (Nat.le_refl _) h.1 hl hj hc h.2, ⟨a, ?_, hv⟩, rfl⟩
            show (q.ms.take Z.ms0.length ++ [a])[Z.ms0.length]? = some a
            have hjl : j < q.ms.length := (List.getElem?_eq_some_iff.mp hj).1
            have : (q.ms.take Z.ms0.length).length = Z.ms0.length := by rw [List.length_take]; omega
            rw [List.getElem?_append_right (by omega), this, Nat.sub_self]
            rfl
          · exact ⟨q, l, s, ⟨a, hj, hv⟩, rfl⟩
        · exact ⟨q, l, s, ⟨a, hj, hv⟩, rfl⟩
      · exact ⟨q, l, s, r, rfl⟩
  · exact ⟨q, l, s, r, rfl⟩
theorem start_er : ∀ {vs : List V} {ts : List T}, RTs Z p vs ts → ∀ N : List Str, ER Z p (L2.start N vs) (startG ts.length N.length ts) := fun {vs ts} r N => by
  have hl := r.length
  refine ⟨by unfold L2.start startG; simp [hl], fun i t h => ?_⟩
  unfold startG at h
  unfold L2.start
  by_cases hi : i < ts.length
  · rw [List.getElem?_append_left (by rw [List.length_map]; exact hi), List.getElem?_map] at h
    cases ht : ts[i]? with
    | none => rw [ht] at h; cases h
    | some t' =>
      rw [ht] at h
      cases h
      obtain ⟨v, h1, h2⟩ := r.get ht
      exact ⟨v, by rw [List.getElem?_append_left (by rw [List.length_map, hl]; exact hi), List.getElem?_map, h1]; rfl, h2⟩
  · rw [List.getElem?_append_right (by rw [List.length_map]; omega)] at h
    have := List.mem_of_getElem? h
    rw [List.mem_replicate] at this
    cases this.2
end
/-- the wish of a def's body -/
abbrev WD (E : XK) : Wish := fun c d _ H' => E c d H'
theorem fnD {P : Program} {w : World} {K : PySem.W.Frag} {TB : Tab} {mg : Str → Option Value} {base : Heap} {k : Nat} {x qual : Str} {st : Stmt} {f : Addr} {fd : FuncData} {N ps : List Str} {g : Nat → Ds}
    (F : Fun K x qual st f fd) (S : FnScope N ps (defScope st))
    (hbody : ∀ (cdv : Value) (A : Around) (outer : List Env) (s : Shared) (H : Hp) (E : XK) (Z : Ent), Z.K = K → Z.TB = TB → Bs (cxOf (L2.CX P w) P w K mg base N qual (defScope st) f cdv A outer s H E) Z (WD E) k →
      PSs (cxOf (L2.CX P w) P w K mg base N qual (defScope st) f cdv A outer s H E) (defBody st) (tDS Z (WD E) (g Z.ms0.length))) :
    FnG P w K mg base (k + 1) f fd ps (spD K TB (defD ps.length N.length g) ps.length) := by
  refine fnG_of F S (fun vs H Q E h => h.1) fun cdv A outer s H vs Q E hr hgd h => ?_
  obtain ⟨hl, F0, ms, μ, ts, sr, rt, post⟩ := h
  have hms : ms.length = μ.length := sr.len
  have htl : ts.length = ps.length := by rw [← rt.length]; exact hl
  let X := cxOf (L2.CX P w) P w K mg base N qual (defScope st) f cdv A outer s H E
  have hbs : Bs X ⟨K, TB, H, F0, ms⟩ (WD E) k := {
    hK := rfl
    room := hr
    gd := by
      show (A.deeper _).guards = some []
      exact hgd
    calm := rfl
    nd := S.nd
    tk := takes_of (X := X) rfl rfl rfl rfl
    own := passes_of (X := X) (K := fun e s'' => L2.CX P w outer H s E e s'') (E₁ := fun e' s'' => L2.CX P w outer H s E e' s'') rfl }
  refine ⟨_, hbody cdv A outer s H E ⟨K, TB, H, F0, ms⟩ rfl rfl hbs, ⟨F0, noHp, ms⟩, μ, _, sr, start_er rt N, ?_⟩
  unfold defD at post
  rw [htl]
  show PostS _ _ _ _ (g ms.length _ μ)
  rw [hms]
  match hg : g μ.length (startG ps.length N.length ts) μ, post with
  | some (.nx Γ μ1), post =>
    intro σ' H' q l s' e'
    obtain ⟨r', l', s2, r2, rN⟩ := retV_ok (t := .v true .non) (v := .non) s' l rfl (Dx.non : Dx K TB q.N _ _)
    have post : Post _ _ _ _ _ (some (.ok (retV μ.length (.v true .non) μ1).1 (retV μ.length (.v true .non) μ1).2)) := post
    rw [← hms] at post
    exact post _ _ r' l' s2 r2
  | some (.rt t μ1), post =>
    intro v H' q l s' rv
    obtain ⟨r', l', s2, r2, rN⟩ := retV_ok s' l rfl rv
    have post : Post _ _ _ _ _ (some (.ok (retV μ.length t μ1).1 (retV μ.length t μ1).2)) := post
    rw [← hms] at post
    exact post _ _ r' l' s2 r2
  | some (.ex Γ c t μ1), post =>
    intro σ' q l e' C v dx H' q2 hC l2 s' h0 hd rv
    obtain ⟨r', l', s2, r2, rN⟩ := retV_ok s' (l.trans l2) rfl rv
    have post : Post _ _ _ _ _ (some (.exc c (retV μ.length t μ1).1 (retV μ.length t μ1).2)) := post
    rw [← hms] at post
    exact post C v dx H' r' hC l' s2 h0 (by rw [rN]; exact hd) r2
  | some (.bk _ _), post => exact post.elim
  | some (.ct _ _), post => exact post.elim
  | none, post => exact post.elim
end L3

set_option Elab.async false
set_option linter.all false
set_option maxRecDepth 100000
set_option maxHeartbeats 4000000
/-! L3, eighteenth part: calls. -/
namespace L3
open PySem PySem.Spec PyProof.Rows L2

def dCall (g : List T → Mu → Ot T) (n : Nat) (live : Bool) (rf : List Bool) (da : Da) : De := fun Γ μ => Ot.bind (da Γ μ) fun ts μ1 => if ts.length = n then callD g live rf ts μ1 else none
section
variable {X : Cx} {Z : Ent} {W : Wish} {k n : Nat} {f C : Addr} {fd : FuncData} {ps ks : List Str} {g : List T → Mu → Ot T} {x m : Str} {p pos apos nm : Pos} {e o : Expr} {es : List Expr} {kws : List Keyword} {da dk : Da} {go : De}
/-- the callee runs, by the reading -/
theorem run_call {live : Bool} {rf : List Bool} {pins : List (Addr × Obj)} {σ : L2.St} {H : Hp} {s : Shared} {Q : VK} {us us' : List Value} {kw : List (Str × Value)} {vs : List V} {q : Pt} {μ : Mu} {ts : List T} (B : Be X Z W k)
    (F : FnG X.prog X.w X.K X.mg X.base k f fd ps (spD X.K Z.TB g n)) (hb : BindsTo s fd ⟨us', kw⟩ (ps.zip us)) (I : Inv X pins σ H s) (r : Vals vs us)
    (sr : SR Z q H μ) (rt : RTs Z q vs ts) (h : Post Z W σ Q q (if ts.length = n then callD g live rf ts μ else none)) :
    wpAny (model X.prog X.w) X.A (PySem.call (.ref f) us' kw) (EP X pins σ Q) X.xe s := by
  split at h
  · rename_i hn
    have ow := call_owes sr rt h
    rw [rt.length, hn] at ow
    rw [← B.hK] at ow
    exact runG F B.room B.gd hb (passAt B.tk σ) I r ow
  · exact h.elim
theorem xe_call (live : Bool) (rf : List Bool) (B : Be X Z W k) (F : FnG X.prog X.w X.K X.mg X.base k f fd ps (spD X.K Z.TB g n)) (hg : Gl X x) (hm : X.mg x = some (.ref f)) (hk : PySem.W.keepIn X.K (.ref f) = true) (hb : Binds X.K fd ps [])
    (ha : PA X (e :: es) (tDA Z W da)) (hdb : (x == ("__debug__" : Str)) = false) (he : starEach (e :: es) X.env = (false, eval e X.env) :: starEach es X.env) (hpl : (backTo pos (starEach es X.env)).any (·.1) = false) (hps : ps.length = n) :
    PE X (.Call (.Name x p) (e :: es) [] pos) (tD Z W (dCall g n live rf da)) := by
  refine ⟨fun pins s σ H Q I h => ?_⟩
  obtain ⟨p0, μ, Γ, s0, e0, h⟩ := h
  refine wpAny_Call_Name_kw (ld_glob I hg hm ?_ hdb)
  refine PySem.W.callWith_K (h₀ := X.base) I.ok.mod.kin hk (thn (ha.run pos pins s σ H _ I (tDA_bind s0 e0 h)) fun us s1 ⟨vs, H1, I1, r, q, μ1, ts, l1, s2, e2, rt, po⟩ => ⟨I1.kIn, ?_⟩) he hpl
  by_cases hn : ts.length = n
  · have hl : (us ++ []).length = ps.length := by rw [List.append_nil, ← r.length, rt.length, hn, hps]
    have hbb := hb s1 us I1.kIn hl
    rw [List.append_nil] at hbb
    exact run_call B F hbb I1 r s2 rt po
  · rw [if_neg hn] at po
    exact po.elim
theorem xe_call0 (live : Bool) (rf : List Bool) (B : Be X Z W k) (F : FnG X.prog X.w X.K X.mg X.base k f fd ps (spD X.K Z.TB g n)) (hg : Gl X x) (hm : X.mg x = some (.ref f)) (hk : PySem.W.keepIn X.K (.ref f) = true) (hb : Binds X.K fd ps [])
    (hdb : (x == ("__debug__" : Str)) = false) (hps : ps.length = 0) : PE X (.Call (.Name x p) [] [] pos) (tD Z W (dCall g n live rf aNil)) := by
  refine ⟨fun pins s σ H Q I h => ?_⟩
  obtain ⟨p0, μ, Γ, s0, e0, h⟩ := h
  refine wpAny_Call_Name_kw (ld_glob I hg hm ?_ hdb)
  have hbb := hb s [] I.kIn (by rw [hps]; rfl)
  exact PySem.W.callWith_K0 I.kIn hk (run_call (ts := []) B F hbb I .nil s0 .nil h)

/-! keywords -/
def pick {α : Type} (pm : List Nat) (l : List α) : List α := pm.filterMap fun i => l[i]?
def KB (K : PySem.W.Frag) (fd : FuncData) (ps ks : List Str) (n : Nat) (pm : List Nat) : Prop :=
  ∀ (s : Shared) (us ws : List Value), K.In s.heap → us.length = n → ws.length = ks.length → BindsTo s fd ⟨us, ks.zip ws⟩ (ps.zip (us ++ pick pm ws))
theorem RTs.pick {q : Pt} {vs : List V} {ts : List T} (r : RTs Z q vs ts) : ∀ pm : List Nat, RTs Z q (L3.pick pm vs) (L3.pick pm ts)
  | [] => .nil
  | i :: pm => by
    unfold L3.pick
    rw [List.filterMap_cons, List.filterMap_cons]
    cases ht : ts[i]? with
    | none =>
      have : vs[i]? = none := by
        rw [List.getElem?_eq_none_iff] at ht ⊢
        rw [r.length]; exact ht
      rw [this]
      exact RTs.pick r pm
    | some t =>
      obtain ⟨v, h1, h2⟩ := r.get ht
      rw [h1]
      exact .cons h2 (RTs.pick r pm)
theorem Vals.pick {vs : List V} {us : List Value} (r : Vals vs us) : ∀ pm : List Nat, Vals (L3.pick pm vs) (L3.pick pm us)
  | [] => .nil
  | i :: pm => by
    unfold L3.pick
    rw [List.filterMap_cons, List.filterMap_cons]
    cases hv : vs[i]? with
    | none =>
      have : us[i]? = none := by
        rw [List.getElem?_eq_none_iff] at hv ⊢
        rw [← r.length]; exact hv
      rw [this]
      exact Vals.pick r pm
    | some v =>
      obtain ⟨u, h1, h2⟩ := r.get hv
      rw [h1]
      exact .cons h2 (Vals.pick r pm)
/-- keywords alone -/
def dCallK (g : List T → Mu → Ot T) (n : Nat) (live : Bool) (rf : List Bool) (pm : List Nat) (nk : Nat) (dk : Da) : De := fun Γ μ => Ot.bind (dk Γ μ) fun ts μ1 => if ts.length = nk then if (pick pm ts).length = n then callD g live rf (pick pm ts) μ1 else none else none
theorem xk_nil : PK X [] (tDA Z W aNil) := ⟨fun pos pins s σ H Q I ⟨p, μ, Γ, sr, er, h⟩ => (pk_nil (X := X)).run pos pins s σ H Q I (h [] H p (.refl p) sr .nil)⟩
theorem xk_cons {kn : Option Str} {kpos : Pos} {ga : De} (ha : PE X e (tD Z W ga)) (hr : PK X kws (tDA Z W dk)) : PK X (⟨kn, e, kpos⟩ :: kws) (tDA Z W (aCons ga dk)) :=
  ⟨fun pos pins s σ H Q I ⟨p, μ, Γ, sr, er, h⟩ => (pk_cons (nm := kn) (kpos := kpos) ha hr).run pos pins s σ H Q I (by
    obtain ⟨p', μ', Γ', s', e', h'⟩ := tD_bindA sr er h
    refine ⟨p', μ', Γ', s', e', ?_⟩
    match hg : ga Γ' μ', h' with
    | some (.ok t μ1), h' =>
      intro v H' q hl hs hr
      obtain ⟨q1, μ2, t2, l1, s1, e1, r1, k1⟩ := h' v H' q hl hs hr
      obtain ⟨p3, μ3, Γ3, s3, e3, h3⟩ := tDA_bindA s1 e1 k1
      refine ⟨p3, μ3, Γ3, s3, e3, ?_⟩
      match hg3 : dk Γ3 μ3, h3 with
      | some (.ok t4 μ4), h3 =>
        intro v4 H4 q4 hl4 hs4 hr4
        obtain ⟨q5, μ5, t5, l5, s5, e5, r5, k5⟩ := h3 v4 H4 q4 hl4 hs4 hr4
        exact k5 _ _ q5 (.refl _) s5 (.cons (r1.mono l5) r5)
      | some (.exc c4 t4 μ4), h3 => exact h3
    | some (.exc c t μ1), h' => exact h')⟩
theorem xe_callK (live : Bool) (rf : List Bool) {pm : List Nat} (B : Be X Z W k) (F : FnG X.prog X.w X.K X.mg X.base k f fd ps (spD X.K Z.TB g n)) (hg : Gl X x) (hm : X.mg x = some (.ref f)) (hk : PySem.W.keepIn X.K (.ref f) = true) (hb : KB X.K fd ps ks 0 pm)
    (hkw : PK X kws (tDA Z W dk)) (hall : (backToKw pos (keywordEach kws X.env)).all (·.1.isSome) = true) (hks : (backToKw pos (keywordEach kws X.env)).filterMap (·.1) = ks) (hdb : (x == ("__debug__" : Str)) = false)
    (hpl : ((backTo pos (starEach [] X.env)).any (·.1) || (backToKw pos (keywordEach kws X.env)).any (·.1.isNone)) = false) :
    PE X (.Call (.Name x p) [] kws pos) (tD Z W (dCallK g n live rf pm ks.length dk)) := by
  refine ⟨fun pins s σ H Q I h => ?_⟩
  obtain ⟨p0, μ, Γ, s0, e0, h⟩ := h
  refine wpAny_Call_Name_kw (ld_glob I hg hm ?_ hdb)
  refine PySem.W.callWith_KW0 (h₀ := X.base) I.ok.mod.kin hk hall ?_ hpl
  refine thn (hkw.run pos pins s σ H _ I (tDA_bind s0 e0 h)) fun us s1 ⟨vs, H1, I1, r, q, μ1, ts, l1, s2, e2, rt, po⟩ => ⟨I1.kIn, ?_⟩
  rw [hks]
  split at po
  · rename_i hl
    have hbb := hb s1 [] us I1.kIn rfl (by rw [← r.length, rt.length, hl])
    exact run_call B F hbb I1 (Vals.pick r pm) s2 (rt.pick pm) po
  · exact po.elim

/-! methods and properties -/
/-- the class of an object, and what it holds -/
def objOf (μ : Mu) : T → Option (Nat × List T)
  | .v f (.obj c ds) => some (c, ds.map (mkT f))
  | .v _ _ => none
  | .m j => match μ[j]? with
    | some (.obj c ts) => some (c, ts)
    | some (.frz f (.obj c ds)) => some (c, ds.map (mkT f))
    | _ => none
theorem objv_ok {q : Pt} {μ : Mu} {H : Hp} {v : V} {fl : Bool} {c : Nat} {ds : List D} (s : SR Z q H μ) (r : RT Z q v (.v fl (.obj c ds))) :
    ∃ a C dx fs names, v = .ref a ∧ H a = some (.ins C dx fs) ∧ Z.TB.cls c = some (C, names) ∧ fs.map Prod.fst = names.take (ds.map (mkT fl)).length ∧ RTs Z q (fs.map Prod.snd) (ds.map (mkT fl)) := by
  have r' : Dx Z.K Z.TB (if fl then q.N else q.F) v (.obj c ds) := by cases fl <;> exact r
  cases r' with
  | obj ha hc hd =>
    rename_i a C dx fs
    have hH : H a = some (.ins C dx fs) := by
      cases fl
      · exact s.sub _ _ ha
      · exact s.sub _ _ (s.nin _ _ ha)
    refine ⟨a, C, dx, fs, _, rfl, hH, hc, ?_, RTs.of_all hd⟩
    have hl := hd.length
    rw [List.length_map] at hl
    rw [List.length_map, ← hl]
    exact (List.take_of_length_le (by simp)).symm
theorem obj_ok {q : Pt} {μ : Mu} {H : Hp} {v : V} {t : T} {c : Nat} {ts : List T} (s : SR Z q H μ) (r : RT Z q v t) (h : objOf μ t = some (c, ts)) :
    ∃ a C dx fs names, v = .ref a ∧ H a = some (.ins C dx fs) ∧ Z.TB.cls c = some (C, names) ∧ fs.map Prod.fst = names.take ts.length ∧ RTs Z q (fs.map Prod.snd) ts := by
  match t, r, h with
  | .v fl d, r, h =>
    cases d with
    | obj c' ds => cases h; exact objv_ok s r
    | _ => cases h
  | .m j, ⟨a, h1, h2⟩, h =>
    subst h2
    simp only [objOf] at h
    cases hc : μ[j]? with
    | none => rw [hc] at h; cases h
    | some cc =>
      rw [hc] at h
      have q1 := s.cell j a cc h1 hc
      cases cc with
      | obj c' ts' =>
        cases h
        obtain ⟨C, dx, fs, names, k1, k2, k3, k4⟩ := q1
        exact ⟨a, C, dx, fs, names, rfl, k1, k2, k3, k4⟩
      | frz fl d =>
        cases d with
        | obj c' ds => cases h; exact objv_ok s q1
        | _ => cases h
      | lst _ => cases h
      | dT _ _ => cases h
      | dK _ _ => cases h
      | hid => cases h
      | tup _ => cases h
theorem lookup_none {f : Str} : ∀ {fs : List (Str × V)}, f ∉ fs.map Prod.fst → fs.lookup f = none
  | [], _ => rfl
  | (g, v) :: fs, h => by
    rw [List.lookup_cons]
    have h1 : ¬ f = g := fun z => h (by rw [z]; exact List.mem_cons_self)
    rw [show (f == g) = false from beq_eq_false_iff_ne.mpr h1]
    exact lookup_none fun z => h (List.mem_cons_of_mem _ z)
theorem lookup_at {f : Str} : ∀ {fs : List (Str × V)} {i : Nat} {v : V}, (fs.map Prod.fst).Nodup → (fs.map Prod.fst)[i]? = some f → (fs.map Prod.snd)[i]? = some v → fs.lookup f = some v
  | [], _, _, _, h, _ => by simp at h
  | (g, w) :: fs, 0, v, _, h1, h2 => by
    simp at h1 h2
    subst h1 h2
    rw [List.lookup_cons, show (g == g) = true from beq_self_eq_true g]
  | (g, w) :: fs, i + 1, v, nd, h1, h2 => by
    have h1' : (fs.map Prod.fst)[i]? = some f := by simpa using h1
    have h2' : (fs.map Prod.snd)[i]? = some v := by simpa using h2
    have nd' := List.nodup_cons.mp (show (g :: fs.map Prod.fst).Nodup from nd)
    rw [List.lookup_cons]
    have : ¬ f = g := fun z => nd'.1 (by rw [← z]; exact List.mem_of_getElem? h1')
    rw [show (f == g) = false from beq_eq_false_iff_ne.mpr this]
    exact lookup_at nd'.2 h1' h2'
/-- e.f, the i-th attribute of the class c -/
def fldV (c i : Nat) (μ : Mu) (t : T) : Vt := match objOf μ t with
  | some (c', ts) => if c' = c then ts[i]?.map fun u => (u, μ) else none
  | none => none
theorem xe_fld {i c : Nat} {names : List Str} (hK : X.K = Z.K) (hC : Z.TB.cls c = some (C, names)) (hn : names[i]? = some x) (nd : names.Nodup) (cl : Cls X.K C) (na : NoAttr X.K C x) (he : PE X e (tD Z W go)) (hb : attributeBase e x X.env (eval e X.env) = eval e X.env) :
    PE X (.Attribute e x pos) (tD Z W (d1 (fldV c i) go)) :=
  pe_imp (pe_fld he hb) fun σ H Q h => by
    obtain ⟨p', μ', Γ', s', e', h'⟩ := one h
    refine ⟨p', μ', Γ', s', e', ?_⟩
    match hg : go Γ' μ', h' with
    | some (.exc c t μ1), h' => exact h'
    | some (.ok t μ1), h' =>
      intro v H' q hl hs hr
      obtain ⟨q1, μ2, t2, s1, r1, k1⟩ := h' v H' q hl hs hr
      unfold fldV at k1
      split at k1
      · rename_i c' ts ho
        split at k1
        · rename_i hc
          subst hc
          obtain ⟨a, C', dx, fs, names', rfl, h1, h2, h3, h4⟩ := obj_ok s1 r1 ho
          rw [hC] at h2
          cases h2
          cases ht : ts[i]? with
          | none => rw [ht] at k1; exact k1.elim
          | some u =>
            rw [ht] at k1
            obtain ⟨w, w1, w2⟩ := h4.get ht
            have hi : i < ts.length := (List.getElem?_eq_some_iff.mp ht).1
            refine ⟨a, C, dx, fs, w, rfl, h1, cl, na, lookup_at (i := i) ?_ ?_ w1, k1 _ _ q1 (.refl _) s1 w2⟩
            · rw [h3]; exact nd.sublist (List.take_sublist _ _)
            · rw [h3, List.getElem?_take_of_lt hi]; exact hn
        · exact k1.elim
      · exact k1.elim
/-- o.m(e, ..) -/
def dMeth (g : List T → Mu → Ot T) (n c : Nat) (live : Bool) (rf : List Bool) (go : De) (da : Da) : De := fun Γ μ => Ot.bind (go Γ μ) fun t μ1 => match objOf μ1 t with
  | some (c', _) => if c' = c then Ot.bind (da Γ μ1) fun ts μ2 => if (t :: ts).length = n then callD g live rf (t :: ts) μ2 else none else none
  | none => none
theorem meth_at {c : Nat} {names : List Str} {σ : L2.St} {H : Hp} {q : Pt} {μ : Mu} {v : V} {t : T} {Q : VK} {r : Ot T} (hC : Z.TB.cls c = some (C, names)) (hn : x ∉ names) (s : SR Z q H μ) (rt : RT Z q v t)
    (h : Post Z W σ Q q (match objOf μ t with | some (c', _) => if c' = c then r else none | none => none)) : (∃ a dx fs, v = .ref a ∧ H a = some (.ins C dx fs) ∧ fs.lookup x = none) ∧ Post Z W σ Q q r := by
  split at h
  · rename_i c' ts ho
    split at h
    · rename_i hc
      subst hc
      obtain ⟨a, C', dx, fs, names', rfl, h1, h2, h3, h4⟩ := obj_ok s rt ho
      rw [hC] at h2
      cases h2
      exact ⟨⟨a, dx, fs, rfl, h1, lookup_none fun z => hn (by rw [h3] at z; exact List.mem_of_mem_take z)⟩, h⟩
    · exact h.elim
  · exact h.elim
theorem xe_meth (live : Bool) (rf : List Bool) {c : Nat} {names : List Str} {pl : Sem Bool} (B : Be X Z W k) (he : PE X o (tD Z W go)) (hC : Z.TB.cls c = some (C, names)) (hn : x ∉ names) (cl : Cls X.K C) (hm : Meth X.K C x f)
    (F : FnG X.prog X.w X.K X.mg X.base k f fd ps (spD X.K Z.TB g n)) (hb : Binds X.K fd ps []) (ha : PA X (e :: es) (tDA Z W da)) (hst : starEach (e :: es) X.env = (false, eval e X.env) :: starEach es X.env) (hpl : (backTo pos (starEach es X.env)).any (·.1) = false) (hps : ps.length = n)
    (ht : eval (.Call (.Attribute o x apos) (e :: es) [] pos) X.env = (do
      let ov ← eval o X.env
      standAt apos.atName
      let (f, first) ← holding [ov] (getMethod ov x pl)
      callWith pos f first (backTo pos (starEach (e :: es) X.env)) (backToKw pos (keywordEach [] X.env)))) :
    PE X (.Call (.Attribute o x apos) (e :: es) [] pos) (tD Z W (dMeth g n c live rf go da)) := by
  refine ⟨fun pins s σ H Q I h => ?_⟩
  obtain ⟨p0, μ, Γ, s0, e0, h⟩ := h
  refine PySem.W.methodCall_KW (pl := pl) (thn (he.run pins s σ H _ I (tD_bind s0 e0 h)) fun u s1 ⟨xv, H1, I1, rx, q, μ1, t, l1, s2, e2, rt, po⟩ => ?_) ht
  obtain ⟨⟨a, dx, fs, rfl, ea, l⟩, po⟩ := meth_at hC hn s2 rt po
  obtain rfl : u = Value.ref a := rx
  refine getmeth_ok I1 ea cl hm l ?_
  refine PySem.W.callWith_K (first := [.ref a]) (h₀ := X.base) I.ok.mod.kin hm.kp (thn (ha.run pos pins s1 σ H1 _ I1 (tDA_bind s2 e2 po)) fun us s3 ⟨vs, H3, I3, r3, q3, μ3, ts, l3, s4, e4, rt3, po3⟩ => ⟨I3.kIn, ?_⟩) hst hpl
  by_cases hlen : (t :: ts).length = n
  · have r4 : Vals (V.ref a :: vs) (Value.ref a :: us) := .cons rfl r3
    have hl : (Value.ref a :: us ++ []).length = ps.length := by
      rw [List.append_nil, ← r4.length, hps, ← hlen]
      exact congrArg Nat.succ rt3.length
    have hbb := hb s3 (Value.ref a :: us) I3.kIn hl
    rw [List.append_nil] at hbb
    exact run_call (vs := .ref a :: vs) (ts := t :: ts) B F hbb I3 r4 s4 (.cons (rt.mono l3) rt3) po3
  · rw [if_neg hlen] at po3
    exact po3.elim
theorem xe_meth0 (live : Bool) (rf : List Bool) {c : Nat} {names : List Str} {pl : Sem Bool} (B : Be X Z W k) (he : PE X o (tD Z W go)) (hC : Z.TB.cls c = some (C, names)) (hn : x ∉ names) (cl : Cls X.K C) (hm : Meth X.K C x f)
    (F : FnG X.prog X.w X.K X.mg X.base k f fd ps (spD X.K Z.TB g n)) (hb : Binds X.K fd ps []) (hps : ps.length = 1)
    (ht : eval (.Call (.Attribute o x apos) [] [] pos) X.env = (do
      let ov ← eval o X.env
      standAt apos.atName
      let (f, first) ← holding [ov] (getMethod ov x pl)
      callWith pos f first (backTo pos (starEach [] X.env)) (backToKw pos (keywordEach [] X.env)))) :
    PE X (.Call (.Attribute o x apos) [] [] pos) (tD Z W (dMeth g n c live rf go aNil)) := by
  refine ⟨fun pins s σ H Q I h => ?_⟩
  obtain ⟨p0, μ, Γ, s0, e0, h⟩ := h
  refine PySem.W.methodCall_KW (pl := pl) (thn (he.run pins s σ H _ I (tD_bind s0 e0 h)) fun u s1 ⟨xv, H1, I1, rx, q, μ1, t, l1, s2, e2, rt, po⟩ => ?_) ht
  obtain ⟨⟨a, dx, fs, rfl, ea, l⟩, po⟩ := meth_at hC hn s2 rt po
  obtain rfl : u = Value.ref a := rx
  refine getmeth_ok I1 ea cl hm l ?_
  refine PySem.W.callWith_K0 (first := [.ref a]) I1.kIn hm.kp ?_
  have hbb := hb s1 [Value.ref a] I1.kIn (by rw [hps]; rfl)
  exact run_call (vs := [.ref a]) (us := [.ref a]) (ts := [t]) B F hbb I1 (.cons rfl .nil) s2 (.cons rt .nil) po
/-- o.m(k = v, ..) -/
def dMethK (g : List T → Mu → Ot T) (n c : Nat) (live : Bool) (rf : List Bool) (pm : List Nat) (nk : Nat) (go : De) (dk : Da) : De := fun Γ μ => Ot.bind (go Γ μ) fun t μ1 => match objOf μ1 t with
  | some (c', _) => if c' = c then Ot.bind (dk Γ μ1) fun ts μ2 => if ts.length = nk then if (t :: pick pm ts).length = n then callD g live rf (t :: pick pm ts) μ2 else none else none else none
  | none => none
theorem xe_methK (live : Bool) (rf : List Bool) {c : Nat} {names : List Str} {pl : Sem Bool} {pm : List Nat} (B : Be X Z W k) (he : PE X o (tD Z W go)) (hC : Z.TB.cls c = some (C, names)) (hn : x ∉ names) (cl : Cls X.K C) (hm : Meth X.K C x f)
    (F : FnG X.prog X.w X.K X.mg X.base k f fd ps (spD X.K Z.TB g n)) (hb : KB X.K fd ps ks 1 pm) (hkw : PK X kws (tDA Z W dk)) (hall : (backToKw pos (keywordEach kws X.env)).all (·.1.isSome) = true) (hks : (backToKw pos (keywordEach kws X.env)).filterMap (·.1) = ks)
    (hpl : ((backTo pos (starEach [] X.env)).any (·.1) || (backToKw pos (keywordEach kws X.env)).any (·.1.isNone)) = false)
    (ht : eval (.Call (.Attribute o x apos) [] kws pos) X.env = (do
      let ov ← eval o X.env
      standAt apos.atName
      let (f, first) ← holding [ov] (getMethod ov x pl)
      callWith pos f first (backTo pos (starEach [] X.env)) (backToKw pos (keywordEach kws X.env)))) :
    PE X (.Call (.Attribute o x apos) [] kws pos) (tD Z W (dMethK g n c live rf pm ks.length go dk)) := by
  refine ⟨fun pins s σ H Q I h => ?_⟩
  obtain ⟨p0, μ, Γ, s0, e0, h⟩ := h
  refine PySem.W.methodCall_KW (pl := pl) (thn (he.run pins s σ H _ I (tD_bind s0 e0 h)) fun u s1 ⟨xv, H1, I1, rx, q, μ1, t, l1, s2, e2, rt, po⟩ => ?_) ht
  obtain ⟨⟨a, dx, fs, rfl, ea, l⟩, po⟩ := meth_at hC hn s2 rt po
  obtain rfl : u = Value.ref a := rx
  refine getmeth_ok I1 ea cl hm l ?_
  refine PySem.W.callWith_KW0 (first := [.ref a]) (h₀ := X.base) I.ok.mod.kin hm.kp hall ?_ hpl
  refine thn (hkw.run pos pins s1 σ H1 _ I1 (tDA_bind s2 e2 po)) fun us s3 ⟨vs, H3, I3, r3, q3, μ3, ts, l3, s4, e4, rt3, po3⟩ => ⟨I3.kIn, ?_⟩
  rw [hks]
  split at po3
  · rename_i hl
    have hbb := hb s3 [.ref a] us I3.kIn rfl (by rw [← r3.length, rt3.length, hl])
    exact run_call (vs := .ref a :: pick pm vs) (us := .ref a :: pick pm us) (ts := t :: pick pm ts) B F hbb I3 (.cons rfl (Vals.pick r3 pm)) s4 (.cons (rt.mono l3) (rt3.pick pm)) po3
  · exact po3.elim
end
end L3

set_option Elab.async false
set_option linter.all false
set_option maxRecDepth 100000
set_option maxHeartbeats 4000000
/-! L3, nineteenth part: properties, new objects, what is stored. -/
namespace L3
open PySem PySem.Spec PyProof.Rows L2

section
variable {X : Cx} {Z : Ent} {W : Wish} {k n : Nat} {f C : Addr} {fd : FuncData} {ps ks : List Str} {g : List T → Mu → Ot T} {x m : Str} {p pos apos nm : Pos} {e o : Expr} {es : List Expr} {kws : List Keyword} {da dk : Da} {go ge : De}
theorem in1_gd {A : Around} (h : A.guards = some []) : A.in1.guards = some [] := by
  first
    | exact h
    | simp [Around.in1, h]
/-- e.f, a property: no error may come -/
def dProp (g : List T → Mu → Ot T) (c : Nat) (live rf0 : Bool) (go : De) : De := fun Γ μ => Ot.bind (go Γ μ) fun t μ1 => match objOf μ1 t with
  | some (c', _) => if c' = c then match callD g live [rf0] [t] μ1 with
    | some (.ok u μ2) => some (.ok u μ2)
    | _ => none
    else none
  | none => none
theorem xe_prop (live rf0 : Bool) {c : Nat} {names : List Str} {pa : Addr} (B : Be X Z W (k + 1)) (he : PE X e (tD Z W go)) (hC : Z.TB.cls c = some (C, names)) (cl : Cls X.K C) (hp : PropOf X.K C x pa f)
    (F : FnG X.prog X.w X.K X.mg X.base k f fd ps (spD X.K Z.TB g 1)) (hb : Binds X.K fd ps []) (hps : ps.length = 1) (hab : attributeBase e x X.env (eval e X.env) = eval e X.env) :
    PE X (.Attribute e x pos) (tD Z W (dProp g c live rf0 go)) := by
  refine ⟨fun pins s σ H Q I h => ?_⟩
  obtain ⟨p0, μ, Γ, s0, e0, h⟩ := h
  refine attr_of hab (thn (he.run pins s σ H _ I (tD_bind s0 e0 h)) fun u s1 ⟨xv, H1, I1, rx, q, μ1, t, l1, s2, e2, rt, po⟩ => ?_)
  have po' : Post Z W σ Q q (match objOf μ1 t with | some (c', _) => if c' = c then (match callD g live [rf0] [t] μ1 with | some (.ok u μ2) => some (.ok u μ2) | _ => none) else none | none => none) := po
  split at po'
  · rename_i c' ts ho
    split at po'
    · rename_i hc
      subst hc
      obtain ⟨a, C', dx, fs, names', rfl, ea, h2, h3, h4⟩ := obj_ok s2 rt ho
      rw [hC] at h2
      cases h2
      obtain rfl : u = Value.ref a := rx
      have ow : spD Z.K Z.TB g 1 [V.ref a] H1 Q (fun _ _ _ => False) := by
        have : Post Z W0 σ Q q (callD g live [rf0] [t] μ1) := by
          match hg : callD g live [rf0] [t] μ1, po' with
          | some (.ok u μ2), po' => exact po'
        exact call_owes (W := W0) s2 (.cons rt .nil) this
      rw [← B.hK] at ow
      -- the getter runs
      obtain ⟨mA, O, _, _, _, _⟩ := ins_get I1.hok ea
      obtain ⟨od, J, _⟩ := O.look
      obtain ⟨rest, hrec⟩ := hp.rec_
      have I2 := I1.tok (s1.toks + 1)
      have hl : ([Value.ref a] ++ []).length = ps.length := by rw [hps]; rfl
      have hcs : (PySem.W.clsIn X.K C).isSome = true := by
        obtain ⟨cd, hc, _⟩ := PySem.W.any_some cl.hd
        rw [hc]
        rfl
      have hbb := hb { s1 with toks := s1.toks + 1 } [.ref a] I2.kIn hl
      refine PySem.W.get_bind I1.kIn J (PySem.W.plainGet_of (cl.get x)).1 (PySem.W.findObj_data hcs hp.at_ hp.get hp.tak) (PySem.W.plainGet_of (cl.get x)).2 (wpAny_call (PySem.W.prop_get (s := { s1 with toks := s1.toks + 1 }) I1.kIn hrec ?_))
      refine codeAny_mono (F.run X.A.in1 X.stack { s1 with toks := s1.toks + 1 } H1 ⟨[.ref a], []⟩ [.ref a] [.ref a] Q (fun _ _ _ => False) B.room.in1 (in1_gd B.gd) I2.env0.in1 hbb (.cons rfl .nil) ow) fun r s' hq => ?_
      cases r with
      | error er =>
        obtain ⟨_, _, _, _, _, _, _, _, _, _, _, _, _, _, _, _, w⟩ := XE.of_call (W := W0) I2 (fun _ _ _ h => h) hq
        exact w.elim
      | ok fl =>
        cases fl with
        | ret u =>
          obtain ⟨v, H', I3, rv, q3⟩ := I2.after hq
          show wpAny _ _ (handedOut u) _ _ _
          rw [PySem.W.handedOut_of (handed_of rv)]
          exact wpAny_pure ⟨v, H', I3, rv, q3⟩
        | next => exact False.elim hq
        | brk => exact False.elim hq
        | cont => exact False.elim hq
    · exact po'.elim
  · exact po'.elim
end

/-! an object stands for good -/
section
variable {Z : Ent} {p q : Pt} {H : Hp} {μ : Mu}
theorem SR.freezeO (s : SR Z q H μ) {j : Nat} {a : Addr} {c : Nat} {ts : List T} {f : Bool} {ds : List D} {C : Addr} {names : List Str} (hj : q.ms[j]? = some a) (hc : μ[j]? = some (.obj c ts)) (h0 : Z.ms0.length ≤ j) (hp : pack ts = some (f, ds))
    (hC : Z.TB.cls c = some (C, names)) (hn : names.length = ts.length) :
    ∃ o, H a = some o ∧ SR Z (q.add f a o) H (μ.set j (.frz f (.obj c ds))) ∧ q.Le (q.add f a o) ∧ RT Z (q.add f a o) (.ref a) (.v f (.obj c ds)) := by
  obtain ⟨C', dx, fs, names', ha, hC', hfs, hr⟩ := s.cell j a _ hj hc
  rw [hC] at hC'
  cases hC'
  rw [← hn, List.take_length] at hfs
  have hF := s.nof j a _ hj hc rfl
  have hN := s.nin.free hF
  have le : q.Le (q.add f a (.ins C dx fs)) := Pt.add_le hF hN
  obtain ⟨r1, r2⟩ := pack_ok s hp hr
  have rt : RT Z (q.add f a (.ins C dx fs)) (.ref a) (.v f (.obj c ds)) := by
    cases f
    · refine Dx.obj (dx := dx) (?_) (by rw [hfs]; exact hC) (DxAll.mono le.f ds r2)
      show upd q.F a _ a = _
      exact upd_same
    · refine Dx.obj (dx := dx) (?_) (by rw [hfs]; exact hC) (DxAll.mono le.n ds (r1 rfl))
      show upd q.N a _ a = _
      exact upd_same
  refine ⟨.ins C dx fs, ha, ⟨fun b u e => ?_, ?_, fun b u e => ?_, fun b u e => ?_, s.keep, s.dom, s.pre, s.nd, by rw [List.length_set]; exact s.len, fun i b d hi hd hl => ?_, s.trk, s.new, fun i b d hi hd => ?_⟩, le, rt⟩
  · by_cases hb : b = a
    · subst hb
      have e' : upd q.F b (.ins C dx fs) b = some u := e
      rw [upd_same] at e'
      rw [ha]; exact e'
    · have e' : upd q.F a (.ins C dx fs) b = some u := e
      rw [upd_ne hb] at e'
      exact s.sub b u e'
  · cases f
    · exact same_upd s.nin hN
    · exact same_upd2 s.nin
  · cases f
    · exact s.fr b u e
    · by_cases hb : b = a
      · subst hb; exact s.new j b hj h0
      · have e' : upd q.N a (.ins C dx fs) b = some u := e
        rw [upd_ne hb] at e'
        exact s.fr b u e'
  · by_cases hb : b = a
    · subst hb; exact .inr (s.new j b hj h0)
    · have e' : upd q.F a (.ins C dx fs) b = some u := e
      rw [upd_ne hb] at e'
      exact s.org b u e'
  · by_cases e : j = i
    · subst e
      rw [List.getElem?_set_self (by rw [← s.len]; exact (List.getElem?_eq_some_iff.mp hj).1)] at hd
      cases hd
      cases hl
    · rw [List.getElem?_set_ne e] at hd
      have : b ≠ a := fun z => by subst z; exact e (nd_ix s.nd hj hi)
      show upd q.F a _ b = none
      rw [upd_ne this]
      exact s.nof i b d hi hd hl
  · by_cases e : j = i
    · subst e
      rw [List.getElem?_set_self (by rw [← s.len]; exact (List.getElem?_eq_some_iff.mp hj).1)] at hd
      cases hd
      have hi' : q.ms[j]? = some b := hi
      rw [hj] at hi'; cases hi'
      exact rt
    · rw [List.getElem?_set_ne e] at hd
      exact Cell.mono le rfl (s.cell i b d hi hd)
/-- what has been made: it lives on, or stands for good from now on -/
def mkEnd (keep : Bool) (ar n0 m0 : Nat) (μ : Mu) : Vt :=
  if keep then some (.m n0, μ) else match μ[n0]? with
    | some (.obj c ts) => if ts.length = ar then match pack ts with
      | some (f, ds) => if m0 ≤ n0 ∧ (μ.take n0).all (Cell.low n0) then some (.v f (.obj c ds), μ.take n0) else none
      | none => none
      else none
    | _ => none
theorem mkEnd_ok (s : SR Z q H μ) {keep : Bool} {n0 ar : Nat} {D : Addr} {Q : VK} (hn : p.ms.length = n0) (l : p.Le q) (hD : q.ms[n0]? = some D) (har : ∀ c ts, μ[n0]? = some (.obj c ts) → ∃ C names, Z.TB.cls c = some (C, names) ∧ names.length = ar)
    (h : VPost Z Q p (mkEnd keep ar n0 Z.ms0.length μ)) : Q (.ref D) H := by
  unfold mkEnd at h
  split at h
  · exact h _ _ q l s ⟨D, hD, rfl⟩
  · split at h
    · rename_i c ts hts
      split at h
      · rename_i hl
        split at h
        · rename_i f ds hp
          split at h
          · rename_i hc
            obtain ⟨h0, hlow⟩ := hc
            obtain ⟨C, names, h1, h2⟩ := har c ts hts
            obtain ⟨o, ho, s2, l2, r2⟩ := s.freezeO hD hts h0 hp h1 (h2.trans hl.symm)
            have s3 := s2.cut h0 (by rw [take_set]; exact hlow)
            rw [take_set] at s3
            have l3 : p.Le ((q.add f D o).cut n0) := s2.cut_le (l.trans l2) (by rw [hn]; exact Nat.le_refl _)
            exact h _ _ _ l3 s3 (RT.low rfl r2)
          · exact h.elim
        · exact h.elim
      · exact h.elim
    · exact h.elim
end
/-- C(e, ..): ar, how many attributes its objects have -/
def mkD (g : List T → Mu → Ot T) (c ar : Nat) (live keep : Bool) (rf : List Bool) (m0 : Nat) (ts : List T) (μ : Mu) : Ot T := match callD g live (true :: rf) (.m μ.length :: ts) (μ ++ [.obj c []]) with
  | some (.ok (.v _ .non) μ2) => match μ2[μ.length]? with
    | some (.obj c' _) => if c' = c then (mkEnd keep ar μ.length m0 μ2).ot else none
    | _ => none
  | some (.ok _ _) => none
  | some (.exc c t μ2) => some (.exc c t μ2)
  | none => none
def dMake (g : List T → Mu → Ot T) (n c ar : Nat) (live keep : Bool) (rf : List Bool) (m0 : Nat) (da : Da) : De := fun Γ μ => Ot.bind (da Γ μ) fun ts μ1 => if ts.length + 1 = n then mkD g c ar live keep rf m0 ts μ1 else none
section
variable {X : Cx} {Z : Ent} {W : Wish} {k n : Nat} {f C : Addr} {fd : FuncData} {ps ks : List Str} {g : List T → Mu → Ot T} {x m : Str} {p pos apos nm : Pos} {e o : Expr} {es : List Expr} {kws : List Keyword} {da dk : Da} {go ge : De}
theorem make_owes {live keep : Bool} {rf : List Bool} {c ar : Nat} {names : List Str} {σ : L2.St} {H : Hp} {Q : VK} {q : Pt} {μ : Mu} {ts : List T} {vs : List V} (hC : Z.TB.cls c = some (C, names)) (har : names.length = ar) (sr : SR Z q H μ) (rt : RTs Z q vs ts)
    (h : Post Z W σ Q q (mkD g c ar live keep rf Z.ms0.length ts μ)) : ∀ x dx, H x = none → H dx = none → dx ≠ x → spD Z.K Z.TB g (vs.length + 1) (.ref x :: vs) (upd (upd H dx (.own x)) x (.ins C dx [])) (fun v H2 => v = .non ∧ Q (.ref x) H2) (WE W σ) := by
  intro x dx hx hdx ne
  have l1 := sr.add_le (f := true) (o := .own x) hdx
  have s1 := sr.add (f := true) (o := .own x) hdx
  have hx1 : upd H dx (.own x) x = none := by rw [upd_ne (Ne.symm ne)]; exact hx
  have s2 : SR Z ((q.add true dx (.own x)).push x) (upd (upd H dx (.own x)) x (.ins C dx [])) (μ ++ [.obj c []]) :=
    s1.push hx1 rfl ⟨C, dx, [], names, upd_same, hC, rfl, .nil⟩
  have l2 : q.Le ((q.add true dx (.own x)).push x) := l1.trans Pt.push_le
  have hn : q.ms.length = μ.length := sr.len
  have hat : ((q.add true dx (.own x)).push x).ms[μ.length]? = some x := by
    show (q.ms ++ [x])[μ.length]? = some x
    rw [← hn]; simp
  refine call_owes (live := live) (rf := true :: rf) (ts := .m μ.length :: ts) s2 (.cons ⟨x, hat, rfl⟩ (rt.mono l2)) ?_
  unfold mkD at h
  cases hg : callD g live (true :: rf) (.m μ.length :: ts) (μ ++ [.obj c []]) with
  | none => rw [hg] at h; exact h.elim
  | some rr =>
    rw [hg] at h
    cases rr with
    | exc c2 t μ2 => exact PostX.le l2 h
    | ok t μ2 =>
      intro v H' r l s r0
      cases t with
      | m _ => exact h.elim
      | v fl d =>
        cases d with
        | non =>
          cases r0.non
          refine ⟨rfl, ?_⟩
          dsimp only at h
          have hr : r.ms[μ.length]? = some x := by
            obtain ⟨y, hy⟩ := l.m
            rw [← hy, List.getElem?_append_left (List.getElem?_eq_some_iff.mp hat).1]
            exact hat
          split at h
          · rename_i c' ts' hm
            split at h
            · rename_i hc
              subst hc
              exact mkEnd_ok s hn (l2.trans l) hr (fun c2 ts2 e2 => by rw [hm] at e2; cases e2; exact ⟨C, names, hC, har⟩) (VPost.post h)
            · exact h.elim
          · exact h.elim
        | _ => exact h.elim
theorem run_mk {live keep : Bool} {rf : List Bool} {c ar : Nat} {names : List Str} {pins : List (Addr × Obj)} {σ : L2.St} {H : Hp} {s : Shared} {Q : VK} {us : List Value} {vs : List V} {q : Pt} {μ : Mu} {ts : List T} (B : Be X Z W (k + 1)) (M : Mk X.K C f)
    (F : FnG X.prog X.w X.K X.mg X.base k f fd ps (spD X.K Z.TB g n)) (hb : Binds X.K fd ps []) (hC : Z.TB.cls c = some (C, names)) (har : names.length = ar) (I : Inv X pins σ H s) (r : Vals vs us)
    (sr : SR Z q H μ) (rt : RTs Z q vs ts) (h : Post Z W σ Q q (if ts.length + 1 = n then mkD g c ar live keep rf Z.ms0.length ts μ else none)) :
    wpAny (model X.prog X.w) X.A (PySem.call (.ref C) us) (EP X pins σ Q) X.xe s := by
  split at h
  · rename_i hn
    have ow := make_owes hC har sr rt h
    rw [rt.length, hn] at ow
    rw [← B.hK] at ow
    exact runMk M F B.room B.gd hb (passAt B.tk σ) I r ow
  · exact h.elim
theorem xe_make (live keep : Bool) (rf : List Bool) {c ar m0 : Nat} {names : List Str} (B : Be X Z W (k + 1)) (hm0 : Z.ms0.length = m0) (M : Mk X.K C f) (hC : Z.TB.cls c = some (C, names)) (har : names.length = ar)
    (F : FnG X.prog X.w X.K X.mg X.base k f fd ps (spD X.K Z.TB g n)) (hg : Gl X x) (hm : X.mg x = some (.ref C)) (hb : Binds X.K fd ps [])
    (ha : PA X (e :: es) (tDA Z W da)) (hdb : (x == ("__debug__" : Str)) = false) (he : starEach (e :: es) X.env = (false, eval e X.env) :: starEach es X.env) (hpl : (backTo pos (starEach es X.env)).any (·.1) = false) :
    PE X (.Call (.Name x p) (e :: es) [] pos) (tD Z W (dMake g n c ar live keep rf m0 da)) := by
  subst hm0
  refine ⟨fun pins s σ H Q I h => ?_⟩
  obtain ⟨p0, μ, Γ, s0, e0, h⟩ := h
  refine wpAny_Call_Name_kw (ld_glob I hg hm ?_ hdb)
  refine PySem.W.callWith_K (h₀ := X.base) I.ok.mod.kin M.kp (thn (ha.run pos pins s σ H _ I (tDA_bind s0 e0 h)) fun us s1 ⟨vs, H1, I1, r, q, μ1, ts, l1, s2, e2, rt, po⟩ => ⟨I1.kIn, ?_⟩) he hpl
  exact run_mk B M F hb hC har I1 r s2 rt po
end
end L3

set_option Elab.async false
set_option linter.all false
set_option maxRecDepth 100000
set_option maxHeartbeats 4000000
/-! L3, twentieth part: what is stored, what is raised. -/
namespace L3
open PySem PySem.Spec PyProof.Rows L2

theorem putF_new {f : Str} {y : V} : ∀ {fs : List (Str × V)}, f ∉ fs.map Prod.fst → putF f y fs = fs ++ [(f, y)]
  | [], _ => rfl
  | (g, x) :: r, h => by
    have hg : ¬ g = f := fun z => h (by rw [← z]; exact List.mem_cons_self)
    show (if g = f then (g, y) :: r else (g, x) :: putF f y r) = _
    rw [if_neg hg, putF_new fun z => h (List.mem_cons_of_mem _ z)]
    rfl
theorem putF_old {f : Str} {y : V} : ∀ {fs : List (Str × V)} {i : Nat}, (fs.map Prod.fst).Nodup → (fs.map Prod.fst)[i]? = some f → (putF f y fs).map Prod.fst = fs.map Prod.fst ∧ (putF f y fs).map Prod.snd = (fs.map Prod.snd).set i y
  | [], _, _, h => by simp at h
  | (g, x) :: r, 0, nd, h => by
    simp at h
    subst h
    have e : putF g y ((g, x) :: r) = (g, y) :: r := by
      show (if g = g then (g, y) :: r else (g, x) :: putF g y r) = _
      rw [if_pos rfl]
    rw [e]
    exact ⟨rfl, rfl⟩
  | (g, x) :: r, i + 1, nd, h => by
    have nd' := List.nodup_cons.mp (show (g :: r.map Prod.fst).Nodup from nd)
    have h' : (r.map Prod.fst)[i]? = some f := by simpa using h
    have hg : ¬ g = f := fun z => nd'.1 (by rw [z]; exact List.mem_of_getElem? h')
    have e : putF f y ((g, x) :: r) = (g, x) :: putF f y r := by
      show (if g = f then (g, y) :: r else (g, x) :: putF f y r) = _
      rw [if_neg hg]
    obtain ⟨e1, e2⟩ := putF_old (y := y) nd'.2 h'
    rw [e]
    refine ⟨?_, ?_⟩
    · show g :: (putF f y r).map Prod.fst = g :: r.map Prod.fst
      rw [e1]
    · show x :: (putF f y r).map Prod.snd = (x :: r.map Prod.snd).set (i + 1) y
      rw [e2]
      rfl
/-- o.f = t, the i-th attribute of the class c -/
def putFldV (c i : Nat) (μ : Mu) (o t : T) : Option Mu := match o with
  | .m j => match μ[j]? with
    | some (.obj c' ts) => if c' = c then if i = ts.length then some (μ.set j (.obj c (ts ++ [t]))) else if i < ts.length then some (μ.set j (.obj c (ts.set i t))) else none else none
    | _ => none
  | .v _ _ => none
def sFldD (c i : Nat) (go ge : De) : Ds := fun Γ μ => Ot.bindS (ge Γ μ) Γ fun t μ1 => Ot.bindS (go Γ μ1) Γ fun o μ2 => match putFldV c i μ2 o t with
  | some μ3 => some (.nx Γ μ3)
  | none => none
/-- o[i] = t, o a living list -/
def putIxV (μ : Mu) (o i t : T) : Option Mu := match o, i with
  | .m j, .v _ (.int n) => match μ[j]? with
    | some (.lst ts) => match ixN ts.length n with
      | some k => some (μ.set j (.lst (ts.set k t)))
      | none => none
    | _ => none
  | _, _ => none
def sPutD (go gi ge : De) : Ds := fun Γ μ => Ot.bindS (ge Γ μ) Γ fun t μ1 => Ot.bindS (go Γ μ1) Γ fun o μ2 => Ot.bindS (gi Γ μ2) Γ fun i μ3 => match putIxV μ3 o i t with
  | some μ4 => some (.nx Γ μ4)
  | none => none
section
variable {X : Cx} {Z : Ent} {W : Wish} {k n : Nat} {f C : Addr} {fd : FuncData} {ps ks : List Str} {g : List T → Mu → Ot T} {x m : Str} {p pos pos' apos nm : Pos} {e o ie value : Expr} {es : List Expr} {kws : List Keyword} {da dk : Da} {go ge gi : De}
theorem xs_fld {i c : Nat} {names : List Str} (hK : X.K = Z.K) (hC : Z.TB.cls c = some (C, names)) (hn : names[i]? = some x) (nd : names.Nodup) (hz : names.length < 1000) (cl : Cls X.K C) (na : NoAttr X.K C x) (ho : PE X o (tD Z W go)) (hv : PE X value (tD Z W ge))
    (hs : swapsWith value (some (.Attribute o x pos')) pos.line X.env = pure false) : PS X (.Assign [.Attribute o x pos'] value pos) (tDS Z W (sFldD c i go ge)) :=
  ps_imp (ps_fld ho hv hs) fun D σ H ⟨p, μ, Γ, s, er, h⟩ => by
    obtain ⟨p', μ', Γ', s', e', h'⟩ := tD_bindS s er h
    refine ⟨p', μ', Γ', s', e', ?_⟩
    match hg : ge Γ' μ', h' with
    | some (.exc c t μ1), h' => exact h'
    | some (.ok t μ1), h' =>
      intro v H1 q hl hs hr
      obtain ⟨q1, μ2, t2, l1, s1, e1, r1, k1⟩ := h' v H1 q hl hs hr
      obtain ⟨p3, μ3, Γ3, s3, e3, h3⟩ := tD_bindS s1 e1 k1
      refine ⟨p3, μ3, Γ3, s3, e3, ?_⟩
      match hg3 : go Γ3 μ3, h3 with
      | some (.exc c4 t4 μ4), h3 => exact h3
      | some (.ok t4 μ4), h3 =>
        intro v4 H4 q4 hl4 hs4 hr4
        obtain ⟨q5, μ5, t5, l5, s5, e5, r5, k5⟩ := h3 v4 H4 q4 hl4 hs4 hr4
        cases t5 with
        | v _ _ => exact k5.elim
        | m j =>
          obtain ⟨a, ha, rfl⟩ := r5
          simp only [putFldV] at k5
          cases hc : μ5[j]? with
          | none => rw [hc] at k5; exact k5.elim
          | some cc =>
            rw [hc] at k5
            cases cc with
            | obj c' ts =>
              dsimp only at k5
              by_cases hcc : c' = c
              · subst hcc
                rw [if_pos rfl] at k5
                obtain ⟨C', dx, fs, names', h1, h2, h3', h4⟩ := s5.cell j a _ ha hc
                rw [hC] at h2
                cases h2
                have hfl : fs.length = ts.length := by rw [← h4.length, List.length_map]
                have hle : ts.length ≤ names.length := by
                  have := congrArg List.length h3'
                  rw [List.length_map, List.length_take, hfl] at this
                  omega
                refine ⟨a, C, dx, fs, rfl, h1, cl, na, by omega, ?_⟩
                by_cases hi : i = ts.length
                · rw [if_pos hi] at k5
                  have hnew : x ∉ fs.map Prod.fst := fun z => by
                    rw [h3'] at z
                    obtain ⟨j', hj'⟩ := List.getElem?_of_mem z
                    have hlt : j' < ts.length := by
                      have := (List.getElem?_eq_some_iff.mp hj').1
                      rw [List.length_take] at this
                      omega
                    rw [List.getElem?_take_of_lt hlt] at hj'
                    have := nd_ix nd hj' hn
                    omega
                  rw [putF_new hnew]
                  refine k5 _ _ q5 (.refl _) (s5.write ha hc rfl rfl (c' := .obj c' (ts ++ [t2])) ⟨C, dx, fs ++ [(x, v)], names, upd_same, hC, ?_, ?_⟩) e5
                  · rw [List.map_append, h3', List.length_append]
                    show names.take ts.length ++ [x] = names.take (ts.length + 1)
                    rw [List.take_succ, ← hi, hn]
                    rfl
                  · rw [List.map_append]
                    exact h4.append (.cons (r1.mono l5) .nil)
                · rw [if_neg hi] at k5
                  by_cases hi2 : i < ts.length
                  · rw [if_pos hi2] at k5
                    have hat : (fs.map Prod.fst)[i]? = some x := by rw [h3', List.getElem?_take_of_lt hi2]; exact hn
                    obtain ⟨e1', e2'⟩ := putF_old (y := v) (fs := fs) (by rw [h3']; exact nd.sublist (List.take_sublist _ _)) hat
                    refine k5 _ _ q5 (.refl _) (s5.write ha hc rfl rfl (c' := .obj c' (ts.set i t2)) ⟨C, dx, putF x v fs, names, upd_same, hC, ?_, ?_⟩) e5
                    · rw [e1', h3', List.length_set]
                    · rw [e2']
                      exact RTs.set (r1.mono l5) i h4
                  · rw [if_neg hi2] at k5
                    exact k5.elim
              · rw [if_neg hcc] at k5
                exact k5.elim
            | lst _ => exact k5.elim
            | dT _ _ => exact k5.elim
            | dK _ _ => exact k5.elim
            | frz _ _ => exact k5.elim
            | hid => exact k5.elim
            | tup _ => exact k5.elim
theorem xs_put (ho : PE X o (tD Z W go)) (hi : PE X ie (tD Z W gi)) (hv : PE X value (tD Z W ge))
    (ha : ∀ v, assign (.Subscript o ie pos') X.env v = (do
      let ov ← holding [v] (eval o X.env)
      let iv ← holding [v, ov] (eval ie X.env)
      standAt pos'
      holding [v, ov, iv] (setItem ov iv v)
      release [v, ov, iv] []))
    (hs : swapsWithSole [.Subscript o ie pos'] value pos.line X.env = pure false) (hw : swappedStores [.Subscript o ie pos'] value X.env = pure none) (h1 : (assignEach [.Subscript o ie pos'] X.env).map (·.2) = [assign (.Subscript o ie pos') X.env]) :
    PS X (.Assign [.Subscript o ie pos'] value pos) (tDS Z W (sPutD go gi ge)) :=
  ps_imp (ps_asg hv (pg_sub ho hi set_list ha) hs hw h1) fun D σ H ⟨p, μ, Γ, s, er, h⟩ => by
    obtain ⟨p', μ', Γ', s', e', h'⟩ := tD_bindS s er h
    refine ⟨p', μ', Γ', s', e', ?_⟩
    match hg : ge Γ' μ', h' with
    | some (.exc c t μ1), h' => exact h'
    | some (.ok t μ1), h' =>
      intro v H1 q hl hs hr
      obtain ⟨q1, μ2, t2, l1, s1, e1, r1, k1⟩ := h' v H1 q hl hs hr
      obtain ⟨p3, μ3, Γ3, s3, e3, h3⟩ := tD_bindS s1 e1 k1
      refine ⟨p3, μ3, Γ3, s3, e3, ?_⟩
      match hg3 : go Γ3 μ3, h3 with
      | some (.exc c4 t4 μ4), h3 => exact h3
      | some (.ok t4 μ4), h3 =>
        intro v4 H4 q4 hl4 hs4 hr4
        obtain ⟨q5, μ5, t5, l5, s5, e5, r5, k5⟩ := h3 v4 H4 q4 hl4 hs4 hr4
        obtain ⟨p6, μ6, Γ6, s6, e6, h6⟩ := tD_bindS s5 e5 k5
        refine ⟨p6, μ6, Γ6, s6, e6, ?_⟩
        match hg6 : gi Γ6 μ6, h6 with
        | some (.exc c4 t4 μ4), h6 => exact h6
        | some (.ok t7 μ7), h6 =>
          intro v8 H8 q8 hl8 hs8 hr8
          obtain ⟨q9, μ9, t9, l9, s9, e9, r9, k9⟩ := h6 v8 H8 q8 hl8 hs8 hr8
          cases t5 with
          | v _ _ => exact k9.elim
          | m j =>
            have r5' := r5.mono l9
            obtain ⟨a, ha, rfl⟩ := r5'
            simp only [putIxV] at k9
            cases t9 with
            | m _ => exact k9.elim
            | v fl d =>
              cases d with
              | int z =>
                cases r9.int
                dsimp only at k9
                cases hc : μ9[j]? with
                | none => rw [hc] at k9; exact k9.elim
                | some cc =>
                  rw [hc] at k9
                  cases cc with
                  | lst ts =>
                    dsimp only at k9
                    cases hx : ixN ts.length z with
                    | none => rw [hx] at k9; exact k9.elim
                    | some kk =>
                      rw [hx] at k9
                      obtain ⟨vs, h1, h2⟩ := s9.cell j a _ ha hc
                      exact ⟨a, vs, z, kk, rfl, rfl, h1, by rw [h2.length]; exact hx, k9 _ _ q9 (.refl _) (s9.write ha hc rfl rfl (c' := .lst (ts.set kk t2)) ⟨_, upd_same, RTs.set ((r1.mono l5).mono l9) kk h2⟩) e9⟩
                  | obj _ _ => exact k9.elim
                  | dT _ _ => exact k9.elim
                  | dK _ _ => exact k9.elim
                  | frz _ _ => exact k9.elim
                  | hid => exact k9.elim
                  | tup _ => exact k9.elim
              | _ => exact k9.elim
end
end L3

set_option Elab.async false
set_option linter.all false
set_option maxRecDepth 100000
set_option maxHeartbeats 4000000
/-! L3, twenty-first part: own ==, chains, lists that are taken apart, lists that stand still, += and -=. -/
namespace L3
open PySem PySem.Spec PyProof.Rows L2

/-- what is never reached -/
def sNo : Ds := fun _ _ => none
def dNo : De := fun _ _ => none
section
variable {X : Cx} {Z : Ent} {W : Wish} {k n : Nat} {f C : Addr} {fd : FuncData} {ps ks : List Str} {g : List T → Mu → Ot T} {x m : Str} {p pos pos' apos nm : Pos} {a b c e o ie value : Expr} {es : List Expr} {st : Stmt} {sts : List Stmt} {da dk : Da} {ga gb gc go ge gi : De}
theorem xs_no : PS X st (tDS Z W sNo) := ps_imp ps_never fun D σ H ⟨p, μ, Γ, s, e, h⟩ => h
theorem xss_no : PSs X sts (tDS Z W sNo) := pss_imp pss_never fun D σ H ⟨p, μ, Γ, s, e, h⟩ => h

/-! a op b op c -/
def dChain (op op' : CmpOp) (ga gb gc : De) : De := fun Γ μ => Ot.bind (ga Γ μ) fun ta μ1 => Ot.bind (gb Γ μ1) fun tb μ2 => match cmpV op μ2 ta tb with
  | some true => Ot.bind (gc Γ μ2) fun tc μ3 => (cmpVt op' μ3 tb tc).ot
  | some false => some (.ok (.v true (.bl false)) μ2)
  | none => none
theorem chain_owes {op op' : CmpOp} {σ : L2.St} {H : Hp} {Q : VK} (h : tD Z W (dChain op op' ga gb gc) σ H Q) :
    tChain (rV2 Z (cmpVt op)) (rV2 Z (cmpVt op')) (tD Z W ga) (tD Z W gb) (tD Z W gc) σ H Q := by
  obtain ⟨p0, μ, Γ, s, e0, h⟩ := h
  obtain ⟨p', μ', Γ', s', e', h'⟩ := tD_bind s e0 h
  refine ⟨p', μ', Γ', s', e', ?_⟩
  match hg : ga Γ' μ', h' with
  | some (.exc c t μ1), h' => exact h'
  | some (.ok t μ1), h' =>
    intro v H1 q hl hs hr
    obtain ⟨q1, μ2, t2, l1, s1, e1, r1, k1⟩ := h' v H1 q hl hs hr
    obtain ⟨p3, μ3, Γ3, s3, e3, h3⟩ := tD_bind s1 e1 k1
    refine ⟨p3, μ3, Γ3, s3, e3, ?_⟩
    match hg3 : gb Γ3 μ3, h3 with
    | some (.exc c4 t4 μ4), h3 => exact h3
    | some (.ok t4 μ4), h3 =>
      intro v4 H4 q4 hl4 hs4 hr4
      obtain ⟨q5, μ5, t5, l5, s5, e5, r5, k5⟩ := h3 v4 H4 q4 hl4 hs4 hr4
      refine ⟨q5, μ5, t2, t5, s5, r1.mono l5, r5, ?_⟩
      unfold cmpVt
      cases hcmp : cmpV op μ5 t2 t5 with
      | none => rw [hcmp] at k5; exact k5.elim
      | some kk =>
        rw [hcmp] at k5
        intro v6 H6 q6 l6 s6 r6
        cases r6.bl
        refine ⟨kk, rfl, ?_⟩
        cases kk with
        | false =>
          rw [if_neg Bool.false_ne_true]
          exact k5 _ _ q6 l6 s6 (Dx.bl _ : Dx Z.K Z.TB q6.N _ _)
        | true =>
          rw [if_pos rfl]
          obtain ⟨p7, μ7, Γ7, s7, e7, h7⟩ := tD_bind s6 (e5.mono l6) (Post.le l6 k5)
          refine ⟨p7, μ7, Γ7, s7, e7, ?_⟩
          match hg7 : gc Γ7 μ7, h7 with
          | some (.exc c4 t4 μ4), h7 => exact h7
          | some (.ok t4 μ4), h7 =>
            intro v8 H8 q8 hl8 hs8 hr8
            obtain ⟨q9, μ9, t9, l9, s9, e9, r9, k9⟩ := h7 v8 H8 q8 hl8 hs8 hr8
            exact ⟨q9, μ9, t5, t9, s9, (r5.mono l6).mono l9, r9, VPost.post k9⟩
theorem xe_chain (B : Be X Z W k) {op op' : CmpOp} (ha : PE X a (tD Z W ga)) (hb : PE X b (tD Z W gb)) (hc : PE X c (tD Z W gc)) (hm : lastMarks [op, op'] [b, c] = false) :
    PE X (.Compare a [op, op'] [b, c] pos) (tD Z W (dChain op op' ga gb gc)) :=
  pe_imp (pe_chain (op_cmpV B.hK B.hu op) (op_cmpV B.hK B.hu op') ha hb hc hm) fun σ H Q h => chain_owes h

/-! own == -/
def eqOwn (g : List T → Mu → Ot T) (c : Nat) (live : Bool) (μ : Mu) (tx ty : T) : Ot T := match objOf μ tx, objOf μ ty with
  | some (c1, _), some (c2, _) => if c1 = c ∧ c2 = c then match callD g live [false, false] [tx, ty] μ with
    | some (.ok (.v fl (.bl b)) μ') => some (.ok (.v fl (.bl b)) μ')
    | _ => none
    else none
  | _, _ => none
def rOwn (Z : Ent) (g : List T → Mu → Ot T) (c : Nat) (live : Bool) : R2 := fun x y H Q => ∃ (p : Pt) (μ : Mu) (tx ty : T), SR Z p H μ ∧ RT Z p x tx ∧ RT Z p y ty ∧ Post Z W0 [] Q p (eqOwn g c live μ tx ty)
theorem op_own (live : Bool) {c : Nat} {names : List Str} (B : Be X Z W k) (hC : Z.TB.cls c = some (C, names)) (F : FnG X.prog X.w X.K X.mg X.base k f fd ps (spD X.K Z.TB g 2)) (hs : PySem.W.findIn X.K (.ref C) "__eq__" = some (some (.ref f)))
    (hf : PySem.W.isFn X.K (.ref f) = true) (hb : Binds X.K fd ps []) (hps : ps.length = 2) : OpR X (compareOp .Eq) (rOwn Z g c live) := by
  intro pins s σ H x y u v Q I rx ry d
  obtain ⟨q, μ, tx, ty, sr, rtx, rty, po⟩ := d
  unfold eqOwn at po
  split at po
  · rename_i c1 _ c2 _ h1 h2
    split at po
    · rename_i hcc
      obtain ⟨rfl, rfl⟩ := hcc
      obtain ⟨a, C', dx, fs, names', rfl, ha, hc', _, _⟩ := obj_ok sr rtx h1
      rw [hC] at hc'
      cases hc'
      obtain ⟨b, C', dy, gs, names', rfl, hb', hc', _, _⟩ := obj_ok sr rty h2
      rw [hC] at hc'
      cases hc'
      cases rx
      cases ry
      obtain ⟨mA, J, _⟩ := ins_get I.hok ha
      obtain ⟨mB, J', _⟩ := ins_get I.hok hb'
      obtain ⟨od, J, _⟩ := J.look
      obtain ⟨od', J', _⟩ := J'.look
      obtain ⟨m, hF⟩ := I.fr
      have ow : spD Z.K Z.TB g 2 [V.ref a, V.ref b] H (fun v H' => (∃ k, v = .bl k) ∧ Q v H') (fun _ _ _ => False) := by
        refine call_owes (W := W0) (σ := []) (live := live) (rf := [false, false]) (ts := [tx, ty]) sr (.cons rtx (.cons rty .nil)) ?_
        cases hg : callD g live [false, false] [tx, ty] μ with
        | none => rw [hg] at po; exact po.elim
        | some rr =>
          rw [hg] at po
          cases rr with
          | exc _ _ _ => exact po.elim
          | ok t μ' =>
            intro v H' r l s rv
            cases t with
            | m _ => exact po.elim
            | v fl d =>
              cases d with
              | bl b => exact ⟨⟨b, rv.bl⟩, po v H' r l s rv⟩
              | _ => exact po.elim
      rw [← B.hK] at ow
      show wpAny (model X.prog X.w) X.A (richCompare .Eq (.ref a) (.ref b)) (EP X pins σ Q) X.xe s
      refine PySem.W.cmp_K (op := .Eq) (tb := .ref C) B.room.units0 hF I.ok.mod.kin J J'.type (by simp [PySem.W.notFirst]) hs hf ?_
      have hbb := hb s [.ref a, .ref b] I.kIn (by rw [hps]; rfl)
      refine wpAny_call (codeAny_mono (F.run X.A X.stack s H ⟨[.ref a, .ref b], []⟩ [.ref a, .ref b] [.ref a, .ref b] _ (fun _ _ _ => False) B.room B.gd I.env0 hbb (.cons rfl (.cons rfl .nil)) ow) fun r s' hq => ?_)
      cases r with
      | error e =>
        obtain ⟨_, _, _, _, _, _, _, _, _, _, _, _, _, _, _, _, w⟩ := XE.of_call (W := W0) I (fun _ _ _ h => h) hq
        exact w.elim
      | ok fl =>
        cases fl with
        | ret w =>
          obtain ⟨z, H', I', rz, ⟨kk, ez⟩, ex⟩ := I.after hq
          subst ez
          cases rz
          exact ⟨.bl kk, H', I', rfl, ex⟩
        | next => exact False.elim hq
        | brk => exact False.elim hq
        | cont => exact False.elim hq
    · exact po.elim
  · exact po.elim
def dOwn (g : List T → Mu → Ot T) (c : Nat) (live : Bool) (ga gb : De) : De := fun Γ μ => Ot.bind (ga Γ μ) fun ta μ1 => Ot.bind (gb Γ μ1) fun tb μ2 => eqOwn g c live μ2 ta tb
theorem xe_own (live : Bool) {c : Nat} {names : List Str} (B : Be X Z W k) (hC : Z.TB.cls c = some (C, names)) (F : FnG X.prog X.w X.K X.mg X.base k f fd ps (spD X.K Z.TB g 2)) (hs : PySem.W.findIn X.K (.ref C) "__eq__" = some (some (.ref f)))
    (hf : PySem.W.isFn X.K (.ref f) = true) (hbd : Binds X.K fd ps []) (hps : ps.length = 2) (ha : PE X a (tD Z W ga)) (hb : PE X b (tD Z W gb)) (hm : behindInMarks .Eq b = false) :
    PE X (.Compare a [.Eq] [b] pos) (tD Z W (dOwn g c live ga gb)) :=
  pe_imp (pe_cmpR (op_own live B hC F hs hf hbd hps) ha hb hm) fun σ H Q h => by
    obtain ⟨p, μ, Γ, s, e, h⟩ := h
    obtain ⟨p', μ', Γ', s', e', h'⟩ := tD_bind s e h
    refine ⟨p', μ', Γ', s', e', ?_⟩
    match hg : ga Γ' μ', h' with
    | some (.ok t μ1), h' =>
      intro v H' q hl hs hr
      obtain ⟨q1, μ2, t2, l1, s1, e1, r1, k1⟩ := h' v H' q hl hs hr
      obtain ⟨p3, μ3, Γ3, s3, e3, h3⟩ := tD_bind s1 e1 k1
      refine ⟨p3, μ3, Γ3, s3, e3, ?_⟩
      match hg3 : gb Γ3 μ3, h3 with
      | some (.ok t4 μ4), h3 =>
        intro v4 H4 q4 hl4 hs4 hr4
        obtain ⟨q5, μ5, t5, l5, s5, e5, r5, k5⟩ := h3 v4 H4 q4 hl4 hs4 hr4
        refine ⟨q5, μ5, t2, t5, s5, r1.mono l5, r5, ?_⟩
        cases hq : eqOwn g c live μ5 t2 t5 with
        | none => rw [hq] at k5; exact k5.elim
        | some rr =>
          rw [hq] at k5
          cases rr with
          | ok _ _ => exact k5
          | exc c2 t2' μ2' =>
            unfold eqOwn at hq
            split at hq
            · split at hq
              · split at hq
                · cases hq
                · cases hq
              · cases hq
            · cases hq
      | some (.exc c4 t4 μ4), h3 => exact h3
    | some (.exc c t μ1), h' => exact h'

/-! taking a list apart -/
def gUl (n : Nat) (h : Dgs) : Dg := fun y Γ μ => match y with
  | .two _ _ => none
  | .one t => match items μ t with
    | some (true, ts) => if ts.length = n then h ts Γ μ else none
    | _ => none
theorem xg_unl {es : List Expr} {k n : Nat} {js : List Nat} {h : Dgs} (hK : X.K = Z.K) (hc : X.calm = true) (hh : PGs X es (tGs Z js h)) (hn : (assignEach es X.env).length = n) (hst : (assignEach es X.env).findIdx? (·.1) = none) :
    PG X (.Tuple es k pos) (tG Z js (gUl n h)) :=
  pg_imp (pg_unl hc hh hn hst) fun v σ H Q ⟨p, μ, Γ, Γ', y, s, e, r, hd, q⟩ => by
    cases y with
    | two t u => cases hd
    | one t =>
      simp only [gUl] at hd
      split at hd
      · rename_i ts hi
        split at hd
        · rename_i hl
          obtain ⟨a, vs, rfl, h1, h2⟩ := items_ok s r hi
          exact ⟨a, vs, rfl, by rw [hK]; exact h1, by rw [h2.length]; exact hl, p, μ, Γ, Γ', ts, s, e, h2, hd, q⟩
        · cases hd
      · cases hd

/-! a new list stands still -/
/-- the list at the first new cell or later: for good from now on, and nothing else of what is new stays in view -/
def frzV (n0 m0 : Nat) (t : T) (μ : Mu) : Vt := match t with
  | .m j => match μ[j]? with
    | some (.lst ts) => match pack ts with
      | some (f, ds) => if m0 ≤ j ∧ n0 ≤ j ∧ (μ.take n0).all (Cell.low n0) then some (.v f (.lst ds), μ.take n0) else none
      | none => none
    | _ => none
  | .v f d => if (μ.take n0).all (Cell.low n0) then some (.v f d, μ.take n0) else none
def dFrz (m0 : Nat) (g : De) : De := fun Γ μ => Ot.bind (g Γ μ) fun t μ1 => (frzV μ.length m0 t μ1).ot
theorem xe_frz {m0 : Nat} (hm : Z.ms0.length = m0) (h : PE X e (tD Z W ge)) : PE X e (tD Z W (dFrz m0 ge)) := by
  subst hm
  refine pe_imp h fun σ H Q ⟨p, μ, Γ, s, er, h⟩ => ⟨p, μ, Γ, s, er, ?_⟩
  unfold dFrz at h
  cases hg : ge Γ μ with
  | none => rw [hg] at h; exact h.elim
  | some rr =>
    rw [hg] at h
    cases rr with
    | exc _ _ _ => exact h
    | ok t μ1 =>
      intro v H' q l s1 r1
      replace h : Post Z W σ Q p (frzV μ.length Z.ms0.length t μ1).ot := h
      replace h := VPost.post h
      have hpl : Z.ms0.length ≤ μ.length := by rw [← s.len]; exact s.pre.length_le
      have hn : p.ms.length ≤ μ.length := Nat.le_of_eq s.len
      unfold frzV at h
      split at h
      · rename_i j
        obtain ⟨a, hj, rfl⟩ := r1
        split at h
        · rename_i ts hts
          split at h
          · rename_i f ds hp
            split at h
            · rename_i hc
              obtain ⟨h0, h1, hlow⟩ := hc
              obtain ⟨o, ho, s2, l2, r2⟩ := s1.freeze hj hts h0 hp
              have ht : (μ1.set j (.frz f (.lst ds))).take μ.length = μ1.take μ.length := by
                rw [List.take_set]
                exact List.set_eq_of_length_le (by rw [List.length_take]; omega)
              have s3 := s2.cut hpl (by rw [ht]; exact hlow)
              rw [ht] at s3
              exact h _ _ _ (s2.cut_le (l.trans l2) hn) s3 (RT.low rfl r2)
            · exact h.elim
          · exact h.elim
        · exact h.elim
      · split at h
        · rename_i f d hlow
          exact h _ _ _ (s1.cut_le l hn) (s1.cut hpl hlow) (RT.low rfl r1)
        · exact h.elim

/-! a tuple of what may still change -/
def dTupL (da : Da) : De := fun Γ μ => Ot.bind (da Γ μ) fun ts μ1 => if ts.length ≤ 64 then some (.ok (.m μ1.length) (μ1 ++ [.tup ts])) else none
theorem xe_tupL {k : Nat} (h : PA X es (tDA Z W da)) : PE X (.Tuple es k pos) (tD Z W (dTupL da)) :=
  pe_imp (pe_tup h) fun σ H Q ⟨p, μ, Γ, s, e, h⟩ => by
    obtain ⟨p', μ', Γ', s', e', h'⟩ := tDA_bind s e h
    refine ⟨p', μ', Γ', s', e', ?_⟩
    match hg : da Γ' μ', h' with
    | some (.ok t μ1), h' =>
      intro v H' q hl hs hr
      obtain ⟨q1, μ2, t2, l1, s1, e1, r1, k1⟩ := h' v H' q hl hs hr
      split at k1
      · rename_i hz
        refine ⟨by rw [r1.length]; exact small_line hz, fun A hA => ?_⟩
        have hat : (q1.push A).ms[μ2.length]? = some A := by
          show (q1.ms ++ [A])[μ2.length]? = some A
          rw [← s1.len]; simp
        exact k1 _ _ (q1.push A) Pt.push_le (s1.push (c := .tup t2) hA rfl ⟨v, upd_same, r1.mono Pt.push_le⟩) ⟨A, hat, rfl⟩
      · exact k1.elim
    | some (.exc c t μ1), h' => exact h'
end
end L3

set_option Elab.async false
set_option linter.all false
set_option maxRecDepth 100000
set_option maxHeartbeats 4000000
/-! L3, twenty-second part: += and -= at a place of a list. -/
namespace L3
open PySem PySem.Spec PyProof.Rows L2

def augI (op : Operator) (i j : Int) : Option Int := match op with
  | .Add => some (i + j)
  | .Sub => some (i - j)
  | _ => none
def sAugS (op : Operator) (go gi ge : De) : Ds := fun Γ μ => Ot.bindS (go Γ μ) Γ fun o μ1 => Ot.bindS (gi Γ μ1) Γ fun i μ2 => match o, i with
  | .m j, .v _ (.int n) => match μ2[j]? with
    | some (.lst ts) => if 0 ≤ n ∧ n < 2 ^ 63 then match ts[n.toNat]? with
      | some (.v _ (.int z)) => Ot.bindS (ge Γ μ2) Γ fun y μ3 => match y, μ3[j]? with
        | .v _ (.int w), some (.lst us) => match augI op z w, ixN us.length n with
          | some r, some k => some (.nx Γ (μ3.set j (.lst (us.set k (.v true (.int r))))))
          | _, _ => none
        | _, _ => none
      | _ => none
      else none
    | _ => none
  | _, _ => none
section
variable {X : Cx} {Z : Ent} {W : Wish} {k n : Nat} {o ie e : Expr} {go gi ge : De} {tpos pos : Pos}
theorem get_cell : PGet X (fun o i H Q => ∃ (p : Addr) (xs : List V) (k : Int) (x : V), o = .ref p ∧ i = .int k ∧ H p = some (.lst xs) ∧ 0 ≤ k ∧ k < 2 ^ 63 ∧ xs[k.toNat]? = some x ∧ Q x H) := by
  intro pins s σ H o i ov iv Q I ro ri h
  obtain ⟨p, xs, k, x, rfl, rfl, hp, h0, h1, hx, q⟩ := h
  cases ro
  obtain ⟨t, rfl⟩ := ri
  obtain ⟨its, r, pl, hz⟩ := I.list (SqL.of hp)
  obtain ⟨w, ew, rw'⟩ := r.get hx
  exact wpAny_getItem_list pl.isList h0 h1 (by simpa using ew) ⟨x, H, I, rw', q⟩
theorem ip_augI (op : Operator) : PIp X op (fun x y H Q => ∃ i j r, x = .int i ∧ y = .int j ∧ augI op i j = some r ∧ Q (.int r) H) := by
  intro pins s σ H x y v u Q I r1 r2 h
  obtain ⟨i, j, r, rfl, rfl, hr, q⟩ := h
  cases op <;> first
    | (cases hr; exact ip_add pins s σ H _ _ v u Q I r1 r2 ⟨i, j, rfl, rfl, q⟩)
    | (cases hr; exact ip_sub pins s σ H _ _ v u Q I r1 r2 ⟨i, j, rfl, rfl, q⟩)
    | cases hr
theorem xs_augS {op : Operator} (ho : PE X o (tD Z W go)) (hi : PE X ie (tD Z W gi)) (he : PE X e (tD Z W ge))
    (ha : ∀ ov iv new, augStore ie ov iv new = (do holding [new, ov, iv] (setItem ov iv new); release [new, ov, iv] []; pure .next)) :
    PS X (.AugAssign (.Subscript o ie tpos) op e pos) (tDS Z W (sAugS op go gi ge)) :=
  ps_imp (ps_augS ho hi get_cell he (ip_augI op) set_list ha) fun D σ H ⟨p, μ, Γ, s, er, h⟩ => by
    obtain ⟨p', μ', Γ', s', e', h'⟩ := tD_bindS s er h
    refine ⟨p', μ', Γ', s', e', ?_⟩
    match hg : go Γ' μ', h' with
    | some (.exc c t μ1), h' => exact h'
    | some (.ok t μ1), h' =>
      intro v H1 q hl hs hr
      obtain ⟨q1, μ2, t2, l1, s1, e1, r1, k1⟩ := h' v H1 q hl hs hr
      obtain ⟨p3, μ3, Γ3, s3, e3, h3⟩ := tD_bindS s1 e1 k1
      refine ⟨p3, μ3, Γ3, s3, e3, ?_⟩
      match hg3 : gi Γ3 μ3, h3 with
      | some (.exc c4 t4 μ4), h3 => exact h3
      | some (.ok t4 μ4), h3 =>
        intro v4 H4 q4 hl4 hs4 hr4
        obtain ⟨q5, μ5, t5, l5, s5, e5, r5, k5⟩ := h3 v4 H4 q4 hl4 hs4 hr4
        split at k5
        · rename_i j fl n _
          obtain ⟨a, hja, rfl⟩ := r1.mono l5
          cases r5.int
          split at k5
          · rename_i ts hts
            split at k5
            · rename_i hn
              split at k5
              · rename_i fz z hz
                obtain ⟨vs, hv, rv⟩ := s5.cell j a _ hja hts
                obtain ⟨w, hw1, hw2⟩ := rv.get hz
                cases hw2.int
                refine ⟨a, vs, n, _, rfl, rfl, hv, hn.1, hn.2, hw1, ?_⟩
                obtain ⟨p6, μ6, Γ6, s6, e6, h6⟩ := tD_bindS s5 e5 k5
                refine ⟨p6, μ6, Γ6, s6, e6, ?_⟩
                match hg6 : ge Γ6 μ6, h6 with
                | some (.exc c4 t4 μ4), h6 => exact h6
                | some (.ok t7 μ7), h6 =>
                  intro v8 H8 q8 hl8 hs8 hr8
                  obtain ⟨q9, μ9, t9, l9, s9, e9, r9, k9⟩ := h6 v8 H8 q8 hl8 hs8 hr8
                  split at k9
                  · rename_i fy y us hus
                    cases r9.int
                    split at k9
                    · rename_i r kk hr hk
                      have hja9 : q9.ms[j]? = some a := by
                        obtain ⟨x, hx⟩ := l9.m
                        rw [← hx, List.getElem?_append_left (List.getElem?_eq_some_iff.mp hja).1]
                        exact hja
                      obtain ⟨vs9, hv9, rv9⟩ := s9.cell j a _ hja9 hus
                      exact ⟨z, y, r, rfl, rfl, hr, a, vs9, n, kk, rfl, rfl, hv9, by rw [rv9.length]; exact hk, k9 _ _ q9 (.refl _) (s9.write hja9 hus rfl rfl (c' := .lst (us.set kk (.v true (.int r)))) ⟨_, upd_same, RTs.set (show RT Z q9 (.int r) (.v true (.int r)) from Dx.int _) kk rv9⟩) e9⟩
                    · exact k9.elim
                  · exact k9.elim
              · exact k5.elim
            · exact k5.elim
          · exact k5.elim
        · exact k5.elim
end
end L3

set_option Elab.async false
set_option linter.all false
set_option maxRecDepth 100000
set_option maxHeartbeats 4000000
/-! L3, twenty-third part: isinstance of an own class. -/
namespace L3
open PySem PySem.Spec PyProof.Rows L2

/-- what the class says of __class__ -/
structure IsC (K : PySem.W.Frag) (C : Addr) : Prop where
  ha : PySem.W.findIn K (.ref C) "__class__" = some (some (.builtin "object.__class__"))
  hn : PySem.W.specialIn K (.builtin "object.__class__") "__get__" = some (some (.builtin "getset_descriptor.__get__"))
  ht : PySem.W.takesIn K (.builtin "object.__class__") = some true
  hm : PySem.W.mroIn K C (.type "object") = some true
def isiV (c : Nat) (μ : Mu) (t : T) : Vt := match objOf μ t with
  | some (c', _) => if c' = c then some (.v true (.bl true), μ) else none
  | none => none
section
variable {X : Cx} {Z : Ent} {W : Wish} {k : Nat} {o : Expr} {go : De} {y : Str} {p p2 pos : Pos} {C : Addr}
theorem xe_isi {c : Nat} {names : List Str} (B : Be X Z W k) (hC : Z.TB.cls c = some (C, names)) (cl : Cls X.K C) (i : IsC X.K C) (hg : Gl X "isinstance") (hm : X.mg "isinstance" = none) (hgC : Gl X y) (hmC : X.mg y = some (.ref C)) (hy : (y == ("__debug__" : Str)) = false)
    (ho : PE X o (tD Z W go)) (he : starEach [o, .Name y p2] X.env = (false, eval o X.env) :: starEach [.Name y p2] X.env) (he2 : starEach [.Name y p2] X.env = (false, eval (.Name y p2) X.env) :: starEach [] X.env)
    (hpl : (backTo pos (starEach [.Name y p2] X.env)).any (·.1) = false) : PE X (.Call (.Name "isinstance" p) [o, .Name y p2] [] pos) (tD Z W (d1 (isiV c) go)) :=
  pe_imp (pe_callB call_isi hg hm (by rfl) (pa_cons ho (pa_cons (pe_glob (v := .ref C) hgC hmC rfl hy) pa_nil he2) he) (by decide) (by rfl) he hpl) fun σ H Q h => by
    obtain ⟨p', μ', Γ', s', e', h'⟩ := one h
    refine ⟨p', μ', Γ', s', e', ?_⟩
    match hg : go Γ' μ', h' with
    | some (.exc c t μ1), h' => exact h'
    | some (.ok t μ1), h' =>
      intro v H' q hl hs hr
      obtain ⟨q1, μ2, t2, s1, r1, k1⟩ := h' v H' q hl hs hr
      unfold isiV at k1
      split at k1
      · rename_i c' ts hob
        split at k1
        · rename_i hc
          subst hc
          obtain ⟨a, C', dx, fs, names', rfl, h1, h2, h3, h4⟩ := obj_ok s1 r1 hob
          rw [hC] at h2
          cases h2
          refine ⟨.ref a, .ref C, .ref C, .ref C, true, rfl, .own C, .base (.ins h1 cl i.ha i.hn i.ht i.hm), ?_, k1 _ _ q1 (.refl _) s1 (Dx.bl _ : Dx Z.K Z.TB q1.N _ _)⟩
          unfold PySem.W.kitOne
          rw [if_pos (by simp)]
        · exact k1.elim
      · exact k1.elim
end
end L3

set_option Elab.async false
set_option linter.all false
set_option maxRecDepth 100000
set_option maxHeartbeats 4000000
/-! L3: sorted, of alike data of any shape. -/
namespace L3
open PySem PySem.Spec PyProof.Rows L2

def keyD (d : D) : PyData := d.py.getD .none
def sortD (ds : List D) : List D := ds.mergeSort (PySem.W.dataLe false keyD)
def rowHd : PyData → Bool
  | .tuple (_ :: _) => true
  | _ => false
def noRow : PyData → Bool
  | .tuple _ => false
  | .none => false
  | _ => true
/-- what sorted asks of the items -/
def okSort (ds : List D) : Bool := ds.all (fun d => d.py.isSome && decide ((keyD d).depth ≤ 40)) && (ds.all fun d => ds.all fun e => PySem.W.alike (keyD d) (keyD e)) && (ds.all (fun d => rowHd (keyD d)) || ds.all (fun d => noRow (keyD d)))
def sortV (live : Bool) (μ : Mu) : List T → Vt
  | [t] => match items μ t with
    | some (true, ts) => match pack ts with
      | some (f, ds) => if okSort ds then newL live μ ((sortD ds).map (.v f)) else none
      | none => none
    | _ => none
  | _ => none
section
variable {X : Cx} {Z : Ent} {W : Wish} {k : Nat}
theorem each_of {p : Pt} {f : Bool} : ∀ {vs : List V} {us : List Value} {ds : List D}, Vals vs us → DxAll Z.K Z.TB (if f then p.N else p.F) vs ds → PySem.W.EachIs (fun u d => ∃ v, RelV v u ∧ Dx Z.K Z.TB (if f then p.N else p.F) v d) us ds
  | _, _, _, .nil, .nil => .nil
  | _, _, _, .cons r g, .cons h q => .cons ⟨_, r, h⟩ (each_of g q)
theorem each_back {p : Pt} {f : Bool} : ∀ {us : List Value} {ds : List D}, PySem.W.EachIs (fun u d => ∃ v, RelV v u ∧ Dx Z.K Z.TB (if f then p.N else p.F) v d) us ds → ∃ vs, Vals vs us ∧ RTs Z p vs (ds.map (.v f))
  | _, _, .nil => ⟨[], .nil, .nil⟩
  | _, _, .cons ⟨v, r, h⟩ q => by
    obtain ⟨vs, h1, h2⟩ := each_back q
    refine ⟨v :: vs, .cons r h1, .cons ?_ h2⟩
    cases f
    · exact h
    · exact h
theorem each_imp {α β : Type} {R S : α → β → Prop} : ∀ {as : List α} {bs : List β}, PySem.W.EachIs R as bs → (∀ a b, b ∈ bs → R a b → S a b) → PySem.W.EachIs S as bs
  | _, _, .nil, _ => .nil
  | _, _, .cons h t, i => .cons (i _ _ List.mem_cons_self h) (each_imp t fun a b hb => i a b (List.mem_cons_of_mem _ hb))
theorem call_sortV (B : Be X Z W k) (live : Bool) : CallR X (.builtin "sorted") (rVs Z (sortV live)) := by
  intro pins s σ H xs us Q I r h
  obtain ⟨p, μ, ts, sr, rt, h⟩ := h
  unfold sortV at h
  split at h
  · rename_i t
    obtain ⟨v, rfl, hv⟩ := rt.one
    split at h
    · rename_i tsi hi
      split at h
      · rename_i f ds hp
        split at h
        · rename_i ok
          unfold okSort at ok
          rw [Bool.and_eq_true_iff, Bool.and_eq_true_iff] at ok
          obtain ⟨⟨ok1, ok2⟩, ok3⟩ := ok
          have k1 : ∀ d ∈ ds, d.py.isSome = true ∧ (keyD d).depth ≤ 40 := fun d hd => by
            have := List.all_eq_true.mp ok1 d hd
            rw [Bool.and_eq_true_iff] at this
            exact ⟨this.1, of_decide_eq_true this.2⟩
          obtain ⟨a, vs, rfl, hS, hvs⟩ := items_ok sr hv hi
          obtain ⟨u, rfl, ru⟩ := vals1 r
          obtain rfl : u = Value.ref a := ru
          have hS : SqL X.K H a vs := by rw [B.hK]; exact hS
          obtain ⟨its, rv, pl, hz⟩ := I.list hS
          obtain ⟨p1, p2⟩ := pack_ok sr hp hvs
          have dx : DxAll Z.K Z.TB (if f then p.N else p.F) vs ds := by
            cases f
            · exact p2
            · exact p1 rfl
          have up : Same (if f then p.N else p.F) H := by
            cases f
            · exact sr.sub
            · exact sr.nin.trans sr.sub
          have el := dx.length
          refine PySem.W.sorted_data (enc := keyD) (bs := ds) pl.isList (each_of rv dx) (each_imp (each_of rv dx) fun u d hd ⟨v, r1, h1⟩ => ?_) (fun d hd e he => ?_) ?_ (by rw [← el]; exact hz) (fun d hd => ?_) fun out hlen ho => ?_
          · obtain ⟨e, he⟩ := Option.isSome_iff_exists.mp (k1 d hd).1
            have hk : keyD d = e := by unfold keyD; rw [he]; rfl
            rw [hk]
            have q := Dx.py d (Dx.mono up d h1) he
            rw [← B.hK] at q
            exact Dp.reads I e v u q r1
          · obtain ⟨d', hd', rfl⟩ := List.mem_map.mp hd
            obtain ⟨e', he', rfl⟩ := List.mem_map.mp he
            exact List.all_eq_true.mp (List.all_eq_true.mp ok2 d' hd') e' he'
          · rw [Bool.or_eq_true_iff] at ok3
            rcases ok3 with z | z
            · refine .inl fun d hd => ?_
              obtain ⟨d', hd', rfl⟩ := List.mem_map.mp hd
              have := List.all_eq_true.mp z d' hd'
              unfold rowHd at this
              split at this
              · rename_i x r e
                exact ⟨x, r, e⟩
              · cases this
            · refine .inr fun d hd => ?_
              obtain ⟨d', hd', rfl⟩ := List.mem_map.mp hd
              have := List.all_eq_true.mp z d' hd'
              refine ⟨fun e => ?_, fun xs e => ?_⟩
              · rw [e] at this; cases this
              · rw [e] at this; cases this
          · have := (k1 d hd).2
            have := B.hu
            omega
          · obtain ⟨ys, hy, ry⟩ := each_back ho
            obtain ⟨ep, he⟩ := PyProof.Rows.sortedAll_at s.heap its out.toArray
            have hfree : H (s.heap.objs.size + 1) = none := I.hok.fresh (Nat.le_succ _)
            refine ⟨.ref (s.heap.objs.size + 1), upd H (s.heap.objs.size + 1) (.lst ys), I.laid (t' := s.toks) (fun b o e => PyProof.Rows.sortedAll_old e) (Nat.le_succ _) ⟨?_, out, ep, hy, he⟩, rfl, newL_ok sr ry h hfree⟩
            rw [hy.length, hlen, ← el]
            exact hz
        · exact h.elim
      · exact h.elim
    · exact h.elim
  · exact h.elim
end
end L3

set_option Elab.async false
set_option linter.all false
set_option maxRecDepth 100000
set_option maxHeartbeats 4000000
/-! L3: a list that stands still from now on, where it is. -/
namespace L3
open PySem PySem.Spec PyProof.Rows L2
def fzV (m0 : Nat) (t : T) (μ : Mu) : Vt := match t with
  | .m j => match μ[j]? with
    | some (.lst ts) => match pack ts with
      | some (f, ds) => if m0 ≤ j then some (.v f (.lst ds), μ.set j (.frz f (.lst ds))) else none
      | none => none
    | some (.frz f d) => some (.v f d, μ)
    | _ => none
  | .v f d => some (.v f d, μ)
def dFz (m0 : Nat) (g : De) : De := fun Γ μ => Ot.bind (g Γ μ) fun t μ1 => (fzV m0 t μ1).ot
section
variable {X : Cx} {Z : Ent} {W : Wish} {e : Expr} {ge : De}
theorem xe_fz {m0 : Nat} (hm : Z.ms0.length = m0) (h : PE X e (tD Z W ge)) : PE X e (tD Z W (dFz m0 ge)) := by
  subst hm
  refine pe_imp h fun σ H Q ⟨p, μ, Γ, s, er, h⟩ => ⟨p, μ, Γ, s, er, ?_⟩
  unfold dFz at h
  cases hg : ge Γ μ with
  | none => rw [hg] at h; exact h.elim
  | some rr =>
    rw [hg] at h
    cases rr with
    | exc _ _ _ => exact h
    | ok t μ1 =>
      intro v H' q l s1 r1
      replace h : Post Z W σ Q p (fzV Z.ms0.length t μ1).ot := h
      replace h := VPost.post h
      unfold fzV at h
      split at h
      · rename_i j
        obtain ⟨a, hj, rfl⟩ := r1
        split at h
        · rename_i ts hts
          split at h
          · rename_i f ds hp
            split at h
            · rename_i h0
              obtain ⟨o, ho, s2, l2, r2⟩ := s1.freeze hj hts h0 hp
              exact h _ _ _ (l.trans l2) s2 r2
            · exact h.elim
          · exact h.elim
        · rename_i f d hf
          exact h _ _ q l s1 (s1.cell j a _ hj hf)
        · exact h.elim
      · exact h _ _ q l s1 r1
end

/-! what loops and comprehensions come to -/
def lcOut (P : Nat → Bool) (E : Nat → T) : Nat → Nat → List T
  | 0, _ => []
  | k + 1, i => (if P i then [E i] else []) ++ lcOut P E k (i + 1)
theorem lc_ev {v : ItV} {g : Dg} {c : Db} {e : De} {own : List Nat} {Γ : Gam} {μ0 : Mu} {n : Nat} {P : Nat → Bool} {E : Nat → T} (hz : n ≤ sizeLine) (hok : ∀ acc : List T, v.ok (μ0 ++ [.lst acc]) = true)
    (h : ∀ (i : Nat) (acc : List T), i < n → ∃ y Γ1, v.at (μ0 ++ [.lst acc]) i = some y ∧ g y (wipeG Γ own) (μ0 ++ [.lst acc]) = some Γ1 ∧ c Γ1 (μ0 ++ [.lst acc]) = some (.ok (P i) (μ0 ++ [.lst acc])) ∧
      (P i = true → e Γ1 (μ0 ++ [.lst acc]) = some (.ok (E i) (μ0 ++ [.lst acc])))) :
    ∀ (k i : Nat) (acc : List T), i + k = n → acc.length ≤ i → lcD v g c e own μ0.length Γ k i (μ0 ++ [.lst acc]) = some (μ0 ++ [.lst (acc ++ lcOut P E k i)])
  | 0, i, acc, _, _ => by simp [lcD, hok, lcOut]
  | k + 1, i, acc, hi, ha => by
    obtain ⟨y, Γ1, h1, h2, h3, h4⟩ := h i acc (by omega)
    unfold lcD
    rw [if_pos (hok acc), h1]
    simp only [h2, h3]
    cases hP : P i with
    | false =>
      have := lc_ev hz hok h k (i + 1) acc (by omega) (by omega)
      simp [this, lcOut, hP]
    | true =>
      have e1 := h4 hP
      have hget : (μ0 ++ [Cell.lst acc])[μ0.length]? = some (.lst acc) := by simp
      have hset : (μ0 ++ [Cell.lst acc]).set μ0.length (.lst (acc ++ [E i])) = μ0 ++ [.lst (acc ++ [E i])] := by simp
      have := lc_ev hz hok h k (i + 1) (acc ++ [E i]) (by omega) (by simp; omega)
      simp only [e1, hget, hset]
      rw [if_pos (by omega), this]
      simp [lcOut, hP]
/-- a comprehension whose list stands still -/
theorem dlc_ev {it : Di} {v : ItV} {g : Dg} {c : Db} {e : De} {own : List Nat} {Γ : Gam} {μ μ0 : Mu} {n m0 : Nat} {P : Nat → Bool} {E : Nat → T} {f : Bool} {ds : List D} (hit : it Γ μ = some (.ok v μ0)) (hn : v.len = n) (hz : n ≤ sizeLine) (hok : ∀ acc : List T, v.ok (μ0 ++ [.lst acc]) = true)
    (h : ∀ (i : Nat) (acc : List T), i < n → ∃ y Γ1, v.at (μ0 ++ [.lst acc]) i = some y ∧ g y (wipeG Γ own) (μ0 ++ [.lst acc]) = some Γ1 ∧ c Γ1 (μ0 ++ [.lst acc]) = some (.ok (P i) (μ0 ++ [.lst acc])) ∧
      (P i = true → e Γ1 (μ0 ++ [.lst acc]) = some (.ok (E i) (μ0 ++ [.lst acc])))) (hp : pack (lcOut P E n 0) = some (f, ds)) (hm : m0 ≤ μ0.length) (hl : μ0.all (Cell.low μ0.length) = true) :
    dLc false m0 it g c e own Γ μ = some (.ok (.v f (.lst ds)) μ0) := by
  subst hn
  have q := lc_ev hz hok h v.len 0 [] (by omega) (by simp)
  simp only [List.nil_append] at q
  unfold dLc
  rw [hit]
  simp only [Ot.bind, q, lcEnd]
  simp [hp, hm, hl, Vt.ot]
/-- a comprehension whose list lives on -/
theorem dlc_evL {it : Di} {v : ItV} {g : Dg} {c : Db} {e : De} {own : List Nat} {Γ : Gam} {μ μ0 : Mu} {n m0 : Nat} {P : Nat → Bool} {E : Nat → T} (hit : it Γ μ = some (.ok v μ0)) (hn : v.len = n) (hz : n ≤ sizeLine) (hok : ∀ acc : List T, v.ok (μ0 ++ [.lst acc]) = true)
    (h : ∀ (i : Nat) (acc : List T), i < n → ∃ y Γ1, v.at (μ0 ++ [.lst acc]) i = some y ∧ g y (wipeG Γ own) (μ0 ++ [.lst acc]) = some Γ1 ∧ c Γ1 (μ0 ++ [.lst acc]) = some (.ok (P i) (μ0 ++ [.lst acc])) ∧
      (P i = true → e Γ1 (μ0 ++ [.lst acc]) = some (.ok (E i) (μ0 ++ [.lst acc])))) :
    dLc true m0 it g c e own Γ μ = some (.ok (.m μ0.length) (μ0 ++ [.lst (lcOut P E n 0)])) := by
  subst hn
  have q := lc_ev hz hok h v.len 0 [] (by omega) (by simp)
  simp only [List.nil_append] at q
  unfold dLc
  rw [hit]
  simp [Ot.bind, q, lcEnd, Vt.ot]

/-! what meanings come to, step by step -/
@[simp] theorem bind_ok {α β : Type} (a : α) (μ : Mu) (k : α → Mu → Ot β) : Ot.bind (some (.ok a μ)) k = k a μ := rfl
@[simp] theorem bindS_ok {α : Type} (a : α) (μ : Mu) (Γ : Gam) (k : α → Mu → Option Eo) : Ot.bindS (some (.ok a μ)) Γ k = k a μ := rfl
@[simp] theorem ot_some (t : T) (μ : Mu) : Vt.ot (some (t, μ)) = some (.ok t μ) := rfl
@[simp] theorem eqT_int (μ : Mu) (f g : Bool) (i j : Int) : L3.eqT μ (.v f (.int i)) (.v g (.int j)) = some (decide (i = j)) := rfl
@[simp] theorem eqT_str (μ : Mu) (f g : Bool) (i j : Str) : L3.eqT μ (.v f (.str i)) (.v g (.str j)) = some (decide (i = j)) := rfl
@[simp] theorem items_lst (μ : Mu) (f : Bool) (ds : List D) : items μ (.v f (.lst ds)) = some (true, ds.map (mkT f)) := rfl
@[simp] theorem items_tup (μ : Mu) (f : Bool) (ds : List D) : items μ (.v f (.tup ds)) = some (false, ds.map (mkT f)) := rfl
@[simp] theorem items_scr (μ : Mu) (f : Bool) (ns : List Int) : items μ (.v f (.scr ns)) = some (true, ns.map fun n => .v true (.int n)) := rfl
theorem items_m {μ : Mu} {j : Nat} {ts : List T} (h : μ[j]? = some (.lst ts)) : items μ (.m j) = some (true, ts) := by simp [items, h]
@[simp] theorem mkT_int (f : Bool) (i : Int) : mkT f (.int i) = .v true (.int i) := by simp [mkT, D.atom]
@[simp] theorem mkT_str (f : Bool) (i : Str) : mkT f (.str i) = .v true (.str i) := by simp [mkT, D.atom]
theorem at_nat {α : Type} {l : List α} {i : Int} {x : α} (h0 : 0 ≤ i) (h : l[i.toNat]? = some x) : atI l i = some x := by
  have hl := (List.getElem?_eq_some_iff.mp h).1
  unfold atI ixN
  rw [if_pos h0, if_pos (by omega)]
  exact h
/-- a place of a list -/
theorem ix_ev {μ : Mu} {t : T} {b : Bool} {ts : List T} {f : Bool} {i : Int} {x : T} (hs : ∀ fl z, t ≠ .v fl (.str z)) (hi : items μ t = some (b, ts)) (h0 : 0 ≤ i) (h : ts[i.toNat]? = some x) : ixV μ t (.v f (.int i)) = some (x, μ) := by
  have e : ixV μ t (.v f (.int i)) = match items μ t with
      | some (_, ts) => match atI ts i with
        | some t => some (t, μ)
        | none => none
      | none => none := by
    unfold ixV
    cases t with
    | m _ => rfl
    | v fl d => cases d <;> first | rfl | exact absurd rfl (hs _ _)
  rw [e, hi]
  simp only
  rw [at_nat h0 h]
theorem log2_le {a b : Nat} (h : a ≤ b) : a.log2 ≤ b.log2 := by
  by_cases h0 : a = 0
  · subst h0; simp
  · by_cases hb : b = 0
    · omega
    · rw [Nat.le_log2 hb]
      exact Nat.le_trans (Nat.log2_self_le h0) h
theorem bits_le {a b : Int} (h0 : 0 ≤ a) (h : a ≤ b) : bitsI a ≤ bitsI b := log2_le (by omega)
theorem div_ev {i j : Int} (h : 0 < j) (hb : bitsI j < 9000) : L3.binI .FloorDiv i j = some (i / j) := if_pos ⟨h, hb⟩
theorem mod_ev {i j : Int} (h : 0 < j) : L3.binI .Mod i j = some (i % j) := if_pos h
theorem mul_ev {i j : Int} (h : bitsI i + bitsI j < 100000000) : L3.binI .Mult i j = some (i * j) := if_pos h
theorem bits_of {z : Int} (h : Builtin.Int.intBits z ≤ 1048576) : bitsI z ≤ 1048576 := by
  unfold bitsI
  unfold Builtin.Int.intBits at h
  split at h
  · rename_i e
    simp at e
    subst e
    decide
  · omega
theorem rng1_ev {da : Da} {Γ : Gam} {μ μ1 : Mu} {f : Bool} {n : Int} (h : da Γ μ = some (.ok [.v f (.int n)] μ1)) (hb : -(2 ^ 62) ≤ n ∧ n < 2 ^ 62) : iRng1D da Γ μ = some (.ok (.rng 0 n.toNat) μ1) := by
  unfold iRng1D
  rw [h]
  exact if_pos hb
theorem for_ev {it : Di} {g : Dg} {b : Ds} {Γ : Gam} {μ μ1 : Mu} {v : ItV} {r : Option Eo} (h : it Γ μ = some (.ok v μ1)) (hf : forD v g b v.len 0 Γ μ1 = r) : sFor it g b Γ μ = r := by
  unfold sFor
  rw [h]
  exact hf
theorem seq_nx {a b : Ds} {Γ Γ1 : Gam} {μ μ1 : Mu} (h : a Γ μ = some (.nx Γ1 μ1)) : sSeq a b Γ μ = b Γ1 μ1 := by unfold sSeq; rw [h]
/-- a for over a range -/
theorem for_rng {lo : Int} {n : Nat} {g : Dg} {b : Ds} (J : Nat → Gam → Mu → Prop)
    (step : ∀ i Γ μ, i < n → J i Γ μ → ∃ Γ1 Γ2 μ2, g (.one (.v true (.int (lo + i)))) Γ μ = some Γ1 ∧ (b Γ1 μ = some (.nx Γ2 μ2) ∨ b Γ1 μ = some (.ct Γ2 μ2)) ∧ J (i + 1) Γ2 μ2) :
    ∀ (k i : Nat) (Γ : Gam) (μ : Mu), i + k = n → J i Γ μ → ∃ Γ' μ', forD (.rng lo n) g b k i Γ μ = some (.nx Γ' μ') ∧ J n Γ' μ'
  | 0, i, Γ, μ, h, hj => by
    have : i = n := by omega
    subst this
    exact ⟨Γ, μ, by simp [forD, ItV.ok], hj⟩
  | k + 1, i, Γ, μ, h, hj => by
    obtain ⟨Γ1, Γ2, μ2, h1, h2, h3⟩ := step i Γ μ (by omega) hj
    obtain ⟨Γ', μ', h4, h5⟩ := for_rng J step k (i + 1) Γ2 μ2 (by omega) h3
    refine ⟨Γ', μ', ?_, h5⟩
    rcases h2 with h2 | h2
    · simp [forD, ItV.ok, ItV.at, h1, h2, h4]
    · simp [forD, ItV.ok, ItV.at, h1, h2, h4]
/-- a for, turn by turn -/
theorem for_inv {v : ItV} {g : Dg} {b : Ds} {n : Nat} (J : Nat → Gam → Mu → Prop) (hok : ∀ i Γ μ, i ≤ n → J i Γ μ → v.ok μ = true)
    (step : ∀ i Γ μ, i < n → J i Γ μ → ∃ y Γ1 Γ2 μ2, v.at μ i = some y ∧ g y Γ μ = some Γ1 ∧ (b Γ1 μ = some (.nx Γ2 μ2) ∨ b Γ1 μ = some (.ct Γ2 μ2)) ∧ J (i + 1) Γ2 μ2) :
    ∀ (k i : Nat) (Γ : Gam) (μ : Mu), i + k = n → J i Γ μ → ∃ Γ' μ', forD v g b k i Γ μ = some (.nx Γ' μ') ∧ J n Γ' μ'
  | 0, i, Γ, μ, h, hj => by
    have : i = n := by omega
    subst this
    exact ⟨Γ, μ, by simp [forD, hok i Γ μ (Nat.le_refl _) hj], hj⟩
  | k + 1, i, Γ, μ, h, hj => by
    obtain ⟨y, Γ1, Γ2, μ2, h0, h1, h2, h3⟩ := step i Γ μ (by omega) hj
    obtain ⟨Γ', μ', h4, h5⟩ := for_inv J hok step k (i + 1) Γ2 μ2 (by omega) h3
    refine ⟨Γ', μ', ?_, h5⟩
    rcases h2 with h2 | h2
    · simp [forD, hok i Γ μ (by omega) hj, h0, h1, h2, h4]
    · simp [forD, hok i Γ μ (by omega) hj, h0, h1, h2, h4]
theorem erase_map {α β : Type} (f : α → β) : ∀ (l : List α) (k : Nat), (l.map f).eraseIdx k = (l.eraseIdx k).map f
  | [], _ => rfl
  | _ :: _, 0 => rfl
  | x :: l, k + 1 => by
    show f x :: (l.map f).eraseIdx k = f x :: (l.eraseIdx k).map f
    rw [erase_map f l k]
theorem erase_perm {α : Type} : ∀ (l : List α) (k : Nat) (h : k < l.length), (l[k] :: l.eraseIdx k).Perm l
  | x :: l, 0, _ => .refl _
  | x :: l, k + 1, h => by
    have h' : k < l.length := by simpa using h
    have ih := erase_perm l k h'
    show (l[k] :: x :: l.eraseIdx k).Perm (x :: l)
    exact (List.Perm.swap ..).trans (ih.cons x)
end L3

set_option Elab.async false
set_option linter.all false
set_option maxRecDepth 100000
set_option maxHeartbeats 4000000
/-! L3, last part: the law is called. -/
namespace L3
open PySem PySem.Spec PyProof.Rows L2

/-- what a call of the law must come to -/
abbrev EndOk (s1 : Shared) (r : Result) (s2 : Shared) : Prop := r = .ok (.ret (.bool true)) ∧ OldK s1.heap s2.heap ∧ s2.os = s1.os ∧ AllBare s2.gens
/-- nothing is tracked but the script -/
def scrH (a : Addr) (o : Obj) (ns : List Int) : Hp := fun b => if b = a then some (.frz o (.lst (ns.map V.int))) else none
theorem scrH_at {a : Addr} {o : Obj} {ns : List Int} : scrH a o ns a = some (.frz o (.lst (ns.map V.int))) := if_pos rfl
theorem scrH_off {a b : Addr} {o : Obj} {ns : List Int} (h : b ≠ a) : scrH a o ns b = none := if_neg h
section
variable {P : Program} {w : World} {K : PySem.W.Frag} {mg mb : Str → Option Value} {k : Nat} {fa a : Addr} {fd : FuncData} {x : Str} {sp : Sp} {s1 : Shared} {vs : List Value} {ns : List Int}
/-- one tracked heap, the script's at most, and the def's promise over it -/
theorem enter1 (hk : K.In s1.heap) (hm : s1.heap.Ns mainGlobals mg) (hb : s1.heap.Ns builtinsNs mb) (hbb : ∀ y : Str, y ≠ "__name__" → mb y = bootBuiltins y) (hlm : s1.heap.NoLimit) (hgn : s1.gens = #[])
    (hobj : s1.heap.get? a = some { cls := .type "list", data := .seq vs.toArray }) (hroom : Room k callerA) (hgd : callerA.guards = some [])
    (F : ∀ base : Heap, K.In base → base.Ns mainGlobals mg → FnG P w K mg base k fa fd [x] sp) (hbind : ∀ (s : Shared) (u : Value), BindsTo s fd ⟨[u], []⟩ [(x, u)])
    {H : Hp} (hO : Only H) (hok : HOk P w H s1.heap) (hA : ∀ b, H b ≠ none → b = a) (hK : H a ≠ none → K.lookup a = none) (hsp : sp [.ref a] H (fun v _ => v = .bl true) fun _ _ _ => False) :
    codeAny (model P w) callerA (.call (.ref fa) ⟨[.ref a], []⟩) (EndOk s1) s1 := by
  -- the base: all that is not tracked
  have low : ∀ {b : Addr} {o : Obj}, s1.heap.get? b = some o → (b = a → H a = none) → (hidT s1.heap H).get? b = some o := fun {b o} e n => hidT_get e (by
    by_cases hba : b = a
    · rw [hba]; exact n hba
    · cases q : H b with
      | none => rfl
      | some u => exact absurd (hA b (by rw [q]; intro z; cases z)) hba)
  have dicts : ∀ {b : Addr} {m : Str → Option Value}, s1.heap.Ns b m → (hidT s1.heap H).Ns b m := fun {b m} ⟨o, es, ep, e, d, r⟩ => ⟨o, es, ep, (low e fun z => by
    subst z
    rw [hobj] at e
    cases e
    have d' : Data.seq vs.toArray _ = Data.dict es ep := d
    cases d'), d, r⟩
  have inB : K.In (hidT s1.heap H) := fun b o e => low (hk b o e) fun z => by
    subst z
    cases q : H b with
    | none => rfl
    | some u =>
      rw [hK (by rw [q]; intro z; cases z)] at e
      cases e
  have hMod : Mod K mg (hidT s1.heap H) := ⟨inB, dicts hm, ⟨mb, dicts hb, hbb⟩, match hlm with | ⟨mc, q1, q2⟩ => ⟨mc, dicts q1, q2⟩⟩
  have hEnv : Env0 P w K mg (hidT s1.heap H) callerA [] s1 H := {
    frames := rfl
    mod := hMod
    bs := fun b o e => of_hidT e
    bsz := Nat.le_of_eq (hidT_size _ _)
    funs := trivial
    frf := fun b hb => by cases hb
    hok := hok
    bare := .of_eq hgn }
  have run := (F _ inB (dicts hm)).run callerA [] s1 H ⟨[.ref a], []⟩ [.ref a] [.ref a] _ _ hroom hgd hEnv (hbind s1 (.ref a)) (.cons rfl .nil) hsp
  refine codeAny_mono run fun r s2 h => ?_
  match r, h with
  | .error e, h =>
    obtain ⟨_, _, _, _, _, _, _, _, _, _, _, _, no⟩ := (show L2.CX P w [] H s1 (fun _ _ _ => False) e s2 from h)
    exact no.elim
  | .ok (.ret u), ⟨v, H2, os, bare, un, hok2, rv, ev⟩ =>
    have ev : v = .bl true := ev
    subst ev
    obtain rfl : u = Value.bool true := rv
    refine ⟨rfl, OldK.of_keep fun b o e => ?_, os, bare⟩
    cases q : H b with
    | none => exact un.keep b o e q (fun z => by cases z) (fun z => by cases z)
    | some u =>
      rcases hO b with z | ⟨ob, xs, z⟩
      · rw [q] at z; cases z
      · obtain ⟨e1, _⟩ := hok b _ z
        obtain ⟨e2, _⟩ := hok2 b _ (un.frzs b ob _ z)
        rw [e] at e1
        cases e1
        exact e2
  | .ok .next, h => exact False.elim h
  | .ok .brk, h => exact False.elim h
  | .ok .cont, h => exact False.elim h
/-- the script's heap, and the law's promise over it -/
theorem enterD {TB : Tab} {g : List T → Mu → Ot T} (hk : K.In s1.heap) (hm : s1.heap.Ns mainGlobals mg) (hb : s1.heap.Ns builtinsNs mb) (hbb : ∀ y : Str, y ≠ "__name__" → mb y = bootBuiltins y) (hlm : s1.heap.NoLimit) (hgn : s1.gens = #[])
    (hobj : s1.heap.get? a = some { cls := .type "list", data := .seq vs.toArray }) (hints : IntsAre vs ns) (hz : ns.length ≤ sizeLine) (hroom : Room k callerA) (hgd : callerA.guards = some [])
    (F : ∀ base : Heap, K.In base → base.Ns mainGlobals mg → FnG P w K mg base k fa fd [x] (spD K TB g 1)) (hbind : ∀ (s : Shared) (u : Value), BindsTo s fd ⟨[u], []⟩ [(x, u)])
    (hg : ∃ f μ, g [.v false (.scr ns)] [] = some (.ok (.v f (.bl true)) μ)) : codeAny (model P w) callerA (.call (.ref fa) ⟨[.ref a], []⟩) (EndOk s1) s1 := by
  have owe : ∀ H : Hp, SqL K H a (ns.map V.int) → spD K TB g 1 [.ref a] H (fun v _ => v = .bl true) fun _ _ _ => False := fun H hS => by
    obtain ⟨f, μ, hg⟩ := hg
    refine ⟨rfl, H, [], [], [.v false (.scr ns)], ⟨Same.refl _, fun _ _ e => (nomatch e), fun _ _ e => (nomatch e), fun _ _ e => .inl e, fun _ _ e _ => e, fun _ o e => ⟨o, e⟩, List.prefix_refl _, List.nodup_nil, rfl, fun j a c e => by simp at e, fun a h => by simp at h, fun j a e => by simp at e, fun j a c e => by simp at e⟩, .cons (show Dx K TB H (.ref a) (.scr ns) from .scr hS) .nil, ?_⟩
    rw [hg]
    exact fun v H2 q l s r => r.bl
  have rv := L2.vals_ints hints
  cases hl : K.lookup a with
  | some o =>
    have e := hk a o hl
    rw [hobj] at e
    cases e
    exact enter1 (H := fun _ => none) hk hm hb hbb hlm hgn hobj hroom hgd F hbind (fun _ => .inl rfl) (fun b u z => by cases (show (none : Option HO) = some u from z)) (fun b z => absurd rfl z) (fun z => absurd rfl z)
      (owe _ (.inr ⟨_, vs.toArray, _, hl, rfl, rfl, rfl, by rw [List.size_toArray, hints.length]; exact hz, by simpa using rv⟩))
  | none =>
    refine enter1 (H := scrH a { cls := .type "list", data := .seq vs.toArray } ns) hk hm hb hbb hlm hgn hobj hroom hgd F hbind (fun b => ?_) (fun b u z => ?_) (fun b z => ?_) (fun _ => hl) (owe _ (.inl (.inr ⟨_, scrH_at⟩)))
    · rcases Decidable.em (b = a) with h | h
      · subst h
        exact .inr ⟨_, _, scrH_at⟩
      · exact .inl (scrH_off h)
    · rcases Decidable.em (b = a) with h | h
      · subst h
        rw [scrH_at] at z
        cases z
        exact ⟨hobj, by rw [List.length_map]; exact hz, vs, _, rv, hobj⟩
      · rw [scrH_off h] at z
        cases z
    · rcases Decidable.em (b = a) with h | h
      · exact h
      · exact absurd (scrH_off h) z
end
/-- THE END: the law's def has the meaning g, and g comes to True -/
theorem walkG {l : PySem.W.OpenLaw} {n k : Nat} {q : Program} {loose : List Str} {XP : (Str → Option Value) → Heap → Prop} {YP : World → Heap → Prop} {d : DefRec} {K : Params → PySem.W.Frag} {x : Str} {g : List T → Mu → Ot T}
    (hn : l.most = some n) (hz : n ≤ sizeLine) (hdf : d.params.defaults = []) (hroom : Room k callerA) (hgd : callerA.guards = some []) (hY : ∀ (w : World) (h : Heap), YP w h → (K w.params).In h)
    (F : ∀ (w : World) (mg : Str → Option Value) (fa : Addr) (h : Heap), (K w.params).In h → h.Ns mainGlobals mg → mg d.name = some (.ref fa) →
      ∃ (fd : FuncData) (TB : Tab), (∀ (s : Shared) (u : Value), BindsTo s fd ⟨[u], []⟩ [(x, u)]) ∧ ∀ base : Heap, (K w.params).In base → base.Ns mainGlobals mg → FnG l.prog w (K w.params) mg base k fa fd [x] (spD (K w.params) TB g 1))
    (hg : ∀ ns : List Int, ns.length ≤ n → (∀ z ∈ ns, Builtin.Int.intBits z ≤ 1048576) → ∃ f μ, g [.v false (.scr ns)] [] = some (.ok (.v f (.bl true)) μ)) :
    PySem.W.WalkO q loose XP YP l.row.toRowW d [] (fun f us => PySem.call f us) := by
  refine Att.attach_callB hn hdf fun w s0 s1 mg mb fa o pm cd doc a vs ns G Y ho hd hcd hmg hobj hints hlen hbits hgn => ?_
  have hk := hY w _ Y
  obtain ⟨fd, TB, hb, hF⟩ := F w mg fa _ hk G.T.g hmg
  exact enterD hk G.T.g G.T.b G.T.builtins G.T.nolimit hgn hobj hints (Nat.le_trans hlen hz) hroom hgd hF hb (hg ns hlen hbits)
end L3

set_option Elab.async false
set_option linter.all false
set_option maxRecDepth 100000
set_option maxHeartbeats 4000000
/-! L3: what a turn made is forgotten behind it; calls of defs that change nothing. -/
namespace L3
open PySem PySem.Spec PyProof.Rows L2
def lowO (k : Nat) : Option T → Option T
  | some t => if t.low k then some t else none
  | none => none
def sCut (m0 : Nat) (g : Ds) : Ds := fun Γ μ => match g Γ μ with
  | some (.nx Γ' μ') => if m0 ≤ μ.length ∧ (μ'.take μ.length).all (Cell.low μ.length) = true then some (.nx (Γ'.map (lowO μ.length)) (μ'.take μ.length)) else none
  | r => r
section
variable {X : Cx} {Z : Ent} {W : Wish} {body : List Stmt} {g : Ds} {p q : Pt} {σ : L2.St} {Γ : Gam}
theorem ER.lowMap (h : ER Z q σ Γ) (k : Nat) : ER Z (q.cut k) σ (Γ.map (lowO k)) := by
  refine ⟨by rw [List.length_map]; exact h.1, fun i t hi => ?_⟩
  rw [List.getElem?_map] at hi
  cases hg : Γ[i]? with
  | none => rw [hg] at hi; cases hi
  | some o =>
    rw [hg] at hi
    cases o with
    | none => cases hi
    | some u =>
      simp only [Option.map_some, lowO] at hi
      split at hi
      · rename_i hl
        cases hi
        obtain ⟨v, h1, h2⟩ := h.2 i _ hg
        exact ⟨v, h1, h2.low hl⟩
      · cases hi
theorem xss_cut {m0 : Nat} (hm : Z.ms0.length = m0) (h : PSs X body (tDS Z W g)) : PSs X body (tDS Z W (sCut m0 g)) := by
  subst hm
  refine pss_imp h fun D σ H ⟨p, μ, Γ, s, e, h⟩ => ⟨p, μ, Γ, s, e, ?_⟩
  unfold sCut at h
  cases hg : g Γ μ with
  | none => rw [hg] at h; exact h
  | some r =>
    rw [hg] at h
    cases r with
    | nx Γ' μ' =>
      simp only at h
      split at h
      · rename_i hc
        intro σ' H' q l s1 e1
        exact h σ' H' (q.cut μ.length) (s1.cut_le l (Nat.le_of_eq s.len)) (s1.cut hc.1 hc.2) (e1.lowMap _)
      · exact h.elim
    | rt _ _ => exact h
    | bk _ _ => exact h
    | ct _ _ => exact h
    | ex _ _ _ _ => exact h
end
/-! calls of defs that change nothing -/
theorem call_v {g : List T → Mu → Ot T} {live : Bool} {rf : List Bool} {ts us : List T} {μ : Mu} {f : Bool} {d : D} (hrf : refsOf rf ts = []) (ha : argsIn μ live rf ts 0 = some us) (h : g us [] = some (.ok (.v f d) [])) (hn : (!live || (f || d.atom)) = true) :
    callD g live rf ts μ = some (.ok (.v f d) μ) := by
  have hh : (if live = true then hide μ [] else μ) = μ := by cases live <;> rfl
  unfold callD
  rw [hrf, hh, ha]
  simp only [List.nodup_nil, if_true, cellsAt, h, back, T.news, List.all_nil, Bool.and_true, hn, ren, setAll, List.length_nil, List.take_nil, List.drop_nil, List.map_nil, List.append_nil]
theorem call_l {g : List T → Mu → Ot T} {live : Bool} {rf : List Bool} {ts us : List T} {μ : Mu} {ds : List D} (hrf : refsOf rf ts = []) (ha : argsIn μ live rf ts 0 = some us) (h : g us [] = some (.ok (.m 0) [.lst (ds.map (T.v true))])) :
    callD g live rf ts μ = some (.ok (.m μ.length) (μ ++ [.lst (ds.map (T.v true))])) := by
  have hh : (if live = true then hide μ [] else μ) = μ := by cases live <;> rfl
  have e1 : (ds.map (T.v true)).all T.news = true := by
    rw [List.all_eq_true]
    intro t ht
    obtain ⟨d, _, rfl⟩ := List.mem_map.mp ht
    rfl
  have e2 : (ds.map (T.v true)).map (ren [] μ.length) = ds.map (T.v true) := by
    rw [List.map_map]
    rfl
  unfold callD
  rw [hrf, hh, ha]
  simp only [List.nodup_nil, if_true, cellsAt, h, back, T.news, List.all_cons, List.all_nil, Cell.news, e1, Bool.and_true, Bool.or_true, setAll, List.length_nil, List.take_zero, List.drop_zero, List.map_nil, List.map_cons, renC, e2]
  rfl
/-- the same for a list whose items are living lists' -/
theorem pack_vs : ∀ ds : List D, pack (ds.map (T.v true)) = some (true, ds)
  | [] => rfl
  | d :: ds => by rw [List.map_cons, pack, pack_vs ds]; rfl
theorem frz_l {g : De} {Γ : Gam} {μ : Mu} {ds : List D} {m0 : Nat} (h : g Γ μ = some (.ok (.m μ.length) (μ ++ [.lst (ds.map (T.v true))]))) (hm : m0 ≤ μ.length) (hl : μ.all (Cell.low μ.length) = true) : dFrz m0 g Γ μ = some (.ok (.v true (.lst ds)) μ) := by
  unfold dFrz
  rw [h]
  have e : (μ ++ [Cell.lst (ds.map (T.v true))])[μ.length]? = some (.lst (ds.map (T.v true))) := by simp
  simp [Ot.bind, frzV, e, pack_vs, hm, hl, Vt.ot]
theorem frz_v {g : De} {Γ : Gam} {μ : Mu} {d : D} {f : Bool} {m0 : Nat} (h : g Γ μ = some (.ok (.v f d) μ)) (hl : μ.all (Cell.low μ.length) = true) : dFrz m0 g Γ μ = some (.ok (.v f d) μ) := by
  unfold dFrz
  rw [h]
  simp [Ot.bind, frzV, hl, Vt.ot]
/-! what a property comes to -/
theorem prop_v {g : List T → Mu → Ot T} {c : Nat} {go : De} {Γ : Gam} {μ : Mu} {fl f : Bool} {d : D} {xs : List D} (ho : go Γ μ = some (.ok (.v fl (.obj c xs)) μ)) (h : g [.v false (.obj c xs)] [] = some (.ok (.v f d) [])) :
    dProp g c false false go Γ μ = some (.ok (.v f d) μ) := by
  unfold dProp
  rw [ho]
  have := call_v (g := g) (live := false) (rf := [false]) (ts := [.v fl (.obj c xs)]) (us := [.v false (.obj c xs)]) (μ := μ) rfl rfl h rfl
  simp [Ot.bind, objOf, this]
theorem prop_l {g : List T → Mu → Ot T} {c : Nat} {go : De} {Γ : Gam} {μ : Mu} {fl : Bool} {f : Bool} {ds xs : List D} (ho : go Γ μ = some (.ok (.v fl (.obj c xs)) μ)) (h : g [.v false (.obj c xs)] [] = some (.ok (.m 0) [.lst (ds.map (T.v f))])) :
    dProp g c false false go Γ μ = some (.ok (.m μ.length) (μ ++ [.lst (ds.map (T.v f))])) := by
  unfold dProp
  rw [ho]
  have e2 : (ds.map (T.v f)).map (ren [] μ.length) = ds.map (T.v f) := by
    rw [List.map_map]
    rfl
  have : callD g false [false] [.v fl (.obj c xs)] μ = some (.ok (.m μ.length) (μ ++ [.lst (ds.map (T.v f))])) := by
    unfold callD
    rw [show refsOf [false] [T.v fl (.obj c xs)] = [] from rfl, show argsIn (if false = true then hide μ [] else μ) false [false] [.v fl (.obj c xs)] 0 = some [.v false (.obj c xs)] from rfl]
    simp only [List.nodup_nil, if_true, cellsAt, h, back, Bool.not_false, Bool.true_or, setAll, List.length_nil, List.take_zero, List.drop_zero, List.map_nil, List.map_cons, renC, e2]
    rfl
  simp [Ot.bind, objOf, this]
theorem pack_vf (f : Bool) : ∀ ds : List D, ∃ q, pack (ds.map (T.v f)) = some (q, ds)
  | [] => ⟨true, rfl⟩
  | d :: ds => by
    obtain ⟨q, h⟩ := pack_vf f ds
    exact ⟨f && q, by rw [List.map_cons, pack, h]⟩
theorem frz_f {g : De} {Γ : Gam} {μ : Mu} {f : Bool} {ds : List D} {m0 : Nat} (h : g Γ μ = some (.ok (.m μ.length) (μ ++ [.lst (ds.map (T.v f))]))) (hm : m0 ≤ μ.length) (hl : μ.all (Cell.low μ.length) = true) : ∃ q, dFrz m0 g Γ μ = some (.ok (.v q (.lst ds)) μ) := by
  obtain ⟨q, hq⟩ := pack_vf f ds
  refine ⟨q, ?_⟩
  unfold dFrz
  rw [h]
  have e : (μ ++ [Cell.lst (ds.map (T.v f))])[μ.length]? = some (.lst (ds.map (T.v f))) := by simp
  simp [Ot.bind, frzV, e, hq, hm, hl, Vt.ot]
end L3

set_option Elab.async false
set_option linter.all false
set_option maxRecDepth 100000
set_option maxHeartbeats 4000000
/-! L3: comprehensions within comprehensions: what was gathered so far speaks of no cell. -/
namespace L3
open PySem PySem.Spec PyProof.Rows L2
theorem T.low_up {k : Nat} : ∀ {t : T}, t.low 0 = true → t.low k = true
  | .v _ _, _ => rfl
  | .m j, h => by simp [T.low] at h
theorem low_all {k : Nat} {ts : List T} (h : ts.all (T.low 0) = true) : ts.all (T.low k) = true := by
  rw [List.all_eq_true] at h ⊢
  exact fun t ht => T.low_up (h t ht)
theorem low_app {μ : Mu} {acc : List T} {n : Nat} (h : μ.all (Cell.low n) = true) (ha : acc.all (T.low 0) = true) : (μ ++ [Cell.lst acc]).all (Cell.low n) = true := by
  rw [List.all_append, h]
  simp [Cell.low, low_all ha]
theorem lc_evP {v : ItV} {g : Dg} {c : Db} {e : De} {own : List Nat} {Γ : Gam} {μ0 : Mu} {n : Nat} {P : Nat → Bool} {E : Nat → T} (hz : n ≤ sizeLine) (hE : ∀ i, (E i).low 0 = true) (hok : ∀ acc : List T, v.ok (μ0 ++ [.lst acc]) = true)
    (h : ∀ (i : Nat) (acc : List T), i < n → acc.all (T.low 0) = true → ∃ y Γ1, v.at (μ0 ++ [.lst acc]) i = some y ∧ g y (wipeG Γ own) (μ0 ++ [.lst acc]) = some Γ1 ∧ c Γ1 (μ0 ++ [.lst acc]) = some (.ok (P i) (μ0 ++ [.lst acc])) ∧
      (P i = true → e Γ1 (μ0 ++ [.lst acc]) = some (.ok (E i) (μ0 ++ [.lst acc])))) :
    ∀ (k i : Nat) (acc : List T), i + k = n → acc.length ≤ i → acc.all (T.low 0) = true → lcD v g c e own μ0.length Γ k i (μ0 ++ [.lst acc]) = some (μ0 ++ [.lst (acc ++ lcOut P E k i)])
  | 0, i, acc, _, _, _ => by simp [lcD, hok, lcOut]
  | k + 1, i, acc, hi, ha, hl => by
    obtain ⟨y, Γ1, h1, h2, h3, h4⟩ := h i acc (by omega) hl
    unfold lcD
    rw [if_pos (hok acc), h1]
    simp only [h2, h3]
    cases hP : P i with
    | false =>
      have := lc_evP hz hE hok h k (i + 1) acc (by omega) (by omega) hl
      simp [this, lcOut, hP]
    | true =>
      have e1 := h4 hP
      have hget : (μ0 ++ [Cell.lst acc])[μ0.length]? = some (.lst acc) := by simp
      have hset : (μ0 ++ [Cell.lst acc]).set μ0.length (.lst (acc ++ [E i])) = μ0 ++ [.lst (acc ++ [E i])] := by simp
      have := lc_evP hz hE hok h k (i + 1) (acc ++ [E i]) (by omega) (by simp; omega) (by simp [hl, hE])
      simp only [e1, hget, hset]
      rw [if_pos (by omega), this]
      simp [lcOut, hP]
theorem dlc_evP {it : Di} {v : ItV} {g : Dg} {c : Db} {e : De} {own : List Nat} {Γ : Gam} {μ μ0 : Mu} {n m0 : Nat} {P : Nat → Bool} {E : Nat → T} {f : Bool} {ds : List D} (hit : it Γ μ = some (.ok v μ0)) (hn : v.len = n) (hz : n ≤ sizeLine) (hE : ∀ i, (E i).low 0 = true) (hok : ∀ acc : List T, v.ok (μ0 ++ [.lst acc]) = true)
    (h : ∀ (i : Nat) (acc : List T), i < n → acc.all (T.low 0) = true → ∃ y Γ1, v.at (μ0 ++ [.lst acc]) i = some y ∧ g y (wipeG Γ own) (μ0 ++ [.lst acc]) = some Γ1 ∧ c Γ1 (μ0 ++ [.lst acc]) = some (.ok (P i) (μ0 ++ [.lst acc])) ∧
      (P i = true → e Γ1 (μ0 ++ [.lst acc]) = some (.ok (E i) (μ0 ++ [.lst acc])))) (hp : pack (lcOut P E n 0) = some (f, ds)) (hm : m0 ≤ μ0.length) (hl : μ0.all (Cell.low μ0.length) = true) :
    dLc false m0 it g c e own Γ μ = some (.ok (.v f (.lst ds)) μ0) := by
  subst hn
  have q := lc_evP hz hE hok h v.len 0 [] (by omega) (by simp) rfl
  simp only [List.nil_append] at q
  unfold dLc
  rw [hit]
  simp only [Ot.bind, q, lcEnd]
  simp [hp, hm, hl, Vt.ot]
theorem dlc_evLP {it : Di} {v : ItV} {g : Dg} {c : Db} {e : De} {own : List Nat} {Γ : Gam} {μ μ0 : Mu} {n m0 : Nat} {P : Nat → Bool} {E : Nat → T} (hit : it Γ μ = some (.ok v μ0)) (hn : v.len = n) (hz : n ≤ sizeLine) (hE : ∀ i, (E i).low 0 = true) (hok : ∀ acc : List T, v.ok (μ0 ++ [.lst acc]) = true)
    (h : ∀ (i : Nat) (acc : List T), i < n → acc.all (T.low 0) = true → ∃ y Γ1, v.at (μ0 ++ [.lst acc]) i = some y ∧ g y (wipeG Γ own) (μ0 ++ [.lst acc]) = some Γ1 ∧ c Γ1 (μ0 ++ [.lst acc]) = some (.ok (P i) (μ0 ++ [.lst acc])) ∧
      (P i = true → e Γ1 (μ0 ++ [.lst acc]) = some (.ok (E i) (μ0 ++ [.lst acc])))) :
    dLc true m0 it g c e own Γ μ = some (.ok (.m μ0.length) (μ0 ++ [.lst (lcOut P E n 0)])) := by
  subst hn
  have q := lc_evP hz hE hok h v.len 0 [] (by omega) (by simp) rfl
  simp only [List.nil_append] at q
  unfold dLc
  rw [hit]
  simp [Ot.bind, q, lcEnd, Vt.ot]
/-- what a comprehension over a list comes to, said by the list -/
theorem lcOut_of {α : Type} (l : List α) (P : α → Bool) (E : α → T) (d : T) : lcOut (fun i => match l[i]? with | some x => P x | none => false) (fun i => match l[i]? with | some x => E x | none => d) l.length 0 = (l.filter P).map E := by
  have key : ∀ (k i : Nat), i + k = l.length → lcOut (fun i => match l[i]? with | some x => P x | none => false) (fun i => match l[i]? with | some x => E x | none => d) k i = ((l.drop i).filter P).map E := fun k => by
    induction k with
    | zero => intro i h; rw [List.drop_eq_nil_of_le (by omega)]; rfl
    | succ k ih =>
      intro i h
      have hi : i < l.length := by omega
      have hg : l[i]? = some l[i] := by simp [hi]
      rw [lcOut, ih (i + 1) (by omega), List.drop_eq_getElem_cons hi, List.filter_cons, hg]
      simp only
      cases P l[i] <;> rfl
  have := key l.length 0 (by omega)
  rwa [List.drop_zero] at this
theorem seq_walk {μ : Mu} {f : Bool} {ds : List D} : (ItV.seq true (.v f (.lst ds)) ds.length).ok μ = true := by simp [ItV.ok, itemsN]
theorem seq_walkT {μ : Mu} {f : Bool} {ds : List D} : (ItV.seq false (.v f (.tup ds)) ds.length).ok μ = true := by simp [ItV.ok, itemsN]
theorem seq_at {μ : Mu} {f : Bool} {ds : List D} {i : Nat} (h : i < ds.length) : (ItV.seq true (.v f (.lst ds)) ds.length).at μ i = some (.one (mkT f ds[i])) := by simp [ItV.at, itemsN, h]
theorem seq_atT {μ : Mu} {f : Bool} {ds : List D} {i : Nat} (h : i < ds.length) : (ItV.seq false (.v f (.tup ds)) ds.length).at μ i = some (.one (mkT f ds[i])) := by simp [ItV.at, itemsN, h]
def dSq : Bool → List D → D
  | true, ds => .lst ds
  | false, ds => .tup ds
theorem sq_walk {b : Bool} {μ : Mu} {f : Bool} {ds : List D} : (ItV.seq b (.v f (dSq b ds)) ds.length).ok μ = true := by cases b; exact seq_walkT; exact seq_walk
theorem sq_at {b : Bool} {μ : Mu} {f : Bool} {ds : List D} {i : Nat} (h : i < ds.length) : (ItV.seq b (.v f (dSq b ds)) ds.length).at μ i = some (.one (mkT f ds[i])) := by cases b; exact seq_atT h; exact seq_at h
theorem iSeq_ev {b : Bool} {ge : De} {Γ : Gam} {μ μ1 : Mu} {f : Bool} {ds : List D} (h : ge Γ μ = some (.ok (.v f (dSq b ds)) μ1)) : iSeq b ge Γ μ = some (.ok (.seq b (.v f (dSq b ds)) ds.length) μ1) := by
  unfold iSeq
  rw [h]
  cases b <;> simp [dSq, Ot.bind]
/-- a comprehension over a list or a tuple that stands still: frozen, living -/
theorem dlc_frz {α : Type} {b : Bool} {l : List α} {Dx : α → D} {ge e : De} {c : Db} {own : List Nat} {Γ : Gam} {μ μ1 : Mu} {m0 s : Nat} {f : Bool} {P : α → Bool} {E : α → D} (hge : ge Γ μ = some (.ok (.v f (dSq b (l.map Dx))) μ1)) (hz : l.length ≤ sizeLine) (hm : m0 ≤ μ1.length) (hl : μ1.all (Cell.low μ1.length) = true)
    (hb : ∀ x ∈ l, ∀ acc : List T, acc.all (T.low 0) = true → c ((wipeG Γ own).set s (some (mkT f (Dx x)))) (μ1 ++ [.lst acc]) = some (.ok (P x) (μ1 ++ [.lst acc])) ∧ (P x = true → e ((wipeG Γ own).set s (some (mkT f (Dx x)))) (μ1 ++ [.lst acc]) = some (.ok (.v true (E x)) (μ1 ++ [.lst acc])))) :
    dLc false m0 (iSeq b ge) (gNm s) c e own Γ μ = some (.ok (.v true (.lst ((l.filter P).map E))) μ1) := by
  refine dlc_evP (n := l.length) (v := .seq b (.v f (dSq b (l.map Dx))) (l.map Dx).length) (P := fun i => match l[i]? with | some x => P x | none => false) (E := fun i => match l[i]? with | some x => .v true (E x) | none => .v true .non)
    (iSeq_ev hge) (by simp [ItV.len]) hz (fun i => ?_) (fun acc => sq_walk) (fun i acc hi ha => ?_) ?_ hm hl
  · split <;> rfl
  · have hi' : i < (l.map Dx).length := by simpa using hi
    have hg : l[i]? = some l[i] := by simp [hi]
    obtain ⟨h1, h2⟩ := hb l[i] (List.getElem_mem hi) acc ha
    refine ⟨.one (mkT f (Dx l[i])), _, by rw [sq_at hi', List.getElem_map], rfl, ?_, fun hp => ?_⟩
    · simp only [hg]; exact h1
    · simp only [hg] at hp ⊢; exact h2 hp
  · rw [lcOut_of l P (fun x => .v true (E x))]
    have := pack_vs ((l.filter P).map E)
    rwa [List.map_map] at this
theorem dlc_liv {α : Type} {b : Bool} {l : List α} {Dx : α → D} {ge e : De} {c : Db} {own : List Nat} {Γ : Gam} {μ μ1 : Mu} {m0 s : Nat} {f : Bool} {P : α → Bool} {E : α → D} {fe : Bool} (hge : ge Γ μ = some (.ok (.v f (dSq b (l.map Dx))) μ1)) (hz : l.length ≤ sizeLine)
    (hb : ∀ x ∈ l, ∀ acc : List T, acc.all (T.low 0) = true → c ((wipeG Γ own).set s (some (mkT f (Dx x)))) (μ1 ++ [.lst acc]) = some (.ok (P x) (μ1 ++ [.lst acc])) ∧ (P x = true → e ((wipeG Γ own).set s (some (mkT f (Dx x)))) (μ1 ++ [.lst acc]) = some (.ok (.v fe (E x)) (μ1 ++ [.lst acc])))) :
    dLc true m0 (iSeq b ge) (gNm s) c e own Γ μ = some (.ok (.m μ1.length) (μ1 ++ [.lst (((l.filter P).map E).map (T.v fe))])) := by
  have q := dlc_evLP (m0 := m0) (n := l.length) (v := .seq b (.v f (dSq b (l.map Dx))) (l.map Dx).length) (g := gNm s) (c := c) (e := e) (own := own) (P := fun i => match l[i]? with | some x => P x | none => false) (E := fun i => match l[i]? with | some x => .v fe (E x) | none => .v true .non)
    (iSeq_ev hge) (by simp [ItV.len]) hz (fun i => by split <;> rfl) (fun acc => sq_walk) (fun i acc hi ha => by
      have hi' : i < (l.map Dx).length := by simpa using hi
      have hg : l[i]? = some l[i] := by simp [hi]
      obtain ⟨h1, h2⟩ := hb l[i] (List.getElem_mem hi) acc ha
      refine ⟨.one (mkT f (Dx l[i])), _, by rw [sq_at hi', List.getElem_map], rfl, ?_, fun hp => ?_⟩
      · simp only [hg]; exact h1
      · simp only [hg] at hp ⊢; exact h2 hp)
  rw [q, lcOut_of l P (fun x => .v fe (E x)), List.map_map]
  rfl
mutual
theorem eqv_self : ∀ d : PyData, PyData.hasDict d = false → PyData.eqv d d = true
  | .none, _ => by simp [PyData.eqv]
  | .bool _, _ => by simp [PyData.eqv]
  | .int _, _ => by simp [PyData.eqv]
  | .str _, _ => by simp [PyData.eqv]
  | .list xs, h => by
    simp only [PyData.hasDict] at h
    simp only [PyData.eqv]
    exact eqvAll_self xs h
  | .tuple xs, h => by
    simp only [PyData.hasDict] at h
    simp only [PyData.eqv]
    exact eqvAll_self xs h
  | .dict _, h => by simp [PyData.hasDict] at h
theorem eqvAll_self : ∀ ds : List PyData, PyData.hasDictAll ds = false → PyData.eqvAll ds ds = true
  | [], _ => by simp [PyData.eqvAll]
  | d :: ds, h => by
    simp only [PyData.hasDictAll, Bool.or_eq_false_iff] at h
    simp only [PyData.eqvAll, eqv_self d h.1, eqvAll_self ds h.2, Bool.and_self]
end
theorem eqD_self {d : D} {e : PyData} (h : d.py = some e) (hs : SeqAt.shaped e = true) : eqD d d = some true := by
  unfold eqD
  simp only [h, hs, Bool.and_self, if_true, eqv_self e (D.py_nodict d h)]
/-- what is the same to its depth is equal -/
theorem eqT_self {μ : Mu} {a b : T} {d : D} {e : PyData} (ha : deep DEEP μ a = some d) (hb : deep DEEP μ b = some d) (h : d.py = some e) (hs : SeqAt.shaped e = true) : L3.eqT μ a b = some true := by
  have g : eqD d d = some true := eqD_self h hs
  unfold L3.eqT
  split
  · rename_i i _ j
    unfold deep at ha hb
    cases ha; cases hb
    simp
  · rename_i i _ j
    unfold deep at ha hb
    cases ha; cases hb
    simp
  · rename_i i _ j
    unfold deep at ha hb
    cases ha; cases hb
    simp
  · rw [ha, hb]
    exact g
theorem repr_ev {μ : Mu} {t : T} {d : D} {e : PyData} {z : Str} (hd : deep DEEP μ t = some d) (h : d.py = some e) (hz : reprS e = some z) : reprV μ [t] = some (.v true (.str z), μ) := by
  unfold reprV
  simp only [hd, h, hz]
theorem augS_ev {op : Operator} {go gi ge : De} {Γ : Gam} {μ : Mu} {j k : Nat} {n z w r : Int} {fi fz fw : Bool} {ts : List T} (ho : go Γ μ = some (.ok (.m j) μ)) (hi : gi Γ μ = some (.ok (.v fi (.int n)) μ)) (hts : μ[j]? = some (.lst ts)) (hn : 0 ≤ n ∧ n < 2 ^ 63) (hz : ts[n.toNat]? = some (.v fz (.int z)))
    (he : ge Γ μ = some (.ok (.v fw (.int w)) μ)) (hr : augI op z w = some r) (hk : ixN ts.length n = some k) : sAugS op go gi ge Γ μ = some (.nx Γ (μ.set j (.lst (ts.set k (.v true (.int r)))))) := by
  unfold sAugS
  rw [ho]
  simp only [bindS_ok]
  rw [hi]
  simp only [bindS_ok, hts]
  rw [if_pos hn]
  simp only [hz, he, bindS_ok, hts, hr, hk]
theorem ret_c (c : Cell) : retD 0 (some (.rt (.m 0) [c])) = some (.ok (.m 0) [c]) := by
  cases h : c.low 0 <;> simp [retD, retV, T.low, h]
theorem ret_v (t : D) (f : Bool) (μ : Mu) (h : μ.all (Cell.low μ.length) = true) : retD μ.length (some (.rt (.v f t) μ)) = some (.ok (.v f t) μ) := by
  simp [retD, retV, T.low, h]
theorem ret_v0 (t : D) (f : Bool) (μ : Mu) : retD 0 (some (.rt (.v f t) μ)) = some (.ok (.v f t) []) := by
  simp [retD, retV, T.low]
/-- a for over a list that stands still -/
theorem for_frz {α : Type} {b : Bool} {l : List α} {Dx : α → D} {ge : De} {bd : Ds} {Γ : Gam} {μ μ1 : Mu} {s : Nat} {f : Bool} (J : Nat → Gam → Mu → Prop) (hge : ge Γ μ = some (.ok (.v f (dSq b (l.map Dx))) μ1)) (h0 : J 0 Γ μ1)
    (step : ∀ (i : Nat) (h : i < l.length) Γ μ, J i Γ μ → ∃ Γ2 μ2, bd (Γ.set s (some (mkT f (Dx l[i])))) μ = some (.nx Γ2 μ2) ∧ J (i + 1) Γ2 μ2) :
    ∃ Γ' μ', sFor (iSeq b ge) (gNm s) bd Γ μ = some (.nx Γ' μ') ∧ J l.length Γ' μ' := by
  obtain ⟨Γ', μ', h1, h2⟩ := for_inv (v := .seq b (.v f (dSq b (l.map Dx))) (l.map Dx).length) (g := gNm s) (b := bd) (n := l.length) J (fun _ _ _ _ _ => sq_walk) (fun i Γ μ hi hj => by
    have hi' : i < (l.map Dx).length := by simpa using hi
    obtain ⟨Γ2, μ2, h1, h2⟩ := step i hi Γ μ hj
    exact ⟨.one (mkT f (Dx l[i])), _, Γ2, μ2, by rw [sq_at hi', List.getElem_map], rfl, .inl h1, h2⟩) l.length 0 Γ μ1 (by omega) h0
  refine ⟨Γ', μ', for_ev (iSeq_ev hge) ?_, h2⟩
  simpa [ItV.len] using h1
end L3

set_option Elab.async false
set_option linter.all false
set_option maxRecDepth 100000
set_option maxHeartbeats 4000000
/-! L3: own errors with one field: raised, caught, looked at. -/
namespace L3
open PySem PySem.Spec PyProof.Rows L2
/-- what the text says of an error class -/
structure ErrC (K : PySem.W.Frag) (C : Addr) : Prop where
  oex : OexC K C
  xf : XfC K C
  nov : PySem.W.findIn K (.ref C) "value" = some none
  cls : (PySem.W.clsIn K C).isSome = true
  ha : PySem.W.findIn K (.ref C) "__class__" = some (some (.builtin "object.__class__"))
  hn : PySem.W.specialIn K (.builtin "object.__class__") "__get__" = some (some (.builtin "getset_descriptor.__get__"))
  ht : PySem.W.takesIn K (.builtin "object.__class__") = some true
  hm : PySem.W.mroIn K C (.type "object") = some true
/-- what the base class's __init__ does -/
def spInit (K : PySem.W.Frag) : Sp := fun vs H Q _ => ∃ (a C : Addr) (v : V), vs = [.ref a, v] ∧ ErrC K C ∧ H a = some (exo a C none) ∧ ∀ dx, H dx = none → dx ≠ a → Q .non (upd (upd H dx (exd dx [("value", v)])) a (exo a C (some dx)))
theorem init_ok {P : Program} {w : World} {K : PySem.W.Frag} {mg : Str → Option Value} {base : Heap} {k : Nat} {qual : Str} {st : Stmt} {f : Addr} {fd : FuncData} {p1 p2 p3 p4 : Pos}
    (F : Fun K "__init__" qual st f fd) (S : FnScope ["self", "value"] ["self", "value"] (defScope st)) (hb : defBody st = [.Assign [.Attribute (.Name "self" p1) "value" p2] (.Name "value" p3) p4])
    (v1 : Vis (defScope st) "self") (v2 : Vis (defScope st) "value")
    (hs : ∀ env : Env, env.scope = defScope st → swapsWith (.Name "value" p3) (some (.Attribute (.Name "self" p1) "value" p2)) p4.line env = pure false) :
    FnOk P w K mg base (L2.CX P w) (k + 1) f fd ["self", "value"] (spInit K) := by
  refine F.okX S (fun vs H Q E h => ?_) (fun cdv A outer s H vs Q E hr h => ⟨tOst K "value" (tVar 0) (tVar 1), ?_, ?_⟩)
  · obtain ⟨a, C, v, rfl, _⟩ := h
    rfl
  · rw [hb]
    exact pss_one (ps_ost (pe_var rfl v1) (pe_var rfl v2) (hs _ rfl))
  · obtain ⟨a, C, v, rfl, E, ha, q⟩ := h
    exact ⟨v, rfl, .ref a, rfl, a, C, rfl, E.oex, E.nov, .inl ⟨ha, q⟩⟩
def sRaise (c : Nat) (ge : De) : Ds := fun Γ μ => Ot.bindS (ge Γ μ) Γ fun t μ1 => some (.ex Γ c t μ1)
section
variable {X : Cx} {Z : Ent} {W : Wish} {k : Nat}
theorem passes_never {P : Program} {w : World} {X : Cx} : Passes (L2.CX P w) X (fun _ _ _ => False) := fun pins σ H s e s' I h => by
  obtain ⟨_, _, _, _, _, _, _, _, _, _, _, _, z⟩ := h
  exact z.elim
theorem xs_raise {c : Nat} {C fI : Addr} {fd : FuncData} {x : Str} {p pos pos2 : Pos} {e : Expr} {ge : De} (B : Be X Z W (k + 1)) (hT : Z.TB.exc c = some C) (E : ErrC X.K C)
    (iC : PySem.W.findIn X.K (.ref C) "__init__" = some (some (.ref fI))) (tI : PySem.W.typeIn X.K (.ref fI) = some (.type "function"))
    (F1 : FnOk X.prog X.w X.K X.mg X.base (L2.CX X.prog X.w) k fI fd ["self", "value"] (spInit X.K)) (hb : Binds X.K fd ["self", "value"] [])
    (hg : Gl X x) (hm : X.mg x = some (.ref C)) (he : PE X e (tD Z W ge)) (hd : (x == ("__debug__" : Str)) = false) (hst : starEach (e :: []) X.env = (false, eval e X.env) :: starEach [] X.env) (hpl : (backTo pos (starEach [] X.env)).any (·.1) = false) :
    PS X (.Raise (some (.Call (.Name x p) [e] [] pos)) none pos2) (tDS Z W (sRaise c ge)) :=
  ps_imp (ps_raise B.calm B.tk (pmk_oex E.oex iC tI F1 B.room hb .nil passes_never hg hm (xa_cons he xa_nil hst) hd hst hpl)) fun D σ H ⟨p0, μ, Γ, s, er, h⟩ => by
    refine ⟨p0, μ, Γ, s, er, ?_⟩
    unfold sRaise at h
    cases hgg : ge Γ μ with
    | none => rw [hgg] at h; exact h.elim
    | some rr =>
      rw [hgg] at h
      cases rr with
      | exc c' t μ1 =>
        simp only [aCons, hgg]
        exact h σ p0 (.refl p0) er
      | ok t μ1 =>
        simp only [aCons, hgg, bind_ok, aNil]
        intro vs H' q hl s1 rt
        obtain ⟨v, rfl, rv⟩ := rt.one
        have h : ∀ (σ' : L2.St) (q' : Pt), p0.Le q' → ER Z q' σ' Γ → PostX Z W σ' q' c t μ1 := h
        refine ⟨by show 1 ≤ 1000; decide, fun a ha => ⟨a, C, v, rfl, E, upd_same, fun dx hdx hne => ⟨rfl, dx, [("value", v)], upd_same, ?_, ?_, ?_⟩⟩⟩
        · rw [upd_ne hne, upd_same]
        · rw [upd_ne hne] at hdx
          exact hdx
        · have hdx' : H' dx = none := by
            rw [upd_ne hne] at hdx
            exact hdx
          have e : upd (del (upd (upd (upd H' a (exo a C none)) dx (exd dx [("value", v)])) a (exo a C (some dx))) a) dx (.xd [("value", v)]) = upd H' dx (.xd [("value", v)]) := by
            funext b
            by_cases hb : b = dx
            · subst hb
              rw [upd_same, upd_same]
            · rw [upd_ne hb, upd_ne hb]
              unfold del
              by_cases hba : b = a
              · subst hba
                rw [if_pos rfl, ha]
              · rw [if_neg hba, upd_ne hba, upd_ne hb, upd_ne hba]
          rw [e]
          have le := s1.add_le (f := true) (o := .xd [("value", v)]) hdx'
          exact h σ q hl (er.mono hl) C v dx _ _ hT le (s1.add hdx') (s1.free0 hdx') upd_same (rv.mono le)
end

/-! a caught error -/
structure XH (Z : Ent) (a : Addr) (cls : Value) (d : Option Addr) (i c : Nat) (t : T) (p : Pt) (σ : L2.St) : Prop where
  s : σ[i]? = some (some (.ref a))
  x : ∃ (C dx : Addr) (v : V), cls = .ref C ∧ d = some dx ∧ Z.TB.exc c = some C ∧ p.N dx = some (.xd [("value", v)]) ∧ RT Z p v t
theorem XH.mono {Z : Ent} {a : Addr} {cls : Value} {d : Option Addr} {i c : Nat} {t : T} {p q : Pt} {σ : L2.St} (e : p.Le q) (h : XH Z a cls d i c t p σ) : XH Z a cls d i c t q σ := by
  obtain ⟨C, dx, v, h1, h2, h3, h4, h5⟩ := h.x
  exact ⟨h.s, C, dx, v, h1, h2, h3, e.n _ _ h4, h5.mono e⟩
def tX (Z : Ent) (W : Wish) (a : Addr) (cls : Value) (d : Option Addr) (i c : Nat) (t : T) (g : De) : TE := fun σ H Q => ∃ (p : Pt) (μ : Mu) (Γ : Gam), SR Z p H μ ∧ ER Z p σ Γ ∧ XH Z a cls d i c t p σ ∧ Post Z W σ Q p (g Γ μ)
def tXA (Z : Ent) (W : Wish) (a : Addr) (cls : Value) (d : Option Addr) (i c : Nat) (t : T) (g : Da) : TA := fun σ H Q => ∃ (p : Pt) (μ : Mu) (Γ : Gam), SR Z p H μ ∧ ER Z p σ Γ ∧ XH Z a cls d i c t p σ ∧ PostA Z W σ Q p (g Γ μ)
def tXS (Z : Ent) (W : Wish) (a : Addr) (cls : Value) (d : Option Addr) (i c : Nat) (t : T) (g : Ds) : TS := fun D σ H => ∃ (p : Pt) (μ : Mu) (Γ : Gam), SR Z p H μ ∧ ER Z p σ Γ ∧ XH Z a cls d i c t p σ ∧ PostS Z W D p (g Γ μ)
section
variable {X : Cx} {Z : Ent} {W : Wish} {k : Nat} {a : Addr} {oe : Obj} {pn : List (Addr × Obj)} {cls : Value} {d : Option Addr} {i c : Nat} {t : T}
theorem xx_old {e : Expr} {g : De} (h : PE X e (tD Z W g)) : PE X e (tX Z W a cls d i c t g) := pe_imp h fun σ H Q ⟨p, μ, Γ, s, er, _, h⟩ => ⟨p, μ, Γ, s, er, h⟩
/-- e.value -/
theorem xx_val {n : Str} {np pos : Pos} (hX : ∀ C, Z.TB.exc c = some C → ErrC X.K C) (hz : Zc cls d oe) (hf : ∃ vs, oe.data = .fields vs) (hN : X.N[i]? = some n) (hv : Vis X.env.scope n)
    (hd : (n == ("__debug__" : Str)) = false) (hcd : (n == ("__classdict__" : Str)) = false) (hb : attributeBase (.Name n np) "value" X.env (eval (.Name n np) X.env) = eval (.Name n np) X.env) :
    PE (X.suite a ((a, oe) :: pn)) (.Attribute (.Name n np) "value" pos) (tX Z W a cls d i c t (fun _ μ => some (.ok t μ))) := by
  refine ⟨fun pins s σ H Q I ⟨p, μ, Γ, sr, er, xh, h⟩ => ?_⟩
  obtain ⟨C, dx, v, rfl, rfl, hC, hN', hv'⟩ := xh.x
  have E := hX C hC
  refine (pe_xf E.xf E.nov hz hf (pe_var (X := X.suite a ((a, oe) :: pn)) (i := i) hN hv hd hcd) hb).run pins s σ H Q I ⟨.ref a, xh.s, rfl, rfl, dx, _, v, rfl, sr.sub _ _ (sr.nin _ _ hN'), by simp [List.lookup], ?_⟩
  exact h v H p (.refl p) sr hv'
theorem call_isD : CallR (X.suite a ((a, oe) :: pn)) (.builtin "isinstance") (fun xs H Q => ∃ (C D dx : Addr) (fs : List (Str × V)) (b : Bool), xs = [.ref a, .ref D] ∧ ErrC X.K C ∧ Zc (.ref C) (some dx) oe ∧ (∃ vs, oe.data = .fields vs) ∧ H dx = some (.xd fs) ∧ PySem.W.kitOne X.K (.ref C) (.ref D) = some b ∧ Q (.bl b) H) := by
  intro pins s σ H xs us Q I r h
  obtain ⟨C, D, dx, fs, b, rfl, E, hz, hf, ed, hk, q⟩ := h
  obtain ⟨u1, u2, rfl, r1, r2⟩ := vals2 r
  obtain rfl : u1 = Value.ref a := r1
  obtain rfl : u2 = Value.ref D := r2
  obtain ⟨ha, _⟩ := I.pin (a, oe) (List.mem_append_left _ List.mem_cons_self)
  obtain ⟨vs, hd⟩ := hf
  have hx : ObjOk X.prog X.w H s.heap dx (.xd fs) := I.hok dx _ ed
  obtain ⟨mA, hns, hr⟩ := hx
  obtain ⟨od, ho, hl⟩ := lookIn_ns hns
  have J : PySem.W.InstAt s.heap a oe C (some od) := ⟨ha, hz.1, by unfold PySem.W.notCls; rw [hd] <;> rfl, by rw [hz.2]; exact ho⟩
  exact PySem.W.kia_one (PySem.W.kitx_exc E.cls E.xf.ga E.xf.gg E.xf.exC E.ha E.hn E.ht E.hm) I.kIn J hk (by simp) (fun tk => ⟨.bl b, H, I.tok _, rfl, q⟩)
/-- isinstance(e, D) -/
theorem xx_isi {n y : Str} {np yp p pos : Pos} {D : Addr} {b : Bool} (hX : ∀ C, Z.TB.exc c = some C → ErrC X.K C) (hq : ∀ C, Z.TB.exc c = some C → PySem.W.kitOne X.K (.ref C) (.ref D) = some b) (hz : Zc cls d oe) (hf : ∃ vs, oe.data = .fields vs)
    (hg : Gl X "isinstance") (hm : X.mg "isinstance" = none) (hgD : Gl X y) (hmD : X.mg y = some (.ref D)) (hy : (y == ("__debug__" : Str)) = false)
    (hN : X.N[i]? = some n) (hv : Vis X.env.scope n) (hd : (n == ("__debug__" : Str)) = false) (hcd : (n == ("__classdict__" : Str)) = false)
    (he : starEach [.Name n np, .Name y yp] X.env = (false, eval (.Name n np) X.env) :: starEach [.Name y yp] X.env) (he2 : starEach [.Name y yp] X.env = (false, eval (.Name y yp) X.env) :: starEach [] X.env)
    (hpl : (backTo pos (starEach [.Name y yp] X.env)).any (·.1) = false) :
    PE (X.suite a ((a, oe) :: pn)) (.Call (.Name "isinstance" p) [.Name n np, .Name y yp] [] pos) (tX Z W a cls d i c t (dAtm (.bl b))) := by
  refine pe_imp (pe_callB (X := X.suite a ((a, oe) :: pn)) call_isD hg hm (by rfl) (pa_cons (pe_var (X := X.suite a ((a, oe) :: pn)) (i := i) hN hv hd hcd) (pa_cons (pe_glob (X := X.suite a ((a, oe) :: pn)) (v := .ref D) hgD hmD rfl hy) pa_nil he2) he) (by decide) (by rfl) he hpl) fun σ H Q ⟨p, μ, Γ, sr, er, xh, h⟩ => ?_
  obtain ⟨C, dx, v, rfl, rfl, hC, hN', hv'⟩ := xh.x
  exact ⟨.ref a, xh.s, C, D, dx, _, b, rfl, hX C hC, hz, hf, sr.sub _ _ (sr.nin _ _ hN'), hq C hC, h _ H p (.refl p) sr (Dx.bl b : Dx Z.K Z.TB p.N _ _)⟩
theorem tX_bindA {g : De} {kk : T → Mu → Ot (List T)} {Q : List V → Hp → Prop} {p : Pt} {μ : Mu} {Γ : Gam} {σ : L2.St} {H : Hp} (s : SR Z p H μ) (e : ER Z p σ Γ) (x : XH Z a cls d i c t p σ) (h : PostA Z W σ Q p (Ot.bind (g Γ μ) kk)) :
    tX Z W a cls d i c t g σ H fun v H1 => ∃ (q : Pt) (μ1 : Mu) (u : T), p.Le q ∧ SR Z q H1 μ1 ∧ ER Z q σ Γ ∧ XH Z a cls d i c t q σ ∧ RT Z q v u ∧ PostA Z W σ Q q (kk u μ1) := by
  refine ⟨p, μ, Γ, s, e, x, ?_⟩
  match hg : g Γ μ, h with
  | some (.ok u μ1), h =>
    have h : PostA Z W σ Q p (kk u μ1) := h
    exact fun v H' q hl hs hr => ⟨q, μ1, u, hl, hs, e.mono hl, x.mono hl, hr, PostA.le hl h⟩
  | some (.exc c u μ1), h => exact h
theorem tXA_bindA {g : Da} {kk : List T → Mu → Ot (List T)} {Q : List V → Hp → Prop} {p : Pt} {μ : Mu} {Γ : Gam} {σ : L2.St} {H : Hp} (s : SR Z p H μ) (e : ER Z p σ Γ) (x : XH Z a cls d i c t p σ) (h : PostA Z W σ Q p (Ot.bind (g Γ μ) kk)) :
    tXA Z W a cls d i c t g σ H fun vs H1 => ∃ (q : Pt) (μ1 : Mu) (us : List T), p.Le q ∧ SR Z q H1 μ1 ∧ RTs Z q vs us ∧ PostA Z W σ Q q (kk us μ1) := by
  refine ⟨p, μ, Γ, s, e, x, ?_⟩
  match hg : g Γ μ, h with
  | some (.ok us μ1), h =>
    have h : PostA Z W σ Q p (kk us μ1) := h
    exact fun v H' q hl hs hr => ⟨q, μ1, us, hl, hs, hr, PostA.le hl h⟩
  | some (.exc c u μ1), h => exact h
theorem tXA_bind {g : Da} {kk : List T → Mu → Ot T} {Q : VK} {p : Pt} {μ : Mu} {Γ : Gam} {σ : L2.St} {H : Hp} (s : SR Z p H μ) (e : ER Z p σ Γ) (x : XH Z a cls d i c t p σ) (h : Post Z W σ Q p (Ot.bind (g Γ μ) kk)) :
    tXA Z W a cls d i c t g σ H fun vs H1 => ∃ (q : Pt) (μ1 : Mu) (us : List T), p.Le q ∧ SR Z q H1 μ1 ∧ RTs Z q vs us ∧ Post Z W σ Q q (kk us μ1) := by
  refine ⟨p, μ, Γ, s, e, x, ?_⟩
  match hg : g Γ μ, h with
  | some (.ok us μ1), h =>
    have h : Post Z W σ Q p (kk us μ1) := h
    exact fun v H' q hl hs hr => ⟨q, μ1, us, hl, hs, hr, Post.le hl h⟩
  | some (.exc c u μ1), h => exact h
theorem tX_bindS {g : De} {kk : T → Mu → Option Eo} {D : Ends} {p : Pt} {μ : Mu} {Γ : Gam} {σ : L2.St} {H : Hp} (s : SR Z p H μ) (e : ER Z p σ Γ) (x : XH Z a cls d i c t p σ) (h : PostS Z W D p (Ot.bindS (g Γ μ) Γ kk)) :
    tX Z W a cls d i c t g σ H fun v H1 => ∃ (q : Pt) (μ1 : Mu) (u : T), p.Le q ∧ SR Z q H1 μ1 ∧ ER Z q σ Γ ∧ XH Z a cls d i c t q σ ∧ RT Z q v u ∧ PostS Z W D q (kk u μ1) := by
  refine ⟨p, μ, Γ, s, e, x, ?_⟩
  match hg : g Γ μ, h with
  | some (.ok u μ1), h =>
    have h : PostS Z W D p (kk u μ1) := h
    exact fun v H' q hl hs hr => ⟨q, μ1, u, hl, hs, e.mono hl, x.mono hl, hr, PostS.le hl h⟩
  | some (.exc c u μ1), h => exact h σ p (.refl p) e
variable {Y : Cx} {e : Expr} {es : List Expr} {ge : De} {da : Da} {pos : Pos}
theorem xx_nil : PA Y [] (tXA Z W a cls d i c t aNil) := ⟨fun pos pins s σ H Q I ⟨p, μ, Γ, sr, er, xh, h⟩ => (pa_nil (X := Y)).run pos pins s σ H Q I (h [] H p (.refl p) sr .nil)⟩
theorem xx_cons (ha : PE Y e (tX Z W a cls d i c t ge)) (hr : PA Y es (tXA Z W a cls d i c t da)) (hs : starEach (e :: es) Y.env = (false, eval e Y.env) :: starEach es Y.env) : PA Y (e :: es) (tXA Z W a cls d i c t (aCons ge da)) :=
  pa_imp (pa_cons ha hr hs) fun σ H Q ⟨p, μ, Γ, s, er, xh, h⟩ => by
    obtain ⟨p', μ', Γ', s', e', x', h'⟩ := tX_bindA (a := a) (cls := cls) (d := d) (i := i) (c := c) (t := t) s er xh h
    refine ⟨p', μ', Γ', s', e', x', ?_⟩
    match hg : ge Γ' μ', h' with
    | some (.ok t μ1), h' =>
      intro v H' q hl hs hr
      obtain ⟨q1, μ2, t2, l1, s1, e1, x1, r1, k1⟩ := h' v H' q hl hs hr
      obtain ⟨p3, μ3, Γ3, s3, e3, x3, h3⟩ := tXA_bindA (a := a) (cls := cls) (d := d) (i := i) (c := c) s1 e1 x1 k1
      refine ⟨p3, μ3, Γ3, s3, e3, x3, ?_⟩
      match hg3 : da Γ3 μ3, h3 with
      | some (.ok t4 μ4), h3 =>
        intro v4 H4 q4 hl4 hs4 hr4
        obtain ⟨q5, μ5, t5, l5, s5, r5, k5⟩ := h3 v4 H4 q4 hl4 hs4 hr4
        exact k5 _ _ q5 (Pt.Le.refl q5) s5 (.cons (r1.mono l5) r5)
      | some (.exc c4 t4 μ4), h3 => exact h3
    | some (.exc c t μ1), h' => exact h'
theorem xx_lst (live : Bool) (h : PA Y es (tXA Z W a cls d i c t da)) : PE Y (.List es pos) (tX Z W a cls d i c t (dLst live da)) :=
  pe_imp (pe_lst h) fun σ H Q ⟨p, μ, Γ, s, e, x, h⟩ => by
    obtain ⟨p', μ', Γ', s', e', x', h'⟩ := tXA_bind (a := a) (cls := cls) (d := d) (i := i) (c := c) (t := t) s e x h
    refine ⟨p', μ', Γ', s', e', x', ?_⟩
    match hg : da Γ' μ', h' with
    | some (.ok us μ1), h' =>
      intro v H' q hl hs hr
      obtain ⟨q1, μ2, t2, l1, s1, r1, k1⟩ := h' v H' q hl hs hr
      split at k1
      · rename_i hz
        exact ⟨by rw [r1.length]; exact small_line hz, fun a n => newL_ok s1 r1 (VPost.post k1) n⟩
      · exact k1.elim
    | some (.exc c t μ1), h' => exact h'
theorem xxs_set {j : Nat} {x : Str} {pos' : Pos} (hN : Y.N.Nodup) (hi : Y.N[j]? = some x) (hx : Loc Y.env.scope x) (he : PE Y e (tX Z W a cls d i c t ge)) (hs : swapsWith e (some (.Name x pos')) pos.line Y.env = pure false) (hf : Y.fn x = true ∨ Y.env.scope.names.lookup x = some .local) :
    PS Y (.Assign [.Name x pos'] e pos) (tXS Z W a cls d i c t (sSet j ge)) :=
  ps_imp (ps_set hN hi hx he hs hf) fun D σ H ⟨p, μ, Γ, s, er, xh, h⟩ => by
    obtain ⟨p', μ', Γ', s', e', x', h'⟩ := tX_bindS (a := a) (cls := cls) (d := d) (i := i) (c := c) (t := t) s er xh h
    refine ⟨p', μ', Γ', s', e', x', ?_⟩
    match hg : ge Γ' μ', h' with
    | some (.ok u μ1), h' =>
      intro v H' q hl hs hr
      obtain ⟨q1, μ2, t2, l1, s1, e1, x1, r1, k1⟩ := h' v H' q hl hs hr
      exact k1 _ _ q1 (.refl q1) s1 (e1.set r1 j)
    | some (.exc c t μ1), h' => exact h'
theorem xxs_one {s : Stmt} {g : Ds} (h : PS Y s (tXS Z W a cls d i c t g)) : PSs Y [s] (tXS Z W a cls d i c t g) := pss_one h
end
/-! try: body except X as e: suite -/
def sTry (i : Nat) (b : Ds) (h : Nat → T → Ds) : Ds := fun Γ μ => match b Γ μ with
  | some (.ex Γ1 c t μ1) => if i < Γ1.length then match h c t (Γ1.set i none) μ1 with
    | some (.nx Γ2 μ2) => some (.nx (Γ2.set i none) μ2)
    | some (.rt u μ2) => some (.rt u μ2)
    | _ => none
    else none
  | r => r
section
variable {X : Cx} {Z : Ent} {W : Wish} {k : Nat}
theorem xs_try {i : Nat} {x n : Str} {CE : Addr} {body suite : List Stmt} {b₀ : Stmt} {np pos pos' : Pos} {b : Ds} {h : Nat → T → Ds} (B : Be X Z W k) (hs : X.stack = X.env :: X.outer) (hf : X.env.frame = some X.env.locals) (hi : X.N[i]? = some n) (hln : X.env.kindOf n = some .local)
    (hc : Names X x (.ref CE)) (hcc : ∀ c C, Z.TB.exc c = some C → PySem.W.exmOne X.K (.ref C) (.ref CE) = some true)
    (hb : ∀ (W' : Wish) (pn : List (Addr × Obj)) (xe : Value → Shared → Prop), Takes (X.tr pn xe) W' → PassesOwn (model X.prog X.w) X.A X.env xe → PSs (X.tr pn xe) body (tDS Z W' b))
    (hh : ∀ (a : Addr) (oe : Obj) (cls : Value) (d : Option Addr) (pn : List (Addr × Obj)) (c : Nat) (t : T), Zc cls d oe → (∃ vs, oe.data = .fields vs) → PSs (X.suite a ((a, oe) :: pn)) (b₀ :: suite) (tXS Z W0 a cls d i c t (h c t))) :
    PS X (.Try body [.ExceptHandler (some (.Name x np)) (some n) (b₀ :: suite) pos'] [] [] pos) (tDS Z W (sTry i b h)) := by
  refine ps_imp (ps_try_as (ts := fun a cls d D σ H => ∃ (c : Nat) (t : T), tXS Z W0 a cls d i c t (h c t) D σ H) hs hf B.nd hi hln hc B.tk hb (fun a oe cls d pn hz hfl => ⟨fun pins s σ H D I ⟨c, t, q⟩ => (hh a oe cls d pn c t hz hfl).run pins s σ H D I q⟩)) fun D σ H ⟨p, μ, Γ, s, er, h0⟩ => ⟨p, μ, Γ, s, er, ?_⟩
  unfold sTry at h0
  cases hbb : b Γ μ with
  | none => rw [hbb] at h0; exact h0
  | some r =>
    rw [hbb] at h0
    cases r with
    | nx _ _ => exact h0
    | rt _ _ => exact h0
    | bk _ _ => exact h0
    | ct _ _ => exact h0
    | ex Γ1 c t μ1 =>
      simp only at h0
      by_cases hlen : i < Γ1.length
      case neg => rw [if_neg hlen] at h0; exact h0.elim
      rw [if_pos hlen] at h0
      intro σ1 q hl e1 C v dx H1 r hC hl2 s2 h0x hNx hv
      refine ⟨true, hcc c C hC, fun _ a ha => ⟨c, t, r, μ1, Γ1.set i none, s2, ?_, ⟨?_, C, dx, v, rfl, rfl, hC, hNx, hv⟩, ?_⟩, fun z => nomatch z⟩
      · have e2 := e1.mono hl2
        refine ⟨by simp [e2.1], fun j u hj => ?_⟩
        by_cases hij : i = j
        · subst hij
          by_cases hlt : i < Γ1.length
          · rw [List.getElem?_set_self hlt] at hj; cases hj
          · rw [List.getElem?_eq_none (by simpa using hlt)] at hj; cases hj
        · rw [List.getElem?_set_ne hij] at hj ⊢
          exact e2.2 j u hj
      · exact List.getElem?_set_self (by rw [e1.1]; exact hlen)
      · have hle := hl.trans hl2
        cases hhh : h c t (Γ1.set i none) μ1 with
        | none => rw [hhh] at h0; exact h0.elim
        | some r2 =>
          rw [hhh] at h0
          cases r2 with
          | nx Γ2 μ2 =>
            intro σ3 H3 q3 l3 s3 e3
            exact h0 _ _ q3 (hle.trans l3) s3 (e3.wipe i)
          | rt u μ2 =>
            intro v3 H3 q3 l3 s3 r3
            exact h0 v3 H3 q3 (hle.trans l3) s3 r3
          | bk _ _ => exact h0.elim
          | ct _ _ => exact h0.elim
          | ex _ _ _ _ => exact h0.elim
end
end L3

set_option Elab.async false
set_option linter.all false
set_option maxRecDepth 100000
set_option maxHeartbeats 4000000
/-! L3: != of own objects whose class has == alone. -/
namespace L3
open PySem PySem.Spec PyProof.Rows L2
def strKeysB (es : Array DictEntry) : Bool := es.toList.all fun e => match e.key with | .str _ _ => true | _ => false
theorem strKeys_of {es : Array DictEntry} (h : strKeysB es = true) : StrKeys es := fun e he => by
  have := List.all_eq_true.mp h e (by simpa using he)
  cases hk : e.key <;> rw [hk] at this <;> first | exact ⟨_, _, rfl⟩ | cases this
/-- the class tells == and no != -/
structure NeC (K : PySem.W.Frag) (C f : Addr) : Prop where
  cls : ∃ nm q N bs hd sn sub ab col dd k0 k1 k2 k3 k5 nw, K.lookup C = some (excClassObj nm q C N bs [.type "object"] hd sn sub ab col dd k0 k1 k2 k3 k5 nw) ∧
    ∃ o es ep, K.lookup N = some o ∧ o.data = .dict es ep ∧ StrKeys es ∧ nsFind es "__eq__" = some (.ref f) ∧ nsFind es "__ne__" = none
  fn : ∃ o, K.lookup f = some o ∧ o.cls = .type "function"
section
variable {X : Cx} {Z : Ent} {W : Wish} {k : Nat} {f C : Addr} {fd : FuncData} {ps : List Str} {g : List T → Mu → Ot T} {ga gb : De} {a b : Expr} {pos : Pos}
def neOwn (g : List T → Mu → Ot T) (c : Nat) (live : Bool) (μ : Mu) (tx ty : T) : Ot T := match eqOwn g c live μ tx ty with
  | some (.ok (.v _ (.bl b)) μ') => some (.ok (.v true (.bl (!b))) μ')
  | _ => none
def rNeOwn (Z : Ent) (g : List T → Mu → Ot T) (c : Nat) (live : Bool) : R2 := fun x y H Q => ∃ (p : Pt) (μ : Mu) (tx ty : T), SR Z p H μ ∧ RT Z p x tx ∧ RT Z p y ty ∧ Post Z W0 [] Q p (neOwn g c live μ tx ty)
theorem op_neOwn (live : Bool) {c : Nat} {names : List Str} (B : Be X Z W (k + 1)) (hC : Z.TB.cls c = some (C, names)) (F : FnG X.prog X.w X.K X.mg X.base k f fd ps (spD X.K Z.TB g 2)) (N : NeC X.K C f)
    (hb : Binds X.K fd ps []) (hps : ps.length = 2) : OpR X (compareOp .NotEq) (rNeOwn Z g c live) := by
  intro pins s σ H x y u v Q I rx ry d
  obtain ⟨q, μ, tx, ty, sr, rtx, rty, po⟩ := d
  unfold neOwn eqOwn at po
  cases h1 : objOf μ tx with
  | none => rw [h1] at po; exact po.elim
  | some o1 =>
  cases h2 : objOf μ ty with
  | none => rw [h1, h2] at po; exact po.elim
  | some o2 =>
  obtain ⟨c1, ts1⟩ := o1
  obtain ⟨c2, ts2⟩ := o2
  rw [h1, h2] at po
  simp only at po
  by_cases hcc : c1 = c ∧ c2 = c
  case neg => rw [if_neg hcc] at po; exact po.elim
  rw [if_pos hcc] at po
  obtain ⟨rfl, rfl⟩ := hcc
  obtain ⟨a, C', dx, fs, names', rfl, ha, hc', _, _⟩ := obj_ok sr rtx h1
  rw [hC] at hc'
  cases hc'
  obtain ⟨b, C', dy, gs, names', rfl, hb', hc', _, _⟩ := obj_ok sr rty h2
  rw [hC] at hc'
  cases hc'
  cases rx
  cases ry
  obtain ⟨mA, J, _⟩ := ins_get I.hok ha
  obtain ⟨mB, J', _⟩ := ins_get I.hok hb'
  obtain ⟨od, J, _⟩ := J.look
  obtain ⟨od', J', _⟩ := J'.look
  have ow : spD Z.K Z.TB g 2 [V.ref a, V.ref b] H (fun v H' => ∃ kk, v = .bl kk ∧ Q (.bl (!kk)) H') (fun _ _ _ => False) := by
    refine call_owes (W := W0) (σ := []) (live := live) (rf := [false, false]) (ts := [tx, ty]) sr (.cons rtx (.cons rty .nil)) ?_
    cases hg : callD g live [false, false] [tx, ty] μ with
    | none => rw [hg] at po; exact po.elim
    | some rr =>
      rw [hg] at po
      cases rr with
      | exc _ _ _ => exact po.elim
      | ok t μ' =>
        intro v H' r l s rv
        cases t with
        | m _ => exact po.elim
        | v fl d =>
          cases d with
          | bl b => exact ⟨b, rv.bl, po (.bl (!b)) H' r l s (Dx.bl _ : Dx Z.K Z.TB r.N _ _)⟩
          | _ => exact po.elim
  rw [← B.hK] at ow
  obtain ⟨hp, gn, dr, tk, os⟩ := s
  have X0 : X.K.In hp := I.kIn
  have own : hp.OwnEqNoNe a C f "object" [.type "object"] := by
    obtain ⟨⟨nm, q, Nn, bs, hd, sn, sub, ab, col, dd, k0, k1, k2, k3, k5, nw, hl, on, es, ep, hN, hdat, hsk, he, hne⟩, of, hf, hof⟩ := N
    obtain ⟨y, hy⟩ : ∃ y, typeLookup (Value.type "object") (Str.ofString "__eq__") = pure y := ⟨_, by rfl⟩
    exact ⟨_, of, nm, q, Nn, bs, hd, sn, sub, ab, col, dd, k0, k1, k2, k3, k5, nw, fun n => nsFind es n, y, J.at_, J.cls, X0 _ _ hl, ⟨on, es, ep, X0 _ _ hN, hdat, hsk, fun _ => rfl⟩, he, X0 _ _ hf, hof, rfl, hy, hne⟩
  show wpAny (model X.prog X.w) X.A (compareOp .NotEq (.ref a) (.ref b)) (EP X pins σ Q) X.xe ⟨hp, gn, dr, tk, os⟩
  refine compareOp_ne_ownEq PySem.F.cmp_object own J'.at_ J'.cls (by have := B.room.un; omega) ?_
  have hbb := hb ⟨hp, gn, dr, tk, os⟩ [.ref a, .ref b] I.kIn (by rw [hps]; rfl)
  refine wpAny_call (codeAny_mono (F.run X.A.in1 X.stack ⟨hp, gn, dr, tk, os⟩ H ⟨[.ref a, .ref b], []⟩ [.ref a, .ref b] [.ref a, .ref b] _ (fun _ _ _ => False) B.room.in1 (in1_gd B.gd) I.env0.in1 hbb (.cons rfl (.cons rfl .nil)) ow) fun r s' hq => ?_)
  cases r with
  | error e =>
    obtain ⟨_, _, _, _, _, _, _, _, _, _, _, _, _, _, _, _, w⟩ := XE.of_call (W := W0) I (fun _ _ _ h => h) hq
    exact w.elim
  | ok fl =>
    cases fl with
    | ret w =>
      obtain ⟨z, H', I', rz, kk, ez, ex⟩ := I.after hq
      subst ez
      cases rz
      exact ⟨kk, rfl, .bl (!kk), H', I', rfl, ex⟩
    | next => exact False.elim hq
    | brk => exact False.elim hq
    | cont => exact False.elim hq
def dNeOwn (g : List T → Mu → Ot T) (c : Nat) (live : Bool) (ga gb : De) : De := fun Γ μ => Ot.bind (ga Γ μ) fun ta μ1 => Ot.bind (gb Γ μ1) fun tb μ2 => neOwn g c live μ2 ta tb
theorem xe_neOwn (live : Bool) {c : Nat} {names : List Str} (B : Be X Z W (k + 1)) (hC : Z.TB.cls c = some (C, names)) (F : FnG X.prog X.w X.K X.mg X.base k f fd ps (spD X.K Z.TB g 2)) (N : NeC X.K C f)
    (hbd : Binds X.K fd ps []) (hps : ps.length = 2) (ha : PE X a (tD Z W ga)) (hb : PE X b (tD Z W gb)) (hm : behindInMarks .NotEq b = false) :
    PE X (.Compare a [.NotEq] [b] pos) (tD Z W (dNeOwn g c live ga gb)) :=
  pe_imp (pe_cmpR (op_neOwn live B hC F N hbd hps) ha hb hm) fun σ H Q h => by
    obtain ⟨p, μ, Γ, s, e, h⟩ := h
    obtain ⟨p', μ', Γ', s', e', h'⟩ := tD_bind s e h
    refine ⟨p', μ', Γ', s', e', ?_⟩
    match hg : ga Γ' μ', h' with
    | some (.ok t μ1), h' =>
      intro v H' q hl hs hr
      obtain ⟨q1, μ2, t2, l1, s1, e1, r1, k1⟩ := h' v H' q hl hs hr
      obtain ⟨p3, μ3, Γ3, s3, e3, h3⟩ := tD_bind s1 e1 k1
      refine ⟨p3, μ3, Γ3, s3, e3, ?_⟩
      match hg3 : gb Γ3 μ3, h3 with
      | some (.ok t4 μ4), h3 =>
        intro v4 H4 q4 hl4 hs4 hr4
        obtain ⟨q5, μ5, t5, l5, s5, e5, r5, k5⟩ := h3 v4 H4 q4 hl4 hs4 hr4
        refine ⟨q5, μ5, t2, t5, s5, r1.mono l5, r5, ?_⟩
        cases hq : neOwn g c live μ5 t2 t5 with
        | none => rw [hq] at k5; exact k5.elim
        | some rr =>
          rw [hq] at k5
          cases rr with
          | ok _ _ => exact k5
          | exc c2 t2' μ2' =>
            unfold neOwn at hq
            split at hq <;> cases hq
      | some (.exc c4 t4 μ4), h3 => exact h3
    | some (.exc c t μ1), h' => exact h'
end
/-! len of an own object -/
def lenOwn (g : List T → Mu → Ot T) (c : Nat) (live : Bool) (μ : Mu) (t : T) : Ot T := match objOf μ t with
  | some (c', _) => if c' = c then match callD g live [false] [t] μ with
    | some (.ok (.v _ (.int n)) μ') => if 0 ≤ n ∧ n < 2 ^ 63 then some (.ok (.v true (.int n)) μ') else none
    | _ => none
    else none
  | none => none
def dLenO (g : List T → Mu → Ot T) (c : Nat) (live : Bool) (go : De) : De := fun Γ μ => Ot.bind (go Γ μ) fun t μ1 => lenOwn g c live μ1 t
section
variable {X : Cx} {Z : Ent} {W : Wish} {k : Nat} {f C : Addr} {fd : FuncData} {ps : List Str} {g : List T → Mu → Ot T} {go : De} {o : Expr} {p pos : Pos}
theorem call_lenO (live : Bool) {c : Nat} {names : List Str} (B : Be X Z W (k + 1)) (hC : Z.TB.cls c = some (C, names)) (F : FnG X.prog X.w X.K X.mg X.base k f fd ps (spD X.K Z.TB g 1)) (hs : PySem.W.findIn X.K (.ref C) "__len__" = some (some (.ref f)))
    (hf : PySem.W.isFn X.K (.ref f) = true) (hb : Binds X.K fd ps []) (hps : ps.length = 1) :
    CallR X (.builtin "len") (fun xs H Q => ∃ (q : Pt) (μ : Mu) (t : T) (v : V), xs = [v] ∧ SR Z q H μ ∧ RT Z q v t ∧ Post Z W0 [] Q q (lenOwn g c live μ t)) := by
  intro pins s σ H xs us Q I r d
  obtain ⟨q, μ, t, v, rfl, sr, rt, po⟩ := d
  obtain ⟨u1, rfl, r1⟩ := vals1 r
  unfold lenOwn at po
  cases h1 : objOf μ t with
  | none => rw [h1] at po; exact po.elim
  | some o1 =>
  obtain ⟨c1, ts1⟩ := o1
  rw [h1] at po
  simp only at po
  by_cases hcc : c1 = c
  case neg => rw [if_neg hcc] at po; exact po.elim
  rw [if_pos hcc] at po
  subst hcc
  obtain ⟨a, C', dx, fs, names', rfl, ha, hc', _, _⟩ := obj_ok sr rt h1
  rw [hC] at hc'
  cases hc'
  obtain rfl : u1 = Value.ref a := r1
  obtain ⟨mA, J, _⟩ := ins_get I.hok ha
  obtain ⟨od, J, _⟩ := J.look
  obtain ⟨m, hF⟩ := I.fr
  have ow : spD Z.K Z.TB g 1 [V.ref a] H (fun v H' => ∃ n, v = .int n ∧ 0 ≤ n ∧ n < 2 ^ 63 ∧ Q (.int n) H') (fun _ _ _ => False) := by
    refine call_owes (W := W0) (σ := []) (live := live) (rf := [false]) (ts := [t]) sr (.cons rt .nil) ?_
    cases hg : callD g live [false] [t] μ with
    | none => rw [hg] at po; exact po.elim
    | some rr =>
      rw [hg] at po
      cases rr with
      | exc _ _ _ => exact po.elim
      | ok t μ' =>
        intro v H' r l s rv
        cases t with
        | m _ => exact po.elim
        | v fl d =>
          cases d with
          | int n =>
            simp only at po
            by_cases hn : 0 ≤ n ∧ n < 2 ^ 63
            case neg => rw [if_neg hn] at po; exact po.elim
            rw [if_pos hn] at po
            exact ⟨n, rv.int, hn.1, hn.2, po (.int n) H' r l s (Dx.int _ : Dx Z.K Z.TB r.N _ _)⟩
          | _ => exact po.elim
  rw [← B.hK] at ow
  have hbb := hb s [.ref a] I.kIn (by rw [hps]; rfl)
  refine PySem.W.len_K hF I.ok.mod.kin J hs hf ?_
  refine wpAny_call (codeAny_mono (F.run X.A.in1 X.stack s H ⟨[.ref a], []⟩ [.ref a] [.ref a] _ (fun _ _ _ => False) B.room.in1 (in1_gd B.gd) I.env0.in1 hbb (.cons rfl .nil) ow) fun r s' hq => ?_)
  cases r with
  | error e =>
    obtain ⟨_, _, _, _, _, _, _, _, _, _, _, _, _, _, _, _, w⟩ := XE.of_call (W := W0) I (fun _ _ _ h => h) hq
    exact w.elim
  | ok fl =>
    cases fl with
    | ret w =>
      obtain ⟨z, H', I', rz, n, ez, h0, h63, ex⟩ := I.after hq
      subst ez
      obtain ⟨tk, rfl⟩ := rz
      exact ⟨⟨h0, h63⟩, .int n, H', I'.tok _, ⟨_, rfl⟩, ex⟩
    | next => exact False.elim hq
    | brk => exact False.elim hq
    | cont => exact False.elim hq
theorem xe_lenO (live : Bool) {c : Nat} {names : List Str} (B : Be X Z W (k + 1)) (hC : Z.TB.cls c = some (C, names)) (F : FnG X.prog X.w X.K X.mg X.base k f fd ps (spD X.K Z.TB g 1)) (hs : PySem.W.findIn X.K (.ref C) "__len__" = some (some (.ref f)))
    (hf : PySem.W.isFn X.K (.ref f) = true) (hb : Binds X.K fd ps []) (hps : ps.length = 1) (hg : Gl X "len") (hm : X.mg "len" = none) (ho : PE X o (tD Z W go))
    (he : starEach (o :: []) X.env = (false, eval o X.env) :: starEach [] X.env) (hpl : (backTo pos (starEach [] X.env)).any (·.1) = false) :
    PE X (.Call (.Name "len" p) [o] [] pos) (tD Z W (dLenO g c live go)) :=
  pe_imp (pe_callB (call_lenO live B hC F hs hf hb hps) hg hm (by rfl) (xa_cons ho xa_nil he) (by decide) (by rfl) he hpl) fun σ H Q ⟨p0, μ, Γ, s, e, h⟩ => by
    refine ⟨p0, μ, Γ, s, e, ?_⟩
    unfold dLenO at h
    cases hgg : go Γ μ with
    | none => rw [hgg] at h; exact h.elim
    | some rr =>
      rw [hgg] at h
      cases rr with
      | exc c' t μ1 =>
        simp only [aCons, hgg]
        exact h
      | ok t μ1 =>
        simp only [aCons, hgg, bind_ok, aNil]
        intro vs H' q hl s1 rt
        obtain ⟨v, rfl, rv⟩ := rt.one
        have h : Post Z W σ Q p0 (lenOwn g c live μ1 t) := h
        refine ⟨q, μ1, t, v, rfl, s1, rv, ?_⟩
        cases hq : lenOwn g c live μ1 t with
        | none => rw [hq] at h; exact h.elim
        | some rr =>
          rw [hq] at h
          cases rr with
          | ok _ _ => exact Post.le hl h
          | exc c2 t2 μ2 =>
            unfold lenOwn at hq
            split at hq
            · split at hq
              · split at hq
                · split at hq <;> cases hq
                · cases hq
              · cases hq
            · cases hq
end
def exIs (c k : Nat) : Bool := k == 0 || c == k
def dXv (t : T) : De := fun _ μ => some (.ok t μ)
theorem Bs.tr {X : Cx} {Z : Ent} {W W' : Wish} {k : Nat} {pn : List (Addr × Obj)} {xe : Value → Shared → Prop} (b : Bs X Z W k) (tk : Takes (X.tr pn xe) W') (hp : PassesOwn (model X.prog X.w) X.A X.env xe) : Bs (X.tr pn xe) Z W' k := ⟨⟨b.hK, b.room, b.gd, b.calm, b.nd, tk⟩, hp⟩
section
variable {X : Cx} {Z : Ent} {W : Wish} {k : Nat} {f C : Addr} {fd : FuncData} {ps : List Str} {g : List T → Mu → Ot T} {ga gb : De} {a b : Expr} {pos : Pos}
/-- own == and != as a test -/
theorem xt_own (live : Bool) {c : Nat} {names : List Str} (B : Be X Z W k) (hC : Z.TB.cls c = some (C, names)) (F : FnG X.prog X.w X.K X.mg X.base k f fd ps (spD X.K Z.TB g 2)) (hs : PySem.W.findIn X.K (.ref C) "__eq__" = some (some (.ref f)))
    (hf : PySem.W.isFn X.K (.ref f) = true) (hbd : Binds X.K fd ps []) (hps : ps.length = 2) (ha : PE X a (tD Z W ga)) (hb : PE X b (tD Z W gb)) (hm : behindInMarks .Eq b = false) :
    PT X (.Compare a [.Eq] [b] pos) (tDB Z W (bOf (dOwn g c live ga gb))) :=
  pt_imp (pt_cmpR (op_own live B hC F hs hf hbd hps) ha hb hm) fun σ H Q h => by
    obtain ⟨p, μ, Γ, s, e, h⟩ := bOf_test h
    obtain ⟨p', μ', Γ', s', e', h'⟩ := tD_bind s e h
    refine ⟨p', μ', Γ', s', e', ?_⟩
    match hg : ga Γ' μ', h' with
    | some (.ok t μ1), h' =>
      intro v H' q hl hs hr
      obtain ⟨q1, μ2, t2, l1, s1, e1, r1, k1⟩ := h' v H' q hl hs hr
      obtain ⟨p3, μ3, Γ3, s3, e3, h3⟩ := tD_bind s1 e1 k1
      refine ⟨p3, μ3, Γ3, s3, e3, ?_⟩
      match hg3 : gb Γ3 μ3, h3 with
      | some (.ok t4 μ4), h3 =>
        intro v4 H4 q4 hl4 hs4 hr4
        obtain ⟨q5, μ5, t5, l5, s5, e5, r5, k5⟩ := h3 v4 H4 q4 hl4 hs4 hr4
        refine ⟨q5, μ5, t2, t5, s5, r1.mono l5, r5, ?_⟩
        cases hq : eqOwn g c live μ5 t2 t5 with
        | none => rw [hq] at k5; exact k5.elim
        | some rr =>
          rw [hq] at k5
          cases rr with
          | ok _ _ => exact k5
          | exc c2 t2' μ2' =>
            unfold eqOwn at hq
            split at hq
            · split at hq
              · split at hq
                · cases hq
                · cases hq
              · cases hq
            · cases hq
      | some (.exc c4 t4 μ4), h3 => exact h3
    | some (.exc c t μ1), h' => exact h'
theorem xt_neOwn (live : Bool) {c : Nat} {names : List Str} (B : Be X Z W (k + 1)) (hC : Z.TB.cls c = some (C, names)) (F : FnG X.prog X.w X.K X.mg X.base k f fd ps (spD X.K Z.TB g 2)) (N : NeC X.K C f)
    (hbd : Binds X.K fd ps []) (hps : ps.length = 2) (ha : PE X a (tD Z W ga)) (hb : PE X b (tD Z W gb)) (hm : behindInMarks .NotEq b = false) :
    PT X (.Compare a [.NotEq] [b] pos) (tDB Z W (bOf (dNeOwn g c live ga gb))) :=
  pt_imp (pt_cmpR (op_neOwn live B hC F N hbd hps) ha hb hm) fun σ H Q h => by
    obtain ⟨p, μ, Γ, s, e, h⟩ := bOf_test h
    obtain ⟨p', μ', Γ', s', e', h'⟩ := tD_bind s e h
    refine ⟨p', μ', Γ', s', e', ?_⟩
    match hg : ga Γ' μ', h' with
    | some (.ok t μ1), h' =>
      intro v H' q hl hs hr
      obtain ⟨q1, μ2, t2, l1, s1, e1, r1, k1⟩ := h' v H' q hl hs hr
      obtain ⟨p3, μ3, Γ3, s3, e3, h3⟩ := tD_bind s1 e1 k1
      refine ⟨p3, μ3, Γ3, s3, e3, ?_⟩
      match hg3 : gb Γ3 μ3, h3 with
      | some (.ok t4 μ4), h3 =>
        intro v4 H4 q4 hl4 hs4 hr4
        obtain ⟨q5, μ5, t5, l5, s5, e5, r5, k5⟩ := h3 v4 H4 q4 hl4 hs4 hr4
        refine ⟨q5, μ5, t2, t5, s5, r1.mono l5, r5, ?_⟩
        cases hq : neOwn g c live μ5 t2 t5 with
        | none => rw [hq] at k5; exact k5.elim
        | some rr =>
          rw [hq] at k5
          cases rr with
          | ok _ _ => exact k5
          | exc c2 t2' μ2' =>
            unfold neOwn at hq
            split at hq <;> cases hq
      | some (.exc c4 t4 μ4), h3 => exact h3
    | some (.exc c t μ1), h' => exact h'
end
end L3

set_option Elab.async false
set_option linter.all false
set_option maxRecDepth 100000
set_option maxHeartbeats 4000000
/-! a suite of more than one statement, and what its values are made of -/
namespace L3
open PySem PySem.Spec PyProof.Rows L2
section
variable {X : Cx} {Z : Ent} {W : Wish} {k : Nat} {a : Addr} {oe : Obj} {pn : List (Addr × Obj)} {cls : Value} {d : Option Addr} {i c : Nat} {t : T}
theorem tX_bind {g : De} {kk : T → Mu → Ot T} {Q : VK} {p : Pt} {μ : Mu} {Γ : Gam} {σ : L2.St} {H : Hp} (s : SR Z p H μ) (e : ER Z p σ Γ) (x : XH Z a cls d i c t p σ) (h : Post Z W σ Q p (Ot.bind (g Γ μ) kk)) :
    tX Z W a cls d i c t g σ H fun v H1 => ∃ (q : Pt) (μ1 : Mu) (u : T), p.Le q ∧ SR Z q H1 μ1 ∧ ER Z q σ Γ ∧ XH Z a cls d i c t q σ ∧ RT Z q v u ∧ Post Z W σ Q q (kk u μ1) := by
  refine ⟨p, μ, Γ, s, e, x, ?_⟩
  match hg : g Γ μ, h with
  | some (.ok u μ1), h =>
    have h : Post Z W σ Q p (kk u μ1) := h
    exact fun v H' q hl hs hr => ⟨q, μ1, u, hl, hs, e.mono hl, x.mono hl, hr, Post.le hl h⟩
  | some (.exc c u μ1), h => exact h
variable {ga gb : De}
theorem twoX {g : Mu → T → T → Vt} {σ : L2.St} {H : Hp} {Q : VK} (h : tX Z W a cls d i c t (d2 g ga gb) σ H Q) :
    tX Z W a cls d i c t ga σ H fun x H1 => tX Z W a cls d i c t gb σ H1 fun y H2 => rV2 Z g x y H2 Q := by
  obtain ⟨p, μ, Γ, s, e, xh, h⟩ := h
  obtain ⟨p', μ', Γ', s', e', x', h'⟩ := tX_bind (a := a) (cls := cls) (d := d) (i := i) (c := c) (t := t) s e xh h
  refine ⟨p', μ', Γ', s', e', x', ?_⟩
  match hg : ga Γ' μ', h' with
  | some (.ok u μ1), h' =>
    intro v H' q hl hs hr
    obtain ⟨q1, μ2, t2, l1, s1, e1, x1, r1, k1⟩ := h' v H' q hl hs hr
    obtain ⟨p3, μ3, Γ3, s3, e3, x3, h3⟩ := tX_bind (a := a) (cls := cls) (d := d) (i := i) (c := c) (t := t) s1 e1 x1 k1
    refine ⟨p3, μ3, Γ3, s3, e3, x3, ?_⟩
    match hg3 : gb Γ3 μ3, h3 with
    | some (.ok t4 μ4), h3 =>
      intro v4 H4 q4 hl4 hs4 hr4
      obtain ⟨q5, μ5, t5, l5, s5, e5, x5, r5, k5⟩ := h3 v4 H4 q4 hl4 hs4 hr4
      exact ⟨q5, μ5, t2, t5, s5, r1.mono l5, r5, VPost.post k5⟩
    | some (.exc c4 t4 μ4), h3 => exact h3
  | some (.exc c u μ1), h' => exact h'
variable {Y : Cx} {e1 e2 : Expr} {es : List Expr} {ge : De} {da : Da} {pos : Pos}
theorem xx_bin (hK : Y.K = Z.K) (live : Bool) {op : Operator} (ha : PE Y e1 (tX Z W a cls d i c t ga)) (hb : PE Y e2 (tX Z W a cls d i c t gb)) : PE Y (.BinOp e1 op e2 pos) (tX Z W a cls d i c t (d2 (binV live op) ga gb)) :=
  pe_imp (pe_op (op_binV hK live op) ha hb) fun _ _ _ h => twoX h
theorem XH.set {p : Pt} {σ : L2.St} (h : XH Z a cls d i c t p σ) {j : Nat} (hij : j ≠ i) (v : Option V) : XH Z a cls d i c t p (σ.set j v) :=
  ⟨by rw [List.getElem?_set_ne hij]; exact h.s, h.x⟩
theorem xxs_setc {j : Nat} {x : Str} {pos' : Pos} {rest : List Stmt} {e : Expr} {gr : Ds} (hij : j ≠ i) (hN : Y.N.Nodup) (hi : Y.N[j]? = some x) (hx : Loc Y.env.scope x) (he : PE Y e (tX Z W a cls d i c t ge)) (hs : swapsWith e (some (.Name x pos')) pos.line Y.env = pure false) (hf : Y.fn x = true ∨ Y.env.scope.names.lookup x = some .local)
    (hr : PSs Y rest (tXS Z W a cls d i c t gr)) :
    PSs Y (.Assign [.Name x pos'] e pos :: rest) (tXS Z W a cls d i c t (sSeq (sSet j ge) gr)) :=
  pss_imp (pss_cons (ps_set hN hi hx he hs hf) hr) fun D σ H ⟨p, μ, Γ, s, er, xh, h⟩ => by
    have h2 : PostS Z W D p (Ot.bindS (ge Γ μ) Γ fun u μ1 => gr (Γ.set j (some u)) μ1) := by
      unfold sSeq sSet at h
      cases hg : ge Γ μ with
      | none => rw [hg] at h; exact h
      | some r =>
        rw [hg] at h
        cases r with
        | ok u μ1 => exact h
        | exc c u μ1 => exact h
    obtain ⟨p', μ', Γ', s', e', x', h'⟩ := tX_bindS (a := a) (cls := cls) (d := d) (i := i) (c := c) (t := t) s er xh h2
    refine ⟨p', μ', Γ', s', e', x', ?_⟩
    match hg : ge Γ' μ', h' with
    | some (.ok u μ1), h' =>
      intro v H' q hl hs hr
      obtain ⟨q1, μ2, t2, l1, s1, e1, x1, r1, k1⟩ := h' v H' q hl hs hr
      exact ⟨q1, μ2, _, s1, e1.set r1 j, x1.set hij _, k1⟩
    | some (.exc c t μ1), h' => exact h'
end
/-! a new object of values that are named -/
section
variable {X : Cx} {k : Nat} {f C : Addr} {fd : FuncData} {ps ks : List Str} {pm : List Nat} {sp : Sp} {E : XK}
theorem runMkK {pins : List (Addr × Obj)} {σ : L2.St} {H : Hp} {s : Shared} {Q : VK} {ws : List Value} {zs : List V} (M : Mk X.K C f)
    (F : FnG X.prog X.w X.K X.mg X.base k f fd ps sp) (hr : Room (k + 1) X.A) (hgd : X.A.guards = some []) (hb : KB X.K fd ps ks 1 pm)
    (hx : PassesAt (L2.CX X.prog X.w) X σ E)
    (I : Inv X pins σ H s) (r : Vals zs ws) (hl : ws.length = ks.length)
    (h : ∀ x dx, H x = none → H dx = none → dx ≠ x → sp (.ref x :: pick pm zs) (upd (upd H dx (.own x)) x (.ins C dx [])) (fun v H2 => v = .non ∧ Q (.ref x) H2) E) :
    wpAny (model X.prog X.w) X.A (PySem.call (.ref C) [] (ks.zip ws)) (EP X pins σ Q) X.xe s := by
  have hq := h (s.heap.objs.size + 1) s.heap.objs.size (I.hok.fresh (Nat.le_succ _)) (I.hok.fresh (Nat.le_refl _)) (Nat.ne_of_lt (Nat.lt_succ_self _))
  have I2 := Inv.made (C := C) I
  have r2 : Vals (V.ref (s.heap.objs.size + 1) :: pick pm zs) (Value.ref (s.heap.objs.size + 1) :: pick pm ws) := Paired.cons rfl (Vals.pick r pm)
  have hbd := hb _ [Value.ref (s.heap.objs.size + 1)] ws I2.kIn rfl hl
  have hgm : (X.A.under (.builtin "type.__call__" ⟨.ref C :: [], ks.zip ws⟩)).guards = some [] := by
    first
      | exact hgd
      | simp [Around.under, Code.guards, Code.isGuard, guardIds, pushGuards, hgd]
  have hrun := F.run _ X.stack _ _ ⟨[Value.ref (s.heap.objs.size + 1)], ks.zip ws⟩ (Value.ref (s.heap.objs.size + 1) :: pick pm ws) _ _ E (hr.make C [] (ks.zip ws)) hgm (I2.env0.make C [] (ks.zip ws)) hbd r2 hq
  refine wpAny_call (make_map (f := f) I.kIn M.makes M.init (beq_iff_eq.mp M.fn) (codeAny_mono hrun ?_))
  intro res s' hq'
  match res, hq' with
  | .error e, hq' => exact hx pins _ _ e s' I2 hq'
  | .ok (.ret u), hq' =>
    obtain ⟨v, H', I3, rv, ev, q3⟩ := I2.after hq'
    subst ev
    exact ⟨rv, V.ref (s.heap.objs.size + 1), H', I3, rfl, q3⟩
  | .ok .next, hq' => exact False.elim hq'
  | .ok .brk, hq' => exact False.elim hq'
  | .ok .cont, hq' => exact False.elim hq'
end
def dMakeK (g : List T → Mu → Ot T) (n c ar : Nat) (live keep : Bool) (rf : List Bool) (m0 : Nat) (pm : List Nat) (nk : Nat) (dk : Da) : De := fun Γ μ => Ot.bind (dk Γ μ) fun ts μ1 => if ts.length = nk then if (pick pm ts).length + 1 = n then mkD g c ar live keep rf m0 (pick pm ts) μ1 else none else none
section
variable {X : Cx} {Z : Ent} {W : Wish} {k n : Nat} {f C : Addr} {fd : FuncData} {ps ks : List Str} {g : List T → Mu → Ot T} {x : Str} {p pos : Pos} {kws : List Keyword} {dk : Da}
theorem xe_makeK (live keep : Bool) (rf : List Bool) {pm : List Nat} {c ar m0 : Nat} {names : List Str} (B : Be X Z W (k + 1)) (hm0 : Z.ms0.length = m0) (M : Mk X.K C f) (hC : Z.TB.cls c = some (C, names)) (har : names.length = ar)
    (F : FnG X.prog X.w X.K X.mg X.base k f fd ps (spD X.K Z.TB g n)) (hg : Gl X x) (hm : X.mg x = some (.ref C)) (hb : KB X.K fd ps ks 1 pm)
    (hkw : PK X kws (tDA Z W dk)) (hall : (backToKw pos (keywordEach kws X.env)).all (·.1.isSome) = true) (hks : (backToKw pos (keywordEach kws X.env)).filterMap (·.1) = ks) (hdb : (x == ("__debug__" : Str)) = false)
    (hpl : ((backTo pos (starEach [] X.env)).any (·.1) || (backToKw pos (keywordEach kws X.env)).any (·.1.isNone)) = false) :
    PE X (.Call (.Name x p) [] kws pos) (tD Z W (dMakeK g n c ar live keep rf m0 pm ks.length dk)) := by
  subst hm0
  refine ⟨fun pins s σ H Q I h => ?_⟩
  obtain ⟨p0, μ, Γ, s0, e0, h⟩ := h
  refine wpAny_Call_Name_kw (ld_glob I hg hm ?_ hdb)
  refine PySem.W.callWith_KW0 (h₀ := X.base) I.ok.mod.kin M.kp hall ?_ hpl
  refine thn (hkw.run pos pins s σ H _ I (tDA_bind s0 e0 h)) fun us s1 ⟨vs, H1, I1, r, q, μ1, ts, l1, s2, e2, rt, po⟩ => ⟨I1.kIn, ?_⟩
  rw [hks]
  split at po
  · rename_i hl
    split at po
    · rename_i hn
      have ow := make_owes hC har s2 (rt.pick pm) po
      rw [(rt.pick pm).length, hn] at ow
      rw [← B.hK] at ow
      exact runMkK M F B.room B.gd hb (passAt B.tk σ) I1 r (by rw [← r.length, rt.length, hl]) ow
    · exact po.elim
  · exact po.elim
end
section
variable {X : Cx} {Z : Ent} {W : Wish} {a : Addr} {oe : Obj} {pn : List (Addr × Obj)} {cls : Value} {d : Option Addr} {i c : Nat} {t : T} {ga gb : De} {e1 e2 : Expr} {pos : Pos}
theorem xx_binS (hK : X.K = Z.K) (live : Bool) {op : Operator} (ha : PE (X.suite a ((a, oe) :: pn)) e1 (tX Z W a cls d i c t ga)) (hb : PE (X.suite a ((a, oe) :: pn)) e2 (tX Z W a cls d i c t gb)) :
    PE (X.suite a ((a, oe) :: pn)) (.BinOp e1 op e2 pos) (tX Z W a cls d i c t (d2 (binV live op) ga gb)) := xx_bin (Y := X.suite a ((a, oe) :: pn)) hK live ha hb
end
theorem RTs.three {Z : Ent} {p : Pt} {xs : List V} {t u w : T} (h : RTs Z p xs [t, u, w]) : ∃ v1 v2 v3, xs = [v1, v2, v3] ∧ RT Z p v1 t ∧ RT Z p v2 u ∧ RT Z p v3 w := by
  cases h with
  | cons h g =>
    cases g with
    | cons g k =>
      cases k with
      | cons k l => cases l; exact ⟨_, _, _, rfl, h, g, k⟩
/-- a, b, c = x, y, z -/
def sPar3 (i j l : Nat) (da : Da) : Ds := fun Γ μ => Ot.bindS (da Γ μ) Γ fun ts μ1 => match ts with
  | [t, u, w] => some (.nx (((Γ.set i (some t)).set j (some u)).set l (some w)) μ1)
  | _ => none
section
variable {X : Cx} {Z : Ent} {W : Wish} {e1 e2 e3 : Expr} {da : Da} {px py pz pt pos : Pos} {x y z : Str}
theorem xs_par3 {i j l : Nat} {kt k2 pt2} (hc : X.calm = true) (hN : X.N.Nodup) (hi : X.N[i]? = some x) (hj : X.N[j]? = some y) (hl : X.N[l]? = some z) (hij : i ≠ j) (hil : i ≠ l) (hjl : j ≠ l)
    (hx : X.env.scope.names.lookup x = some .local) (hy : X.env.scope.names.lookup y = some .local) (hz : X.env.scope.names.lookup z = some .local) (ha : PA X [e1, e2, e3] (tDA Z W da))
    (hw : swappedStores [.Tuple [.Name x px, .Name y py, .Name z pz] kt pt] (.Tuple [e1, e2, e3] k2 pt2) X.env = pure (some [x, y, z]))
    (hs : swapsWithSole [.Tuple [.Name x px, .Name y py, .Name z pz] kt pt] (.Tuple [e1, e2, e3] k2 pt2) pos.line X.env = pure false) :
    PS X (.Assign [.Tuple [.Name x px, .Name y py, .Name z pz] kt pt] (.Tuple [e1, e2, e3] k2 pt2) pos) (tDS Z W (sPar3 i j l da)) :=
  ps_imp (ps_par3 hc hN hi hj hl hij hil hjl hx hy hz ha hw hs) fun D σ H ⟨p, μ, Γ, s, e, h⟩ => by
    obtain ⟨p', μ', Γ', s', e', h'⟩ := tDA_bindS s e h
    refine ⟨p', μ', Γ', s', e', ?_⟩
    match hg : da Γ' μ', h' with
    | some (.ok t μ1), h' =>
      intro v H' q hl hs hr
      obtain ⟨q1, μ2, t2, l1, s1, e1, r1, k1⟩ := h' v H' q hl hs hr
      split at k1
      · rename_i t u w
        obtain ⟨v1, v2, v3, rfl, h1, h2, h3⟩ := r1.three
        exact ⟨v1, v2, v3, rfl, k1 _ _ q1 (.refl _) s1 (((e1.set h1 _).set h2 _).set h3 _)⟩
      · exact k1.elim
    | some (.exc c t μ1), h' => exact h'
end
end L3

set_option Elab.async false
set_option linter.all false
set_option maxRecDepth 100000
set_option maxHeartbeats 4000000
/-! texts times numbers; tuples cut and put together -/
namespace L3
open PySem PySem.Spec PyProof.Rows L2
/-- a text, n times -/
def mulS (x : Str) (n : Int) : Str := if (n == 1 || x.length == 0) = true then x else ⟨(List.replicate n.toNat x.cps).foldl (· ++ ·) #[]⟩
theorem fold_size (a : Array Nat) : ∀ (k : Nat) (b : Array Nat), ((List.replicate k a).foldl (· ++ ·) b).size = b.size + k * a.size
  | 0, b => by simp
  | k + 1, b => by
    rw [List.replicate_succ, List.foldl_cons, fold_size a k (b ++ a), Array.size_append, Nat.succ_mul]
    omega
section
variable {X : Cx}
theorem lim_mul {z n m : Int} (hm : 1000000 ≤ m) (h0 : 0 ≤ z) (h1 : 1 ≤ n) (h2 : n ≤ 1000) (h3 : z ≤ 1000) : ¬ (z > m / n) := by
  have h4 : z * n ≤ 1000 * 1000 := Int.mul_le_mul h3 h2 (by omega) (by omega)
  have h5 : z ≤ m / n := (Int.le_ediv_iff_mul_le (by omega)).mpr (by omega)
  omega
theorem op_mul_str : OpR X (binaryOp .Mult) (fun x y H Q => ∃ z n, x = .str z ∧ y = .int n ∧ 1 ≤ n ∧ n ≤ 1000 ∧ z.length ≤ 1000 ∧ Q (.str (mulS z n)) H) := by
  intro pins s σ H x y v u Q I rx ry h
  obtain ⟨z, n, rfl, rfl, h1, h2, hz, q⟩ := h
  obtain ⟨t, rfl⟩ := rx
  obtain ⟨t', rfl⟩ := ry
  have hlt : n < 2 ^ 63 := Int.lt_of_le_of_lt h2 (by decide)
  have hgt : ¬ n < -(2 ^ 63 : Int) := fun h => by
    have : (-(2 ^ 63 : Int)) < 1 := by decide
    omega
  have hn : ¬ n < 1 := by omega
  have hmul : z.length * n.toNat ≤ 1000000 := by
    have : n.toNat ≤ 1000 := by omega
    calc z.length * n.toNat ≤ 1000 * 1000 := Nat.mul_le_mul hz this
      _ = 1000000 := rfl
  have hsl : z.length * n.toNat ≤ sizeLine := Nat.le_trans hmul (by rw [sizeLine_eq]; decide)
  refine PySem.P.mul_str (by rw [decide_eq_false hgt, decide_eq_false (by omega : ¬ n ≥ 2 ^ 63)]; rfl) (fun _ _ => lim_mul (by decide) (by omega) h1 h2 (by omega)) (fun _ _ => decide_eq_false (by omega)) ?_
  rw [if_neg hn]
  unfold mulS at q
  split
  · rename_i hc
    rw [if_pos hc] at q
    exact ⟨.str z, H, I, ⟨_, rfl⟩, q⟩
  · rename_i hc
    rw [if_neg hc] at q
    refine ⟨?_, .str _, H, I.tok _, ⟨_, rfl⟩, q⟩
    show ((List.replicate n.toNat z.cps).foldl (· ++ ·) #[]).size ≤ sizeLine
    rw [fold_size]
    have e : z.cps.size = z.length := rfl
    rw [e, Nat.mul_comm]
    simpa using hsl
end
def mulSV (μ : Mu) (a b : T) : Vt := match a, b with
  | .v _ (.str x), .v _ (.int n) => if 1 ≤ n ∧ n ≤ 1000 ∧ x.length ≤ 1000 then some (.v true (.str (mulS x n)), μ) else none
  | _, _ => none
/-- tuples put together, of any length -/
def catTV (μ : Mu) (a b : T) : Vt := match itemsP μ a, itemsP μ b with
  | some (false, ts), some (false, us) => if ts.length + us.length ≤ sizeLine then (if ts = [] then some (b, μ) else if us = [] then some (a, μ) else newU μ (ts ++ us)) else none
  | _, _ => none
/-- a part of a tuple -/
def slTV (μ : Mu) (a : T) (lo hi : Option Int) : Vt := match items μ a with
  | some (false, ts) => if HT.sIx ts.length 0 lo = 0 ∧ HT.sIx ts.length ts.length hi = ts.length then some (a, μ) else newU μ (cutT ts lo hi)
  | _ => none
section
variable {X : Cx} {Z : Ent} {W : Wish} {a b : Expr} {ga gb : De} {pos p2 : Pos}
theorem op_mulSV : OpR X (binaryOp .Mult) (rV2 Z mulSV) := by
  intro pins s σ H x y v u Q I rx ry h
  obtain ⟨p, μ, tx, ty, sr, hx, hy, h⟩ := h
  unfold mulSV at h
  split at h
  · rename_i _ z _ n
    cases hx.str
    cases hy.int
    split at h
    · rename_i hz
      exact op_mul_str pins s σ H _ _ v u Q I rx ry ⟨_, _, rfl, rfl, hz.1, hz.2.1, hz.2.2, VPost.flat sr (Dx.str _) h⟩
    · exact h.elim
  · exact h.elim
theorem VPost.here {p : Pt} {H : Hp} {μ : Mu} {Q : VK} {v : V} {t : T} (s : SR Z p H μ) (r : RT Z p v t) (h : VPost Z Q p (some (t, μ))) : Q v H := h v H p (.refl p) s r
theorem op_catTV (hK : X.K = Z.K) : OpR X (binaryOp .Add) (rV2 Z catTV) := by
  intro pins s σ H x y v u Q I rx ry h
  obtain ⟨p, μ, tx, ty, sr, hx, hy, h⟩ := h
  unfold catTV at h
  split at h
  · rename_i ts us e1 e2
    split at h
    · rename_i hz
      obtain ⟨a, vs, rfl, h1, r1⟩ := itemsP_ok sr hx e1
      obtain ⟨b, ws, rfl, h2, r2⟩ := itemsP_ok sr hy e2
      refine op_catA pins s σ H _ _ v u Q I rx ry ⟨a, b, vs, ws, rfl, rfl, SqT.of h1, SqT.of h2, by rw [r1.length, r2.length]; exact hz, fun z => ?_, fun z z2 => ?_, fun z z2 q n => ?_⟩
      · rw [if_pos (r1.nil_iff.mp z)] at h
        exact VPost.here sr hy h
      · rw [if_neg fun e => z (r1.nil_iff.mpr e), if_pos (r2.nil_iff.mp z2)] at h
        exact VPost.here sr hx h
      · rw [if_neg fun e => z (r1.nil_iff.mpr e), if_neg fun e => z2 (r2.nil_iff.mpr e)] at h
        exact newU_ok sr (r1.append r2) h n
    · exact h.elim
  · exact h.elim
def rSlTV (Z : Ent) : V → Option Int → Option Int → Hp → VK → Prop := fun x lo hi H Q => ∃ (p : Pt) (μ : Mu) (tx : T), SR Z p H μ ∧ RT Z p x tx ∧ VPost Z Q p (slTV μ tx lo hi)
theorem sl_TV (hK : X.K = Z.K) : SlR X (rSlTV Z) := by
  intro pins s σ H x v vl vu lo hi sl Q I rx hs pl pu h
  obtain ⟨p, μ, tx, sr, hx, h⟩ := h
  unfold slTV at h
  split at h
  · rename_i ts hi'
    obtain ⟨a, vs, rfl, h1, h2⟩ := items_ok sr hx hi'
    refine sl_tupA pins s σ H _ v vl vu lo hi sl Q I rx hs pl pu ⟨a, vs, rfl, by rw [hK]; exact h1, fun z => ?_, fun z q n => ?_⟩
    · rw [h2.length] at z
      rw [if_pos z] at h
      exact VPost.here sr hx h
    · rw [h2.length] at z
      rw [if_neg z] at h
      exact newU_ok sr (h2.cut lo hi) h n
  · exact h.elim
theorem xe_mulS (ha : PE X a (tD Z W ga)) (hb : PE X b (tD Z W gb)) : PE X (.BinOp a .Mult b pos) (tD Z W (d2 mulSV ga gb)) :=
  pe_imp (pe_op op_mulSV ha hb) fun _ _ _ h => two h
theorem xe_catT (hK : X.K = Z.K) (ha : PE X a (tD Z W ga)) (hb : PE X b (tD Z W gb)) : PE X (.BinOp a .Add b pos) (tD Z W (d2 catTV ga gb)) :=
  pe_imp (pe_op (op_catTV hK) ha hb) fun _ _ _ h => two h
def dSlT (ga : De) (gl gh : Dp3) : De := fun Γ μ => Ot.bind (ga Γ μ) fun t μ1 => Ot.bind (dPart gl Γ μ1) fun l μ2 => Ot.bind (dPart gh Γ μ2) fun u μ3 => (slTV μ3 t l u).ot
theorem xe_slT (hK : X.K = Z.K) {lo hi : Option Expr} {gl gh : Dp3} (ha : PE X a (tD Z W ga)) (hl : PoD X Z W lo gl) (hh : PoD X Z W hi gh) : PE X (.Subscript a (.Slice lo hi none p2) pos) (tD Z W (dSlT ga gl gh)) := by
  obtain ⟨t1, o1, r1⟩ := po_run hl
  obtain ⟨t2, o2, r2⟩ := po_run hh
  refine pe_imp (pe_slice (sl_TV hK) ha o1 o2) fun σ H Q ⟨p, μ, Γ, s, e, h⟩ => ?_
  obtain ⟨p', μ', Γ', s', e', h'⟩ := tD_bind s e h
  refine ⟨p', μ', Γ', s', e', ?_⟩
  match hg : ga Γ' μ', h' with
  | some (.ok t μ1), h' =>
    intro v H' q hl hs hr
    obtain ⟨q1, μ2, t2, l1, s1, e1, rt, k1⟩ := h' v H' q hl hs hr
    refine r1 σ H' q1 μ2 Γ Q _ _ s1 e1 k1 fun l H1 q2 μ3 l2 s2 e2 k2 => ?_
    refine r2 σ H1 q2 μ3 Γ Q _ _ s2 e2 k2 fun u H2 q3 μ4 l3 s3 e3 k3 => ?_
    exact ⟨q3, μ4, t2, s3, (rt.mono l2).mono l3, VPost.post k3⟩
  | some (.exc c t μ1), h' => exact h'
end
end L3

namespace Qk18
open PySem PySem.Spec PyProof.Rows L2 L3
/-- the text by places -/
def top (i : Nat) : Stmt := PySem.Challenge.pw_lookcrowd_k18_errors_of_books.main.body.getD i (.Pass ⟨0, 0, 0, 0⟩)
abbrev s_law_mill : Stmt := top 18
abbrev s_law_grind : Stmt := top 19
abbrev s_law_tribes : Stmt := top 20
abbrev s_law_manual : Stmt := top 21
abbrev s_law_no_name : Stmt := top 26
abbrev s_law_spoilt : Stmt := top 30
abbrev s_ErrInit : Stmt := inClass (top 2) 0
abbrev s_is_name : Stmt := top 12
abbrev s_check_names : Stmt := top 11
abbrev s_check_rule : Stmt := top 14
abbrev s_check_rules : Stmt := top 13
abbrev s_move_of : Stmt := top 15
abbrev s_Book_init : Stmt := inClass (top 10) 0
abbrev s_law_caught : Stmt := top 28
abbrev s_law_is_word : Stmt := top 27
abbrev s_law_due : Stmt := top 29
abbrev s_law_right : Stmt := top 31
abbrev s_law : Stmt := top 32
/-- what the top has left -/
structure Tx (K : PySem.W.Frag) (mg : Str → Option Value) where
  a_law_mill : Addr
  f_law_mill : FuncData
  F_law_mill : Fun K "_law_mill" "_law_mill" s_law_mill a_law_mill f_law_mill
  b_law_mill : Binds K f_law_mill ["script", "place"] []
  m_law_mill : mg "_law_mill" = some (.ref a_law_mill)
  k_law_mill : PySem.W.keepIn K (.ref a_law_mill) = true
  a_law_grind : Addr
  f_law_grind : FuncData
  F_law_grind : Fun K "_law_grind" "_law_grind" s_law_grind a_law_grind f_law_grind
  b_law_grind : Binds K f_law_grind ["mill", "count"] []
  m_law_grind : mg "_law_grind" = some (.ref a_law_grind)
  k_law_grind : PySem.W.keepIn K (.ref a_law_grind) = true
  a_law_tribes : Addr
  f_law_tribes : FuncData
  F_law_tribes : Fun K "_law_tribes" "_law_tribes" s_law_tribes a_law_tribes f_law_tribes
  b_law_tribes : Binds K f_law_tribes ["mill", "count"] []
  m_law_tribes : mg "_law_tribes" = some (.ref a_law_tribes)
  k_law_tribes : PySem.W.keepIn K (.ref a_law_tribes) = true
  a_law_manual : Addr
  f_law_manual : FuncData
  F_law_manual : Fun K "_law_manual" "_law_manual" s_law_manual a_law_manual f_law_manual
  b_law_manual : Binds K f_law_manual ["mill", "most", "count"] []
  m_law_manual : mg "_law_manual" = some (.ref a_law_manual)
  k_law_manual : PySem.W.keepIn K (.ref a_law_manual) = true
  a_law_no_name : Addr
  f_law_no_name : FuncData
  F_law_no_name : Fun K "_law_no_name" "_law_no_name" s_law_no_name a_law_no_name f_law_no_name
  b_law_no_name : Binds K f_law_no_name ["mill", "kinds_here"] []
  m_law_no_name : mg "_law_no_name" = some (.ref a_law_no_name)
  k_law_no_name : PySem.W.keepIn K (.ref a_law_no_name) = true
  a_law_spoilt : Addr
  f_law_spoilt : FuncData
  F_law_spoilt : Fun K "_law_spoilt" "_law_spoilt" s_law_spoilt a_law_spoilt f_law_spoilt
  b_law_spoilt : Binds K f_law_spoilt ["mill", "kinds_here", "rules_here"] []
  m_law_spoilt : mg "_law_spoilt" = some (.ref a_law_spoilt)
  k_law_spoilt : PySem.W.keepIn K (.ref a_law_spoilt) = true
  a_ErrInit : Addr
  f_ErrInit : FuncData
  F_ErrInit : Fun K "__init__" "CrowdError.__init__" s_ErrInit a_ErrInit f_ErrInit
  b_ErrInit : Binds K f_ErrInit ["self", "value"] []
  a_is_name : Addr
  f_is_name : FuncData
  F_is_name : Fun K "is_name" "is_name" s_is_name a_is_name f_is_name
  b_is_name : Binds K f_is_name ["name"] []
  m_is_name : mg "is_name" = some (.ref a_is_name)
  k_is_name : PySem.W.keepIn K (.ref a_is_name) = true
  a_check_names : Addr
  f_check_names : FuncData
  F_check_names : Fun K "check_names" "check_names" s_check_names a_check_names f_check_names
  b_check_names : Binds K f_check_names ["kinds"] []
  m_check_names : mg "check_names" = some (.ref a_check_names)
  k_check_names : PySem.W.keepIn K (.ref a_check_names) = true
  a_check_rule : Addr
  f_check_rule : FuncData
  F_check_rule : Fun K "check_rule" "check_rule" s_check_rule a_check_rule f_check_rule
  b_check_rule : Binds K f_check_rule ["kinds", "rule"] []
  m_check_rule : mg "check_rule" = some (.ref a_check_rule)
  k_check_rule : PySem.W.keepIn K (.ref a_check_rule) = true
  a_check_rules : Addr
  f_check_rules : FuncData
  F_check_rules : Fun K "check_rules" "check_rules" s_check_rules a_check_rules f_check_rules
  b_check_rules : Binds K f_check_rules ["kinds", "rules"] []
  m_check_rules : mg "check_rules" = some (.ref a_check_rules)
  k_check_rules : PySem.W.keepIn K (.ref a_check_rules) = true
  a_move_of : Addr
  f_move_of : FuncData
  F_move_of : Fun K "move_of" "move_of" s_move_of a_move_of f_move_of
  b_move_of : Binds K f_move_of ["kinds", "rule"] []
  m_move_of : mg "move_of" = some (.ref a_move_of)
  k_move_of : PySem.W.keepIn K (.ref a_move_of) = true
  a_Book_init : Addr
  f_Book_init : FuncData
  F_Book_init : Fun K "__init__" "Book.__init__" s_Book_init a_Book_init f_Book_init
  b_Book_init : Binds K f_Book_init ["self", "kinds", "rules"] []
  a_law_caught : Addr
  f_law_caught : FuncData
  F_law_caught : Fun K "_law_caught" "_law_caught" s_law_caught a_law_caught f_law_caught
  b_law_caught : Binds K f_law_caught ["kinds_here", "rules_here", "way"] []
  m_law_caught : mg "_law_caught" = some (.ref a_law_caught)
  k_law_caught : PySem.W.keepIn K (.ref a_law_caught) = true
  a_law_is_word : Addr
  f_law_is_word : FuncData
  F_law_is_word : Fun K "_law_is_word" "_law_is_word" s_law_is_word a_law_is_word f_law_is_word
  b_law_is_word : Binds K f_law_is_word ["text"] []
  m_law_is_word : mg "_law_is_word" = some (.ref a_law_is_word)
  k_law_is_word : PySem.W.keepIn K (.ref a_law_is_word) = true
  a_law_due : Addr
  f_law_due : FuncData
  F_law_due : Fun K "_law_due" "_law_due" s_law_due a_law_due f_law_due
  b_law_due : Binds K f_law_due ["kinds_here", "rules_here"] []
  m_law_due : mg "_law_due" = some (.ref a_law_due)
  k_law_due : PySem.W.keepIn K (.ref a_law_due) = true
  a_law_right : Addr
  f_law_right : FuncData
  F_law_right : Fun K "_law_right" "_law_right" s_law_right a_law_right f_law_right
  b_law_right : Binds K f_law_right ["mill"] []
  m_law_right : mg "_law_right" = some (.ref a_law_right)
  k_law_right : PySem.W.keepIn K (.ref a_law_right) = true
  a_law : Addr
  f_law : FuncData
  F_law : Fun K "law" "law" s_law a_law f_law
  b_law : Binds K f_law ["script"] []
  m_law : mg "law" = some (.ref a_law)
  k_law : PySem.W.keepIn K (.ref a_law) = true
  a_CrowdError : Addr
  a_InvalidName : Addr
  a_DoubleName : Addr
  a_InvalidRule : Addr
  a_DoubleRule : Addr
  m_CrowdError : mg "CrowdError" = some (.ref a_CrowdError)
  e_CrowdError : ErrC K a_CrowdError
  x_CrowdError : PySem.W.exmOne K (.ref a_CrowdError) (.ref a_CrowdError) = some true
  ic_CrowdError : PySem.W.findIn K (.ref a_CrowdError) "__init__" = some (some (.ref a_ErrInit))
  kit_CrowdError_DoubleName : PySem.W.kitOne K (.ref a_CrowdError) (.ref a_DoubleName) = some false
  kit_CrowdError_DoubleRule : PySem.W.kitOne K (.ref a_CrowdError) (.ref a_DoubleRule) = some false
  kit_CrowdError_InvalidName : PySem.W.kitOne K (.ref a_CrowdError) (.ref a_InvalidName) = some false
  kit_CrowdError_InvalidRule : PySem.W.kitOne K (.ref a_CrowdError) (.ref a_InvalidRule) = some false
  m_InvalidName : mg "InvalidName" = some (.ref a_InvalidName)
  e_InvalidName : ErrC K a_InvalidName
  x_InvalidName : PySem.W.exmOne K (.ref a_InvalidName) (.ref a_CrowdError) = some true
  ic_InvalidName : PySem.W.findIn K (.ref a_InvalidName) "__init__" = some (some (.ref a_ErrInit))
  kit_InvalidName_DoubleName : PySem.W.kitOne K (.ref a_InvalidName) (.ref a_DoubleName) = some false
  kit_InvalidName_DoubleRule : PySem.W.kitOne K (.ref a_InvalidName) (.ref a_DoubleRule) = some false
  kit_InvalidName_InvalidName : PySem.W.kitOne K (.ref a_InvalidName) (.ref a_InvalidName) = some true
  kit_InvalidName_InvalidRule : PySem.W.kitOne K (.ref a_InvalidName) (.ref a_InvalidRule) = some false
  m_DoubleName : mg "DoubleName" = some (.ref a_DoubleName)
  e_DoubleName : ErrC K a_DoubleName
  x_DoubleName : PySem.W.exmOne K (.ref a_DoubleName) (.ref a_CrowdError) = some true
  ic_DoubleName : PySem.W.findIn K (.ref a_DoubleName) "__init__" = some (some (.ref a_ErrInit))
  kit_DoubleName_DoubleName : PySem.W.kitOne K (.ref a_DoubleName) (.ref a_DoubleName) = some true
  kit_DoubleName_DoubleRule : PySem.W.kitOne K (.ref a_DoubleName) (.ref a_DoubleRule) = some false
  kit_DoubleName_InvalidName : PySem.W.kitOne K (.ref a_DoubleName) (.ref a_InvalidName) = some false
  kit_DoubleName_InvalidRule : PySem.W.kitOne K (.ref a_DoubleName) (.ref a_InvalidRule) = some false
  m_InvalidRule : mg "InvalidRule" = some (.ref a_InvalidRule)
  e_InvalidRule : ErrC K a_InvalidRule
  x_InvalidRule : PySem.W.exmOne K (.ref a_InvalidRule) (.ref a_CrowdError) = some true
  ic_InvalidRule : PySem.W.findIn K (.ref a_InvalidRule) "__init__" = some (some (.ref a_ErrInit))
  kit_InvalidRule_DoubleName : PySem.W.kitOne K (.ref a_InvalidRule) (.ref a_DoubleName) = some false
  kit_InvalidRule_DoubleRule : PySem.W.kitOne K (.ref a_InvalidRule) (.ref a_DoubleRule) = some false
  kit_InvalidRule_InvalidName : PySem.W.kitOne K (.ref a_InvalidRule) (.ref a_InvalidName) = some false
  kit_InvalidRule_InvalidRule : PySem.W.kitOne K (.ref a_InvalidRule) (.ref a_InvalidRule) = some true
  m_DoubleRule : mg "DoubleRule" = some (.ref a_DoubleRule)
  e_DoubleRule : ErrC K a_DoubleRule
  x_DoubleRule : PySem.W.exmOne K (.ref a_DoubleRule) (.ref a_CrowdError) = some true
  ic_DoubleRule : PySem.W.findIn K (.ref a_DoubleRule) "__init__" = some (some (.ref a_ErrInit))
  kit_DoubleRule_DoubleName : PySem.W.kitOne K (.ref a_DoubleRule) (.ref a_DoubleName) = some false
  kit_DoubleRule_DoubleRule : PySem.W.kitOne K (.ref a_DoubleRule) (.ref a_DoubleRule) = some true
  kit_DoubleRule_InvalidName : PySem.W.kitOne K (.ref a_DoubleRule) (.ref a_InvalidName) = some false
  kit_DoubleRule_InvalidRule : PySem.W.kitOne K (.ref a_DoubleRule) (.ref a_InvalidRule) = some false
  ti_ErrInit : PySem.W.typeIn K (.ref a_ErrInit) = some (.type "function")
  a_Book : Addr
  m_Book : mg "Book" = some (.ref a_Book)
  c_Book : Cls K a_Book
  i_Book : IsC K a_Book
  mk_Book : Mk K a_Book a_Book_init
  n_Book_kinds : NoAttr K a_Book "_kinds"
  n_Book_moves : NoAttr K a_Book "_moves"
  t_LETTERS : Tok
  m_LETTERS : mg "LETTERS" = some (.str "abcdefghijklmnopqrstuvwxyz" t_LETTERS)
  t_LONGEST : Tok
  m_LONGEST : mg "LONGEST" = some (.int 8 t_LONGEST)
  z_abs : mg "abs" = none
  z_all : mg "all" = none
  z_enumerate : mg "enumerate" = none
  z_int : mg "int" = none
  z_isinstance : mg "isinstance" = none
  z_len : mg "len" = none
  z_list : mg "list" = none
  z_max : mg "max" = none
  z_min : mg "min" = none
  z_range : mg "range" = none
  z_repr : mg "repr" = none
  z_sorted : mg "sorted" = none
  kb_Book_init_10 : KB K f_Book_init ["self", "kinds", "rules"] ["rules", "kinds"] 1 [1, 0]
section
variable {P : Program} {w : World} {K : PySem.W.Frag} {mg : Str → Option Value} {base : Heap}
def Tx.tab (T : Tx K mg) : Tab := ⟨fun c => match c with
  | 0 => some (T.a_Book, ["_kinds", "_moves"])
  | _ => none, fun c => match c with
  | 0 => some T.a_CrowdError
  | 1 => some T.a_InvalidName
  | 2 => some T.a_DoubleName
  | 3 => some T.a_InvalidRule
  | 4 => some T.a_DoubleRule
  | _ => none⟩
theorem Tx.errs (T : Tx K mg) : ∀ (c : Nat) (C : Addr), T.tab.exc c = some C → ErrC K C := fun c C h => match c, h with
  | 0, h => by cases h; exact T.e_CrowdError
  | 1, h => by cases h; exact T.e_InvalidName
  | 2, h => by cases h; exact T.e_DoubleName
  | 3, h => by cases h; exact T.e_InvalidRule
  | 4, h => by cases h; exact T.e_DoubleRule
  | _ + 5, h => nomatch h
theorem Tx.exm (T : Tx K mg) : ∀ (c : Nat) (C : Addr), T.tab.exc c = some C → PySem.W.exmOne K (.ref C) (.ref T.a_CrowdError) = some true := fun c C h => match c, h with
  | 0, h => by cases h; exact T.x_CrowdError
  | 1, h => by cases h; exact T.x_InvalidName
  | 2, h => by cases h; exact T.x_DoubleName
  | 3, h => by cases h; exact T.x_InvalidRule
  | 4, h => by cases h; exact T.x_DoubleRule
  | _ + 5, h => nomatch h
theorem Tx.kit_DoubleName (T : Tx K mg) : ∀ (c : Nat) (C : Addr), T.tab.exc c = some C → PySem.W.kitOne K (.ref C) (.ref T.a_DoubleName) = some (exIs c 2) := fun c C h => match c, h with
  | 0, h => by cases h; exact T.kit_CrowdError_DoubleName
  | 1, h => by cases h; exact T.kit_InvalidName_DoubleName
  | 2, h => by cases h; exact T.kit_DoubleName_DoubleName
  | 3, h => by cases h; exact T.kit_InvalidRule_DoubleName
  | 4, h => by cases h; exact T.kit_DoubleRule_DoubleName
  | _ + 5, h => nomatch h
theorem Tx.kit_DoubleRule (T : Tx K mg) : ∀ (c : Nat) (C : Addr), T.tab.exc c = some C → PySem.W.kitOne K (.ref C) (.ref T.a_DoubleRule) = some (exIs c 4) := fun c C h => match c, h with
  | 0, h => by cases h; exact T.kit_CrowdError_DoubleRule
  | 1, h => by cases h; exact T.kit_InvalidName_DoubleRule
  | 2, h => by cases h; exact T.kit_DoubleName_DoubleRule
  | 3, h => by cases h; exact T.kit_InvalidRule_DoubleRule
  | 4, h => by cases h; exact T.kit_DoubleRule_DoubleRule
  | _ + 5, h => nomatch h
theorem Tx.kit_InvalidName (T : Tx K mg) : ∀ (c : Nat) (C : Addr), T.tab.exc c = some C → PySem.W.kitOne K (.ref C) (.ref T.a_InvalidName) = some (exIs c 1) := fun c C h => match c, h with
  | 0, h => by cases h; exact T.kit_CrowdError_InvalidName
  | 1, h => by cases h; exact T.kit_InvalidName_InvalidName
  | 2, h => by cases h; exact T.kit_DoubleName_InvalidName
  | 3, h => by cases h; exact T.kit_InvalidRule_InvalidName
  | 4, h => by cases h; exact T.kit_DoubleRule_InvalidName
  | _ + 5, h => nomatch h
theorem Tx.kit_InvalidRule (T : Tx K mg) : ∀ (c : Nat) (C : Addr), T.tab.exc c = some C → PySem.W.kitOne K (.ref C) (.ref T.a_InvalidRule) = some (exIs c 3) := fun c C h => match c, h with
  | 0, h => by cases h; exact T.kit_CrowdError_InvalidRule
  | 1, h => by cases h; exact T.kit_InvalidName_InvalidRule
  | 2, h => by cases h; exact T.kit_DoubleName_InvalidRule
  | 3, h => by cases h; exact T.kit_InvalidRule_InvalidRule
  | 4, h => by cases h; exact T.kit_DoubleRule_InvalidRule
  | _ + 5, h => nomatch h
theorem sc_ErrInit : FnScope ["self", "value"] ["self", "value"] (defScope s_ErrInit) := ⟨rfl, rfl, rfl, by decide +kernel, rfl, by decide +kernel, by decide +kernel⟩
/-- _law_mill -/
noncomputable def b_law_mill (m0 : Nat) : Ds := (sSeq (sSet 2 (dAtm (.int 0))) (sSeq (sIf (bOf (d2 (cmpVt .Lt) (dVar 1) (dBi lenV (aCons (dVar 0) aNil)))) (sSet 2 (d2 ixV (dVar 0) (dVar 1))) sNil) (sSeq (sSet 3 (dAtm (.int 0))) (sSeq (sIf (bOf (d2 (cmpVt .Gt) (dVar 2) (d2 (binV false .Pow) (dAtm (.int 10)) (dAtm (.int 12))))) (sSet 3 (d2 (binV false .FloorDiv) (dVar 2) (dAtm (.int 2)))) sNil) (sRet (dLst true (aCons (dVar 3) (aCons (d2 (binV false .Add) (d2 (binV false .Mult) (dAtm (.int 40692)) (d2 (binV false .Add) (dVar 1) (dAtm (.int 1)))) (d2 (binV false .Mod) (dBi intV (aCons (dBi absV (aCons (dVar 2) aNil)) aNil)) (dAtm (.int 1000000000000037)))) aNil))))))))
noncomputable def d_law_mill : List T → Mu → Ot T := defD 2 4 b_law_mill
theorem sc_law_mill : FnScope ["script", "place", "cell", "left"] ["script", "place"] (defScope s_law_mill) := ⟨rfl, rfl, rfl, by decide +kernel, rfl, by decide +kernel, by decide +kernel⟩
theorem ok_law_mill (T : Tx K mg) : FnG P w K mg base 1 T.a_law_mill T.f_law_mill ["script", "place"] (spD K T.tab d_law_mill 2) :=
  fnD (N := ["script", "place", "cell", "left"]) (g := b_law_mill) T.F_law_mill sc_law_mill (fun cdv A outer s H E Z hK hT B => by
    obtain ⟨K1, TB1, Hz, F0, ms0⟩ := Z
    obtain rfl : K1 = K := hK
    obtain rfl : TB1 = T.tab := hT
    exact (xss_cons (xs_set B.toBe.nd rfl (Or.inl rfl) (xe_atm pe_int (fun _ => Dx.int _)) rfl (Or.inl rfl)) (xss_cons (xs_if (xt_cmp B.toBe.hK B.toBe.hu (xe_var rfl (Or.inl rfl) rfl rfl) (xe_bi (call_lenV B.toBe.hK) rfl T.z_len rfl (xa_cons (xe_var rfl (Or.inl rfl) rfl rfl) xa_nil rfl) (by decide) rfl rfl rfl) (nomark _)) (xss_one (xs_set B.toBe.nd rfl (Or.inl rfl) (xe_ix B.toBe.hK (xe_var rfl (Or.inl rfl) rfl rfl) (xe_var rfl (Or.inl rfl) rfl rfl) (fun _ _ => rfl)) rfl (Or.inl rfl))) xss_nil) (xss_cons (xs_set B.toBe.nd rfl (Or.inl rfl) (xe_atm pe_int (fun _ => Dx.int _)) rfl (Or.inl rfl)) (xss_cons (xs_if (xt_cmp B.toBe.hK B.toBe.hu (xe_var rfl (Or.inl rfl) rfl rfl) (xe_bin B.toBe.hK false (xe_atm pe_int (fun _ => Dx.int _)) (xe_atm pe_int (fun _ => Dx.int _))) (nomark _)) (xss_one (xs_set B.toBe.nd rfl (Or.inl rfl) (xe_bin B.toBe.hK false (xe_var rfl (Or.inl rfl) rfl rfl) (xe_atm pe_int (fun _ => Dx.int _))) rfl (Or.inl rfl))) xss_nil) (xss_one (xs_ret (xe_lst true (xa_cons (xe_var rfl (Or.inl rfl) rfl rfl) (xa_cons (xe_bin B.toBe.hK false (xe_bin B.toBe.hK false (xe_atm pe_int (fun _ => Dx.int _)) (xe_bin B.toBe.hK false (xe_var rfl (Or.inl rfl) rfl rfl) (xe_atm pe_int (fun _ => Dx.int _)))) (xe_bin B.toBe.hK false (xe_ty call_intV rfl T.z_int rfl (xa_cons (xe_bi call_absV rfl T.z_abs rfl (xa_cons (xe_var rfl (Or.inl rfl) rfl rfl) xa_nil rfl) (by decide) rfl rfl rfl) xa_nil rfl) (by decide) rfl rfl rfl) (xe_atm pe_int (fun _ => Dx.int _)))) xa_nil rfl) rfl)))))))))
/-- _law_grind -/
noncomputable def b_law_grind (m0 : Nat) : Ds := (sSeq (sIf (bOf (d2 (cmpVt .Gt) (d2 ixV (dVar 0) (dAtm (.int 0))) (dAtm (.int 0)))) (sSeq (sSet 2 (d2 (binV false .Mod) (dBi intV (aCons (d2 ixV (dVar 0) (dAtm (.int 0))) aNil)) (dVar 1))) (sSeq (sPutD (dVar 0) (dAtm (.int 0)) (d2 (binV false .FloorDiv) (d2 ixV (dVar 0) (dAtm (.int 0))) (dVar 1))) (sRet (dVar 2)))) sNil) (sSeq (sPutD (dVar 0) (dAtm (.int 1)) (d2 (binV false .Mod) (dBi intV (aCons (d2 (binV false .Add) (d2 (binV false .Mult) (d2 ixV (dVar 0) (dAtm (.int 1))) (dAtm (.int 6364136223846793005))) (dAtm (.int 1442695040888963407))) aNil)) (dAtm (.int 18446744073709551616)))) (sRet (d2 (binV true .Mod) (dBi intV (aCons (d2 (binV false .FloorDiv) (d2 ixV (dVar 0) (dAtm (.int 1))) (dAtm (.int 8589934592))) aNil)) (dVar 1)))))
noncomputable def d_law_grind : List T → Mu → Ot T := defD 2 3 b_law_grind
theorem sc_law_grind : FnScope ["mill", "count", "drop"] ["mill", "count"] (defScope s_law_grind) := ⟨rfl, rfl, rfl, by decide +kernel, rfl, by decide +kernel, by decide +kernel⟩
theorem ok_law_grind (T : Tx K mg) : FnG P w K mg base 1 T.a_law_grind T.f_law_grind ["mill", "count"] (spD K T.tab d_law_grind 2) :=
  fnD (N := ["mill", "count", "drop"]) (g := b_law_grind) T.F_law_grind sc_law_grind (fun cdv A outer s H E Z hK hT B => by
    obtain ⟨K1, TB1, Hz, F0, ms0⟩ := Z
    obtain rfl : K1 = K := hK
    obtain rfl : TB1 = T.tab := hT
    exact (xss_cons (xs_if (xt_cmp B.toBe.hK B.toBe.hu (xe_ix B.toBe.hK (xe_var rfl (Or.inl rfl) rfl rfl) (xe_atm pe_int (fun _ => Dx.int _)) (fun _ _ => rfl)) (xe_atm pe_int (fun _ => Dx.int _)) (nomark _)) (xss_cons (xs_set B.toBe.nd rfl (Or.inl rfl) (xe_bin B.toBe.hK false (xe_ty call_intV rfl T.z_int rfl (xa_cons (xe_ix B.toBe.hK (xe_var rfl (Or.inl rfl) rfl rfl) (xe_atm pe_int (fun _ => Dx.int _)) (fun _ _ => rfl)) xa_nil rfl) (by decide) rfl rfl rfl) (xe_var rfl (Or.inl rfl) rfl rfl)) rfl (Or.inl rfl)) (xss_cons (xs_put (xe_var rfl (Or.inl rfl) rfl rfl) (xe_atm pe_int (fun _ => Dx.int _)) (xe_bin B.toBe.hK false (xe_ix B.toBe.hK (xe_var rfl (Or.inl rfl) rfl rfl) (xe_atm pe_int (fun _ => Dx.int _)) (fun _ _ => rfl)) (xe_var rfl (Or.inl rfl) rfl rfl)) (fun _ => rfl) rfl rfl rfl) (xss_one (xs_ret (xe_var rfl (Or.inl rfl) rfl rfl))))) xss_nil) (xss_cons (xs_put (xe_var rfl (Or.inl rfl) rfl rfl) (xe_atm pe_int (fun _ => Dx.int _)) (xe_bin B.toBe.hK false (xe_ty call_intV rfl T.z_int rfl (xa_cons (xe_bin B.toBe.hK false (xe_bin B.toBe.hK false (xe_ix B.toBe.hK (xe_var rfl (Or.inl rfl) rfl rfl) (xe_atm pe_int (fun _ => Dx.int _)) (fun _ _ => rfl)) (xe_atm pe_int (fun _ => Dx.int _))) (xe_atm pe_int (fun _ => Dx.int _))) xa_nil rfl) (by decide) rfl rfl rfl) (xe_atm pe_int (fun _ => Dx.int _))) (fun _ => rfl) rfl rfl rfl) (xss_one (xs_ret (xe_bin B.toBe.hK true (xe_ty call_intV rfl T.z_int rfl (xa_cons (xe_bin B.toBe.hK false (xe_ix B.toBe.hK (xe_var rfl (Or.inl rfl) rfl rfl) (xe_atm pe_int (fun _ => Dx.int _)) (fun _ _ => rfl)) (xe_atm pe_int (fun _ => Dx.int _))) xa_nil rfl) (by decide) rfl rfl rfl) (xe_var rfl (Or.inl rfl) rfl rfl)))))))
/-- _law_tribes -/
noncomputable def b_law_tribes (m0 : Nat) : Ds := (sSeq (sSet 2 (dLst true (aCons (dLst false (aCons (dAtm (.str "a")) (aCons (dAtm (.str "b")) (aCons (dAtm (.str "c")) (aCons (dAtm (.str "d")) (aCons (dAtm (.str "e")) (aCons (dAtm (.str "f")) (aCons (dAtm (.str "g")) (aCons (dAtm (.str "h")) aNil))))))))) aNil))) (sSeq (sExp (dMt appV (dVar 2) (aCons (dLst false (aCons (dAtm (.str "red")) (aCons (dAtm (.str "blue")) (aCons (dAtm (.str "re")) (aCons (dAtm (.str "bluer")) (aCons (dAtm (.str "r")) (aCons (dAtm (.str "b")) (aCons (dAtm (.str "redred")) (aCons (dAtm (.str "blu")) aNil))))))))) aNil))) (sSeq (sExp (dMt appV (dVar 2) (aCons (dLst false (aCons (dAtm (.str "kind")) (aCons (dAtm (.str "kinds")) (aCons (dAtm (.str "sees")) (aCons (dAtm (.str "seesaw")) (aCons (dAtm (.str "ab")) (aCons (dAtm (.str "ba")) (aCons (dAtm (.str "abcdefgh")) (aCons (dAtm (.str "abcdefgz")) aNil))))))))) aNil))) (sSeq (sPar 3 4 (aCons (dBi (listV true) (aCons (d2 ixV (dVar 2) (dCall d_law_grind 2 false [true, false] (aCons (dVar 0) (aCons (dAtm (.int 3)) aNil)))) aNil)) (aCons (dLst true aNil) aNil))) (sSeq (sFor (iRng1D (aCons (dVar 1) aNil)) (gNm 5) (sExp (dMt appV (dVar 4) (aCons (dMt popV (dVar 3) (aCons (dCall d_law_grind 2 false [true, false] (aCons (dVar 0) (aCons (dBi lenV (aCons (dVar 3) aNil)) aNil))) aNil)) aNil)))) (sRet (dVar 4)))))))
noncomputable def d_law_tribes : List T → Mu → Ot T := defD 2 6 b_law_tribes
theorem sc_law_tribes : FnScope ["mill", "count", "rows_here", "left", "found", "turn"] ["mill", "count"] (defScope s_law_tribes) := ⟨rfl, rfl, rfl, by decide +kernel, rfl, by decide +kernel, by decide +kernel⟩
theorem ok_law_tribes (T : Tx K mg) : FnG P w K mg base 2 T.a_law_tribes T.f_law_tribes ["mill", "count"] (spD K T.tab d_law_tribes 2) :=
  fnD (N := ["mill", "count", "rows_here", "left", "found", "turn"]) (g := b_law_tribes) T.F_law_tribes sc_law_tribes (fun cdv A outer s H E Z hK hT B => by
    obtain ⟨K1, TB1, Hz, F0, ms0⟩ := Z
    obtain rfl : K1 = K := hK
    obtain rfl : TB1 = T.tab := hT
    exact (xss_cons (xs_set B.toBe.nd rfl (Or.inl rfl) (xe_lst true (xa_cons (xe_lst false (xa_cons (xe_atm pe_str (fun _ => Dx.str _)) (xa_cons (xe_atm pe_str (fun _ => Dx.str _)) (xa_cons (xe_atm pe_str (fun _ => Dx.str _)) (xa_cons (xe_atm pe_str (fun _ => Dx.str _)) (xa_cons (xe_atm pe_str (fun _ => Dx.str _)) (xa_cons (xe_atm pe_str (fun _ => Dx.str _)) (xa_cons (xe_atm pe_str (fun _ => Dx.str _)) (xa_cons (xe_atm pe_str (fun _ => Dx.str _)) xa_nil rfl) rfl) rfl) rfl) rfl) rfl) rfl) rfl)) xa_nil rfl)) rfl (Or.inl rfl)) (xss_cons (xs_exp (xe_mt B.toBe.hK PySem.F.slot_list_append PySem.F.type_list_append mt_app (xe_var rfl (Or.inl rfl) rfl rfl) (xa_cons (xe_lst false (xa_cons (xe_atm pe_str (fun _ => Dx.str _)) (xa_cons (xe_atm pe_str (fun _ => Dx.str _)) (xa_cons (xe_atm pe_str (fun _ => Dx.str _)) (xa_cons (xe_atm pe_str (fun _ => Dx.str _)) (xa_cons (xe_atm pe_str (fun _ => Dx.str _)) (xa_cons (xe_atm pe_str (fun _ => Dx.str _)) (xa_cons (xe_atm pe_str (fun _ => Dx.str _)) (xa_cons (xe_atm pe_str (fun _ => Dx.str _)) xa_nil rfl) rfl) rfl) rfl) rfl) rfl) rfl) rfl)) xa_nil rfl) rfl rfl rfl rfl rfl) rfl) (xss_cons (xs_exp (xe_mt B.toBe.hK PySem.F.slot_list_append PySem.F.type_list_append mt_app (xe_var rfl (Or.inl rfl) rfl rfl) (xa_cons (xe_lst false (xa_cons (xe_atm pe_str (fun _ => Dx.str _)) (xa_cons (xe_atm pe_str (fun _ => Dx.str _)) (xa_cons (xe_atm pe_str (fun _ => Dx.str _)) (xa_cons (xe_atm pe_str (fun _ => Dx.str _)) (xa_cons (xe_atm pe_str (fun _ => Dx.str _)) (xa_cons (xe_atm pe_str (fun _ => Dx.str _)) (xa_cons (xe_atm pe_str (fun _ => Dx.str _)) (xa_cons (xe_atm pe_str (fun _ => Dx.str _)) xa_nil rfl) rfl) rfl) rfl) rfl) rfl) rfl) rfl)) xa_nil rfl) rfl rfl rfl rfl rfl) rfl) (xss_cons (xs_par B.toBe.calm B.toBe.nd rfl rfl (by decide) rfl rfl (xa_cons (xe_ty (call_listV B.toBe.hK true) rfl T.z_list rfl (xa_cons (xe_ix B.toBe.hK (xe_var rfl (Or.inl rfl) rfl rfl) (xe_call false [true, false] B.toBe ((ok_law_grind T).mono (by decide)) rfl T.m_law_grind T.k_law_grind T.b_law_grind (xa_cons (xe_var rfl (Or.inl rfl) rfl rfl) (xa_cons (xe_atm pe_int (fun _ => Dx.int _)) xa_nil rfl) rfl) rfl rfl rfl rfl) (fun _ _ => rfl)) xa_nil rfl) (by decide) rfl rfl rfl) (xa_cons (xe_lst true xa_nil) xa_nil rfl) rfl) rfl rfl) (xss_cons (xs_for B.own B.toBe.calm (xi_rng1 rfl T.z_range (xa_cons (xe_var rfl (Or.inl rfl) rfl rfl) xa_nil rfl) rfl) (xg_nm B.toBe.nd rfl (Or.inl rfl) (Or.inl rfl)) (xss_one (xs_exp (xe_mt B.toBe.hK PySem.F.slot_list_append PySem.F.type_list_append mt_app (xe_var rfl (Or.inl rfl) rfl rfl) (xa_cons (xe_mt B.toBe.hK PySem.F.slot_list_pop PySem.F.type_list_pop mt_popV (xe_var rfl (Or.inl rfl) rfl rfl) (xa_cons (xe_call false [true, false] B.toBe ((ok_law_grind T).mono (by decide)) rfl T.m_law_grind T.k_law_grind T.b_law_grind (xa_cons (xe_var rfl (Or.inl rfl) rfl rfl) (xa_cons (xe_bi (call_lenV B.toBe.hK) rfl T.z_len rfl (xa_cons (xe_var rfl (Or.inl rfl) rfl rfl) xa_nil rfl) (by decide) rfl rfl rfl) xa_nil rfl) rfl) rfl rfl rfl rfl) xa_nil rfl) rfl rfl rfl rfl rfl) xa_nil rfl) rfl rfl rfl rfl rfl) rfl)) (fun _ => rfl)) (xss_one (xs_ret (xe_var rfl (Or.inl rfl) rfl rfl)))))))))
/-- _law_manual -/
noncomputable def b_law_manual (m0 : Nat) : Ds := (sSeq (sPar 3 4 (aCons (dFrz m0 (dCall d_law_tribes 2 false [true, false] (aCons (dVar 0) (aCons (d2 (binV false .Add) (dAtm (.int 1)) (dCall d_law_grind 2 false [true, false] (aCons (dVar 0) (aCons (dVar 1) aNil)))) aNil)))) (aCons (dLst true aNil) aNil))) (sSeq (sSet 5 (dLst true aNil)) (sSeq (sFor (iSeq true (dVar 3)) (gNm 6) (sFor (iSeq true (dVar 3)) (gNm 7) (sSet 5 (d2 (binV true .Add) (dVar 5) (dLc false m0 (iSeq true (dVar 3)) (gNm 8) (bOf (d2 (cmpVt .NotEq) (dVar 8) (dVar 6))) (dTup (aCons (dVar 6) (aCons (dVar 7) (aCons (dVar 8) aNil)))) [8]))))) (sSeq (sFor (iRng1D (aCons (dCall d_law_grind 2 false [true, false] (aCons (dVar 0) (aCons (d2 (binV false .Add) (dVar 2) (dAtm (.int 1))) aNil))) aNil)) (gNm 9) (sIf (bOf (d2 (cmpVt .NotEq) (dVar 5) (dLst false aNil))) (sExp (dMt appV (dVar 4) (aCons (dMt popV (dVar 5) (aCons (dCall d_law_grind 2 false [true, false] (aCons (dVar 0) (aCons (dBi lenV (aCons (dVar 5) aNil)) aNil))) aNil)) aNil))) sNil)) (sRet (dTup (aCons (dVar 3) (aCons (dFz m0 (dVar 4)) aNil))))))))
noncomputable def d_law_manual : List T → Mu → Ot T := defD 3 10 b_law_manual
theorem sc_law_manual : FnScope ["mill", "most", "count", "kinds_here", "found", "every", "who", "whom", "what", "turn"] ["mill", "most", "count"] (defScope s_law_manual) := ⟨rfl, rfl, rfl, by decide +kernel, rfl, by decide +kernel, by decide +kernel⟩
theorem ok_law_manual (T : Tx K mg) : FnG P w K mg base 3 T.a_law_manual T.f_law_manual ["mill", "most", "count"] (spD K T.tab d_law_manual 3) :=
  fnD (N := ["mill", "most", "count", "kinds_here", "found", "every", "who", "whom", "what", "turn"]) (g := b_law_manual) T.F_law_manual sc_law_manual (fun cdv A outer s H E Z hK hT B => by
    obtain ⟨K1, TB1, Hz, F0, ms0⟩ := Z
    obtain rfl : K1 = K := hK
    obtain rfl : TB1 = T.tab := hT
    exact (xss_cons (xs_par B.toBe.calm B.toBe.nd rfl rfl (by decide) rfl rfl (xa_cons (xe_frz rfl (xe_call false [true, false] B.toBe ((ok_law_tribes T).mono (by decide)) rfl T.m_law_tribes T.k_law_tribes T.b_law_tribes (xa_cons (xe_var rfl (Or.inl rfl) rfl rfl) (xa_cons (xe_bin B.toBe.hK false (xe_atm pe_int (fun _ => Dx.int _)) (xe_call false [true, false] B.toBe ((ok_law_grind T).mono (by decide)) rfl T.m_law_grind T.k_law_grind T.b_law_grind (xa_cons (xe_var rfl (Or.inl rfl) rfl rfl) (xa_cons (xe_var rfl (Or.inl rfl) rfl rfl) xa_nil rfl) rfl) rfl rfl rfl rfl)) xa_nil rfl) rfl) rfl rfl rfl rfl)) (xa_cons (xe_lst true xa_nil) xa_nil rfl) rfl) rfl rfl) (xss_cons (xs_set B.toBe.nd rfl (Or.inl rfl) (xe_lst true xa_nil) rfl (Or.inl rfl)) (xss_cons (xs_for B.own B.toBe.calm (xi_lst B.toBe.hK (xe_var rfl (Or.inl rfl) rfl rfl)) (xg_nm B.toBe.nd rfl (Or.inr rfl) (Or.inl rfl)) (xss_one (xs_for B.own B.toBe.calm (xi_lst B.toBe.hK (xe_var rfl (Or.inl rfl) rfl rfl)) (xg_nm B.toBe.nd rfl (Or.inr rfl) (Or.inl rfl)) (xss_one (xs_set B.toBe.nd rfl (Or.inl rfl) (xe_bin B.toBe.hK true (xe_var rfl (Or.inl rfl) rfl rfl) (xe_lc false (own := [("what", 8)]) rfl B.toBe.calm B.toBe.nd (xi_lst B.toBe.hK (xe_var rfl (Or.inl rfl) rfl rfl)) (blkOk_by rfl) (by decide) (fun s1 H1 C1 cl1 fp1 => (xg_nm (Be.blk B.toBe s1 H1 _ C1 cl1 fp1).nd rfl (Or.inl rfl) (Or.inr rfl))) (fun s1 H1 C1 cl1 fp1 => (xts_one (xt_cmp (Be.blk B.toBe s1 H1 _ C1 cl1 fp1).hK (Be.blk B.toBe s1 H1 _ C1 cl1 fp1).hu (xe_var rfl (Or.inl rfl) rfl rfl) (xe_var rfl (Or.inr (Or.inl rfl)) rfl rfl) (nomark _)))) (fun s1 H1 C1 cl1 fp1 => (xe_tup (xa_cons (xe_var rfl (Or.inr (Or.inl rfl)) rfl rfl) (xa_cons (xe_var rfl (Or.inr (Or.inl rfl)) rfl rfl) (xa_cons (xe_var rfl (Or.inl rfl) rfl rfl) xa_nil rfl) rfl) rfl))) (fun _ => rfl))) rfl (Or.inl rfl))) (fun _ => rfl))) (fun _ => rfl)) (xss_cons (xs_for B.own B.toBe.calm (xi_rng1 rfl T.z_range (xa_cons (xe_call false [true, false] B.toBe ((ok_law_grind T).mono (by decide)) rfl T.m_law_grind T.k_law_grind T.b_law_grind (xa_cons (xe_var rfl (Or.inl rfl) rfl rfl) (xa_cons (xe_bin B.toBe.hK false (xe_var rfl (Or.inl rfl) rfl rfl) (xe_atm pe_int (fun _ => Dx.int _))) xa_nil rfl) rfl) rfl rfl rfl rfl) xa_nil rfl) rfl) (xg_nm B.toBe.nd rfl (Or.inl rfl) (Or.inl rfl)) (xss_one (xs_if (xt_cmp B.toBe.hK B.toBe.hu (xe_var rfl (Or.inl rfl) rfl rfl) (xe_lst false xa_nil) (nomark _)) (xss_one (xs_exp (xe_mt B.toBe.hK PySem.F.slot_list_append PySem.F.type_list_append mt_app (xe_var rfl (Or.inl rfl) rfl rfl) (xa_cons (xe_mt B.toBe.hK PySem.F.slot_list_pop PySem.F.type_list_pop mt_popV (xe_var rfl (Or.inl rfl) rfl rfl) (xa_cons (xe_call false [true, false] B.toBe ((ok_law_grind T).mono (by decide)) rfl T.m_law_grind T.k_law_grind T.b_law_grind (xa_cons (xe_var rfl (Or.inl rfl) rfl rfl) (xa_cons (xe_bi (call_lenV B.toBe.hK) rfl T.z_len rfl (xa_cons (xe_var rfl (Or.inl rfl) rfl rfl) xa_nil rfl) (by decide) rfl rfl rfl) xa_nil rfl) rfl) rfl rfl rfl rfl) xa_nil rfl) rfl rfl rfl rfl rfl) xa_nil rfl) rfl rfl rfl rfl rfl) rfl)) xss_nil)) (fun _ => rfl)) (xss_one (xs_ret (xe_tup (xa_cons (xe_var rfl (Or.inl rfl) rfl rfl) (xa_cons (xe_fz rfl (xe_var rfl (Or.inl rfl) rfl rfl)) xa_nil rfl) rfl)))))))))
/-- _law_no_name -/
noncomputable def b_law_no_name (m0 : Nat) : Ds := (sSeq (sSet 2 (dAtm (.str " !#$&'()*+,-./0123456789:;<=>?\x40[]^_`{|}~\"\\ABCDEFGHIJKLMNOPQRSTUVWXYZ"))) (sSeq (sSet 3 (d2 ixV (dVar 1) (dCall d_law_grind 2 false [true, false] (aCons (dVar 0) (aCons (dBi lenV (aCons (dVar 1) aNil)) aNil))))) (sSeq (sSet 4 (dCall d_law_grind 2 false [true, false] (aCons (dVar 0) (aCons (d2 (binV false .Add) (dBi lenV (aCons (dVar 3) aNil)) (dAtm (.int 1))) aNil)))) (sSeq (sSet 5 (d2 (binV false .Add) (d2 (binV false .Add) (dSl false (dVar 3) none (some (dVar 4))) (d2 ixV (dVar 2) (dCall d_law_grind 2 false [true, false] (aCons (dVar 0) (aCons (dBi lenV (aCons (dVar 2) aNil)) aNil))))) (dSl false (dVar 3) (some (dVar 4)) none))) (sSeq (sSet 6 (dLst false (aCons (dAtm (.str "")) (aCons (dSl false (d2 (binV false .Add) (d2 mulSV (dVar 3) (dAtm (.int 9))) (d2 mulSV (dAtm (.str "a")) (dAtm (.int 9)))) none (some (d2 (binV false .Add) (dAtm (.int 9)) (dCall d_law_grind 2 false [true, false] (aCons (dVar 0) (aCons (dAtm (.int 12)) aNil)))))) (aCons (dVar 5) aNil))))) (sRet (d2 ixV (dVar 6) (dBi min2V (aCons (dAtm (.int 2)) (aCons (dCall d_law_grind 2 false [true, false] (aCons (dVar 0) (aCons (dAtm (.int 5)) aNil))) aNil))))))))))
noncomputable def d_law_no_name : List T → Mu → Ot T := defD 2 7 b_law_no_name
theorem sc_law_no_name : FnScope ["mill", "kinds_here", "signs", "label", "at", "odd", "menu"] ["mill", "kinds_here"] (defScope s_law_no_name) := ⟨rfl, rfl, rfl, by decide +kernel, rfl, by decide +kernel, by decide +kernel⟩
theorem ok_law_no_name (T : Tx K mg) : FnG P w K mg base 2 T.a_law_no_name T.f_law_no_name ["mill", "kinds_here"] (spD K T.tab d_law_no_name 2) :=
  fnD (N := ["mill", "kinds_here", "signs", "label", "at", "odd", "menu"]) (g := b_law_no_name) T.F_law_no_name sc_law_no_name (fun cdv A outer s H E Z hK hT B => by
    obtain ⟨K1, TB1, Hz, F0, ms0⟩ := Z
    obtain rfl : K1 = K := hK
    obtain rfl : TB1 = T.tab := hT
    exact (xss_cons (xs_set B.toBe.nd rfl (Or.inl rfl) (xe_atm pe_str (fun _ => Dx.str _)) rfl (Or.inl rfl)) (xss_cons (xs_set B.toBe.nd rfl (Or.inl rfl) (xe_ix B.toBe.hK (xe_var rfl (Or.inl rfl) rfl rfl) (xe_call false [true, false] B.toBe ((ok_law_grind T).mono (by decide)) rfl T.m_law_grind T.k_law_grind T.b_law_grind (xa_cons (xe_var rfl (Or.inl rfl) rfl rfl) (xa_cons (xe_bi (call_lenV B.toBe.hK) rfl T.z_len rfl (xa_cons (xe_var rfl (Or.inl rfl) rfl rfl) xa_nil rfl) (by decide) rfl rfl rfl) xa_nil rfl) rfl) rfl rfl rfl rfl) (fun _ _ => rfl)) rfl (Or.inl rfl)) (xss_cons (xs_set B.toBe.nd rfl (Or.inl rfl) (xe_call false [true, false] B.toBe ((ok_law_grind T).mono (by decide)) rfl T.m_law_grind T.k_law_grind T.b_law_grind (xa_cons (xe_var rfl (Or.inl rfl) rfl rfl) (xa_cons (xe_bin B.toBe.hK false (xe_bi (call_lenV B.toBe.hK) rfl T.z_len rfl (xa_cons (xe_var rfl (Or.inl rfl) rfl rfl) xa_nil rfl) (by decide) rfl rfl rfl) (xe_atm pe_int (fun _ => Dx.int _))) xa_nil rfl) rfl) rfl rfl rfl rfl) rfl (Or.inl rfl)) (xss_cons (xs_set B.toBe.nd rfl (Or.inl rfl) (xe_bin B.toBe.hK false (xe_bin B.toBe.hK false (xe_sl B.toBe.hK false (xe_var rfl (Or.inl rfl) rfl rfl) PoD.none (PoD.some (xe_var rfl (Or.inl rfl) rfl rfl))) (xe_ix B.toBe.hK (xe_var rfl (Or.inl rfl) rfl rfl) (xe_call false [true, false] B.toBe ((ok_law_grind T).mono (by decide)) rfl T.m_law_grind T.k_law_grind T.b_law_grind (xa_cons (xe_var rfl (Or.inl rfl) rfl rfl) (xa_cons (xe_bi (call_lenV B.toBe.hK) rfl T.z_len rfl (xa_cons (xe_var rfl (Or.inl rfl) rfl rfl) xa_nil rfl) (by decide) rfl rfl rfl) xa_nil rfl) rfl) rfl rfl rfl rfl) (fun _ _ => rfl))) (xe_sl B.toBe.hK false (xe_var rfl (Or.inl rfl) rfl rfl) (PoD.some (xe_var rfl (Or.inl rfl) rfl rfl)) PoD.none)) rfl (Or.inl rfl)) (xss_cons (xs_set B.toBe.nd rfl (Or.inl rfl) (xe_lst false (xa_cons (xe_atm pe_str (fun _ => Dx.str _)) (xa_cons (xe_sl B.toBe.hK false (xe_bin B.toBe.hK false (xe_mulS (xe_var rfl (Or.inl rfl) rfl rfl) (xe_atm pe_int (fun _ => Dx.int _))) (xe_mulS (xe_atm pe_str (fun _ => Dx.str _)) (xe_atm pe_int (fun _ => Dx.int _)))) PoD.none (PoD.some (xe_bin B.toBe.hK false (xe_atm pe_int (fun _ => Dx.int _)) (xe_call false [true, false] B.toBe ((ok_law_grind T).mono (by decide)) rfl T.m_law_grind T.k_law_grind T.b_law_grind (xa_cons (xe_var rfl (Or.inl rfl) rfl rfl) (xa_cons (xe_atm pe_int (fun _ => Dx.int _)) xa_nil rfl) rfl) rfl rfl rfl rfl)))) (xa_cons (xe_var rfl (Or.inl rfl) rfl rfl) xa_nil rfl) rfl) rfl)) rfl (Or.inl rfl)) (xss_one (xs_ret (xe_ix B.toBe.hK (xe_var rfl (Or.inl rfl) rfl rfl) (xe_bi (call_min2V B.toBe.calm) rfl T.z_min rfl (xa_cons (xe_atm pe_int (fun _ => Dx.int _)) (xa_cons (xe_call false [true, false] B.toBe ((ok_law_grind T).mono (by decide)) rfl T.m_law_grind T.k_law_grind T.b_law_grind (xa_cons (xe_var rfl (Or.inl rfl) rfl rfl) (xa_cons (xe_atm pe_int (fun _ => Dx.int _)) xa_nil rfl) rfl) rfl rfl rfl rfl) xa_nil rfl) rfl) (by decide) rfl rfl rfl) (fun _ _ => rfl))))))))))
/-- _law_spoilt -/
noncomputable def b_law_spoilt (m0 : Nat) : Ds := (sSeq (sPar3 3 4 5 (aCons (dBi (listV false) (aCons (dVar 1) aNil)) (aCons (dBi (listV false) (aCons (dVar 2) aNil)) (aCons (dCall d_law_grind 2 false [true, false] (aCons (dVar 0) (aCons (dAtm (.int 5)) aNil))) aNil)))) (sSeq (sSet 6 (dCall d_law_grind 2 false [true, false] (aCons (dVar 0) (aCons (d2 (binV false .Add) (dBi lenV (aCons (dVar 3) aNil)) (dAtm (.int 1))) aNil)))) (sSeq (sIf (bOf (d2 (cmpVt .Eq) (dVar 5) (dAtm (.int 0)))) (sSet 3 (d2 (binV false .Add) (d2 (binV false .Add) (dSl false (dVar 3) none (some (dVar 6))) (dLst false (aCons (dFrz m0 (dCall d_law_no_name 2 false [true, false] (aCons (dVar 0) (aCons (dVar 1) aNil)))) aNil))) (dSl false (dVar 3) (some (dVar 6)) none))) (sIf (bOf (d2 (cmpVt .Eq) (dVar 5) (dAtm (.int 1)))) (sSet 3 (d2 (binV false .Add) (d2 (binV false .Add) (dSl false (dVar 3) none (some (dVar 6))) (dLst false (aCons (d2 ixV (dVar 1) (dCall d_law_grind 2 false [true, false] (aCons (dVar 0) (aCons (dBi lenV (aCons (dVar 1) aNil)) aNil)))) aNil))) (dSl false (dVar 3) (some (dVar 6)) none))) (sIf (bOf (d2 (cmpVt .NotEq) (dVar 4) (dLst false aNil))) (sSeq (sSet 7 (dCall d_law_grind 2 false [true, false] (aCons (dVar 0) (aCons (dBi lenV (aCons (dVar 4) aNil)) aNil)))) (sSeq (sPar 8 6 (aCons (d2 ixV (dVar 4) (dVar 7)) (aCons (dCall d_law_grind 2 false [true, false] (aCons (dVar 0) (aCons (d2 (binV false .Add) (dBi lenV (aCons (dVar 4) aNil)) (dAtm (.int 1))) aNil))) aNil))) (sSeq (sIf (bOf (d2 (cmpVt .Eq) (dVar 5) (dAtm (.int 2)))) (sSeq (sPar 9 10 (aCons (dCall d_law_grind 2 false [true, false] (aCons (dVar 0) (aCons (dAtm (.int 3)) aNil))) (aCons (d2 ixV (dLst false (aCons (dAtm (.str "zz")) (aCons (dAtm (.str "")) (aCons (dAtm (.str "A")) (aCons (d2 (binV false .Add) (d2 ixV (dVar 1) (dAtm (.int 0))) (dAtm (.str "q"))) aNil))))) (dCall d_law_grind 2 false [true, false] (aCons (dVar 0) (aCons (dAtm (.int 4)) aNil)))) aNil))) (sSet 8 (d2 catTV (d2 catTV (dSlT (dVar 8) none (some (dVar 9))) (dTup (aCons (dVar 10) aNil))) (dSlT (dVar 8) (some (d2 (binV false .Add) (dVar 9) (dAtm (.int 1)))) none)))) sNil) (sSeq (sIf (bOf (d2 (cmpVt .Eq) (dVar 5) (dAtm (.int 3)))) (sSet 8 (dTup (aCons (d2 ixV (dVar 8) (dAtm (.int 0))) (aCons (d2 ixV (dVar 8) (dAtm (.int 1))) (aCons (d2 ixV (dVar 8) (dAtm (.int 0))) aNil))))) sNil) (sSet 4 (d2 (binV false .Add) (d2 (binV false .Add) (dSl false (dVar 4) none (some (dVar 6))) (dLst false (aCons (dVar 8) aNil))) (dSl false (dVar 4) (some (dVar 6)) none))))))) sNil))) (sRet (dTup (aCons (dSl false (dVar 3) none (some (dAtm (.int 8)))) (aCons (dSl false (dVar 4) none (some (dAtm (.int 8)))) aNil)))))))
noncomputable def d_law_spoilt : List T → Mu → Ot T := defD 3 11 b_law_spoilt
theorem sc_law_spoilt : FnScope ["mill", "kinds_here", "rules_here", "names_here", "found", "way", "spot", "at", "rule_here", "place", "odd"] ["mill", "kinds_here", "rules_here"] (defScope s_law_spoilt) := ⟨rfl, rfl, rfl, by decide +kernel, rfl, by decide +kernel, by decide +kernel⟩
theorem ok_law_spoilt (T : Tx K mg) : FnG P w K mg base 3 T.a_law_spoilt T.f_law_spoilt ["mill", "kinds_here", "rules_here"] (spD K T.tab d_law_spoilt 3) :=
  fnD (N := ["mill", "kinds_here", "rules_here", "names_here", "found", "way", "spot", "at", "rule_here", "place", "odd"]) (g := b_law_spoilt) T.F_law_spoilt sc_law_spoilt (fun cdv A outer s H E Z hK hT B => by
    obtain ⟨K1, TB1, Hz, F0, ms0⟩ := Z
    obtain rfl : K1 = K := hK
    obtain rfl : TB1 = T.tab := hT
    exact (xss_cons (xs_par3 B.toBe.calm B.toBe.nd rfl rfl rfl (by decide) (by decide) (by decide) rfl rfl rfl (xa_cons (xe_ty (call_listV B.toBe.hK false) rfl T.z_list rfl (xa_cons (xe_var rfl (Or.inl rfl) rfl rfl) xa_nil rfl) (by decide) rfl rfl rfl) (xa_cons (xe_ty (call_listV B.toBe.hK false) rfl T.z_list rfl (xa_cons (xe_var rfl (Or.inl rfl) rfl rfl) xa_nil rfl) (by decide) rfl rfl rfl) (xa_cons (xe_call false [true, false] B.toBe ((ok_law_grind T).mono (by decide)) rfl T.m_law_grind T.k_law_grind T.b_law_grind (xa_cons (xe_var rfl (Or.inl rfl) rfl rfl) (xa_cons (xe_atm pe_int (fun _ => Dx.int _)) xa_nil rfl) rfl) rfl rfl rfl rfl) xa_nil rfl) rfl) rfl) rfl rfl) (xss_cons (xs_set B.toBe.nd rfl (Or.inl rfl) (xe_call false [true, false] B.toBe ((ok_law_grind T).mono (by decide)) rfl T.m_law_grind T.k_law_grind T.b_law_grind (xa_cons (xe_var rfl (Or.inl rfl) rfl rfl) (xa_cons (xe_bin B.toBe.hK false (xe_bi (call_lenV B.toBe.hK) rfl T.z_len rfl (xa_cons (xe_var rfl (Or.inl rfl) rfl rfl) xa_nil rfl) (by decide) rfl rfl rfl) (xe_atm pe_int (fun _ => Dx.int _))) xa_nil rfl) rfl) rfl rfl rfl rfl) rfl (Or.inl rfl)) (xss_cons (xs_if (xt_cmp B.toBe.hK B.toBe.hu (xe_var rfl (Or.inl rfl) rfl rfl) (xe_atm pe_int (fun _ => Dx.int _)) (nomark _)) (xss_one (xs_set B.toBe.nd rfl (Or.inl rfl) (xe_bin B.toBe.hK false (xe_bin B.toBe.hK false (xe_sl B.toBe.hK false (xe_var rfl (Or.inl rfl) rfl rfl) PoD.none (PoD.some (xe_var rfl (Or.inl rfl) rfl rfl))) (xe_lst false (xa_cons (xe_frz rfl (xe_call false [true, false] B.toBe ((ok_law_no_name T).mono (by decide)) rfl T.m_law_no_name T.k_law_no_name T.b_law_no_name (xa_cons (xe_var rfl (Or.inl rfl) rfl rfl) (xa_cons (xe_var rfl (Or.inl rfl) rfl rfl) xa_nil rfl) rfl) rfl rfl rfl rfl)) xa_nil rfl))) (xe_sl B.toBe.hK false (xe_var rfl (Or.inl rfl) rfl rfl) (PoD.some (xe_var rfl (Or.inl rfl) rfl rfl)) PoD.none)) rfl (Or.inl rfl))) (xss_one (xs_if (xt_cmp B.toBe.hK B.toBe.hu (xe_var rfl (Or.inl rfl) rfl rfl) (xe_atm pe_int (fun _ => Dx.int _)) (nomark _)) (xss_one (xs_set B.toBe.nd rfl (Or.inl rfl) (xe_bin B.toBe.hK false (xe_bin B.toBe.hK false (xe_sl B.toBe.hK false (xe_var rfl (Or.inl rfl) rfl rfl) PoD.none (PoD.some (xe_var rfl (Or.inl rfl) rfl rfl))) (xe_lst false (xa_cons (xe_ix B.toBe.hK (xe_var rfl (Or.inl rfl) rfl rfl) (xe_call false [true, false] B.toBe ((ok_law_grind T).mono (by decide)) rfl T.m_law_grind T.k_law_grind T.b_law_grind (xa_cons (xe_var rfl (Or.inl rfl) rfl rfl) (xa_cons (xe_bi (call_lenV B.toBe.hK) rfl T.z_len rfl (xa_cons (xe_var rfl (Or.inl rfl) rfl rfl) xa_nil rfl) (by decide) rfl rfl rfl) xa_nil rfl) rfl) rfl rfl rfl rfl) (fun _ _ => rfl)) xa_nil rfl))) (xe_sl B.toBe.hK false (xe_var rfl (Or.inl rfl) rfl rfl) (PoD.some (xe_var rfl (Or.inl rfl) rfl rfl)) PoD.none)) rfl (Or.inl rfl))) (xss_one (xs_if (xt_cmp B.toBe.hK B.toBe.hu (xe_var rfl (Or.inl rfl) rfl rfl) (xe_lst false xa_nil) (nomark _)) (xss_cons (xs_set B.toBe.nd rfl (Or.inl rfl) (xe_call false [true, false] B.toBe ((ok_law_grind T).mono (by decide)) rfl T.m_law_grind T.k_law_grind T.b_law_grind (xa_cons (xe_var rfl (Or.inl rfl) rfl rfl) (xa_cons (xe_bi (call_lenV B.toBe.hK) rfl T.z_len rfl (xa_cons (xe_var rfl (Or.inl rfl) rfl rfl) xa_nil rfl) (by decide) rfl rfl rfl) xa_nil rfl) rfl) rfl rfl rfl rfl) rfl (Or.inl rfl)) (xss_cons (xs_par B.toBe.calm B.toBe.nd rfl rfl (by decide) rfl rfl (xa_cons (xe_ix B.toBe.hK (xe_var rfl (Or.inl rfl) rfl rfl) (xe_var rfl (Or.inl rfl) rfl rfl) (fun _ _ => rfl)) (xa_cons (xe_call false [true, false] B.toBe ((ok_law_grind T).mono (by decide)) rfl T.m_law_grind T.k_law_grind T.b_law_grind (xa_cons (xe_var rfl (Or.inl rfl) rfl rfl) (xa_cons (xe_bin B.toBe.hK false (xe_bi (call_lenV B.toBe.hK) rfl T.z_len rfl (xa_cons (xe_var rfl (Or.inl rfl) rfl rfl) xa_nil rfl) (by decide) rfl rfl rfl) (xe_atm pe_int (fun _ => Dx.int _))) xa_nil rfl) rfl) rfl rfl rfl rfl) xa_nil rfl) rfl) rfl rfl) (xss_cons (xs_if (xt_cmp B.toBe.hK B.toBe.hu (xe_var rfl (Or.inl rfl) rfl rfl) (xe_atm pe_int (fun _ => Dx.int _)) (nomark _)) (xss_cons (xs_par B.toBe.calm B.toBe.nd rfl rfl (by decide) rfl rfl (xa_cons (xe_call false [true, false] B.toBe ((ok_law_grind T).mono (by decide)) rfl T.m_law_grind T.k_law_grind T.b_law_grind (xa_cons (xe_var rfl (Or.inl rfl) rfl rfl) (xa_cons (xe_atm pe_int (fun _ => Dx.int _)) xa_nil rfl) rfl) rfl rfl rfl rfl) (xa_cons (xe_ix B.toBe.hK (xe_lst false (xa_cons (xe_atm pe_str (fun _ => Dx.str _)) (xa_cons (xe_atm pe_str (fun _ => Dx.str _)) (xa_cons (xe_atm pe_str (fun _ => Dx.str _)) (xa_cons (xe_bin B.toBe.hK false (xe_ix B.toBe.hK (xe_var rfl (Or.inl rfl) rfl rfl) (xe_atm pe_int (fun _ => Dx.int _)) (fun _ _ => rfl)) (xe_atm pe_str (fun _ => Dx.str _))) xa_nil rfl) rfl) rfl) rfl)) (xe_call false [true, false] B.toBe ((ok_law_grind T).mono (by decide)) rfl T.m_law_grind T.k_law_grind T.b_law_grind (xa_cons (xe_var rfl (Or.inl rfl) rfl rfl) (xa_cons (xe_atm pe_int (fun _ => Dx.int _)) xa_nil rfl) rfl) rfl rfl rfl rfl) (fun _ _ => rfl)) xa_nil rfl) rfl) rfl rfl) (xss_one (xs_set B.toBe.nd rfl (Or.inl rfl) (xe_catT B.toBe.hK (xe_catT B.toBe.hK (xe_slT B.toBe.hK (xe_var rfl (Or.inl rfl) rfl rfl) PoD.none (PoD.some (xe_var rfl (Or.inl rfl) rfl rfl))) (xe_tup (xa_cons (xe_var rfl (Or.inl rfl) rfl rfl) xa_nil rfl))) (xe_slT B.toBe.hK (xe_var rfl (Or.inl rfl) rfl rfl) (PoD.some (xe_bin B.toBe.hK false (xe_var rfl (Or.inl rfl) rfl rfl) (xe_atm pe_int (fun _ => Dx.int _)))) PoD.none)) rfl (Or.inl rfl)))) xss_nil) (xss_cons (xs_if (xt_cmp B.toBe.hK B.toBe.hu (xe_var rfl (Or.inl rfl) rfl rfl) (xe_atm pe_int (fun _ => Dx.int _)) (nomark _)) (xss_one (xs_set B.toBe.nd rfl (Or.inl rfl) (xe_tup (xa_cons (xe_ix B.toBe.hK (xe_var rfl (Or.inl rfl) rfl rfl) (xe_atm pe_int (fun _ => Dx.int _)) (fun _ _ => rfl)) (xa_cons (xe_ix B.toBe.hK (xe_var rfl (Or.inl rfl) rfl rfl) (xe_atm pe_int (fun _ => Dx.int _)) (fun _ _ => rfl)) (xa_cons (xe_ix B.toBe.hK (xe_var rfl (Or.inl rfl) rfl rfl) (xe_atm pe_int (fun _ => Dx.int _)) (fun _ _ => rfl)) xa_nil rfl) rfl) rfl)) rfl (Or.inl rfl))) xss_nil) (xss_one (xs_set B.toBe.nd rfl (Or.inl rfl) (xe_bin B.toBe.hK false (xe_bin B.toBe.hK false (xe_sl B.toBe.hK false (xe_var rfl (Or.inl rfl) rfl rfl) PoD.none (PoD.some (xe_var rfl (Or.inl rfl) rfl rfl))) (xe_lst false (xa_cons (xe_var rfl (Or.inl rfl) rfl rfl) xa_nil rfl))) (xe_sl B.toBe.hK false (xe_var rfl (Or.inl rfl) rfl rfl) (PoD.some (xe_var rfl (Or.inl rfl) rfl rfl)) PoD.none)) rfl (Or.inl rfl))))))) xss_nil))))) (xss_one (xs_ret (xe_tup (xa_cons (xe_sl B.toBe.hK false (xe_var rfl (Or.inl rfl) rfl rfl) PoD.none (PoD.some (xe_atm pe_int (fun _ => Dx.int _)))) (xa_cons (xe_sl B.toBe.hK false (xe_var rfl (Or.inl rfl) rfl rfl) PoD.none (PoD.some (xe_atm pe_int (fun _ => Dx.int _)))) xa_nil rfl) rfl))))))))
/-- is_name -/
noncomputable def b_is_name (m0 : Nat) : Ds := (sRet (dAnd (dChain .LtE .LtE (dAtm (.int 1)) (dBi lenV (aCons (dVar 0) aNil)) (dAtm (.int 8))) (dBi (onBools fun bs => bs.all id) (aCons (dLc false m0 (iTxt (dVar 0)) (gNm 1) bYes (d2 (cmpVt .In) (dVar 1) (dAtm (.str "abcdefghijklmnopqrstuvwxyz"))) [1]) aNil))))
noncomputable def d_is_name : List T → Mu → Ot T := defD 1 2 b_is_name
theorem sc_is_name : FnScope ["name", "letter"] ["name"] (defScope s_is_name) := ⟨rfl, rfl, rfl, by decide +kernel, rfl, by decide +kernel, by decide +kernel⟩
theorem ok_is_name (T : Tx K mg) : FnG P w K mg base 1 T.a_is_name T.f_is_name ["name"] (spD K T.tab d_is_name 1) :=
  fnD (N := ["name", "letter"]) (g := b_is_name) T.F_is_name sc_is_name (fun cdv A outer s H E Z hK hT B => by
    obtain ⟨K1, TB1, Hz, F0, ms0⟩ := Z
    obtain rfl : K1 = K := hK
    obtain rfl : TB1 = T.tab := hT
    exact (xss_one (xs_ret (xe_and (xe_chain B.toBe (xe_atm pe_int (fun _ => Dx.int _)) (xe_bi (call_lenV B.toBe.hK) rfl T.z_len rfl (xa_cons (xe_var rfl (Or.inl rfl) rfl rfl) xa_nil rfl) (by decide) rfl rfl rfl) (xe_atm (pe_glob (v := .int 8) rfl T.m_LONGEST ⟨_, rfl⟩ rfl) (fun _ => Dx.int _)) (by with_unfolding_all rfl)) (pe_one (xe_bi (call_allV B.toBe.hK B.toBe.calm) rfl T.z_all rfl (xa_cons (xe_lc false (own := [("letter", 1)]) rfl B.toBe.calm B.toBe.nd (xi_txt (xe_var rfl (Or.inl rfl) rfl rfl)) (blkOk_by rfl) (by decide) (fun s1 H1 C1 cl1 fp1 => (xg_nm (Be.blk B.toBe s1 H1 _ C1 cl1 fp1).nd rfl (Or.inl rfl) (Or.inr rfl))) (fun s1 H1 C1 cl1 fp1 => xts_nil) (fun s1 H1 C1 cl1 fp1 => (xe_cmp (Be.blk B.toBe s1 H1 _ C1 cl1 fp1).hK (Be.blk B.toBe s1 H1 _ C1 cl1 fp1).hu (xe_var rfl (Or.inl rfl) rfl rfl) (xe_atm (pe_glob (v := .str "abcdefghijklmnopqrstuvwxyz") rfl T.m_LETTERS ⟨_, rfl⟩ rfl) (fun _ => Dx.str _)) (by with_unfolding_all rfl))) (fun _ => rfl)) xa_nil rfl) (by decide) rfl rfl rfl))))))
/-- check_names -/
noncomputable def b_check_names (m0 : Nat) : Ds := (sFor (iEnumD (aCons (dVar 0) aNil)) (gTp 2 (gsCons (gNm 1) (gsCons (gNm 2) gsNil))) (sSeq (sIf (bNot (bTru (dCall d_is_name 1 false [false] (aCons (dVar 2) aNil)))) (sRaise 1 (dVar 2)) sNil) (sIf (bOf (d2 (cmpVt .In) (dVar 2) (dSl false (dVar 0) none (some (dVar 1))))) (sRaise 2 (dVar 2)) sNil)))
noncomputable def d_check_names : List T → Mu → Ot T := defD 1 3 b_check_names
theorem sc_check_names : FnScope ["kinds", "at", "name"] ["kinds"] (defScope s_check_names) := ⟨rfl, rfl, rfl, by decide +kernel, rfl, by decide +kernel, by decide +kernel⟩
theorem ok_check_names (T : Tx K mg) : FnG P w K mg base 3 T.a_check_names T.f_check_names ["kinds"] (spD K T.tab d_check_names 1) :=
  fnD (N := ["kinds", "at", "name"]) (g := b_check_names) T.F_check_names sc_check_names (fun cdv A outer s H E Z hK hT B => by
    obtain ⟨K1, TB1, Hz, F0, ms0⟩ := Z
    obtain rfl : K1 = K := hK
    obtain rfl : TB1 = T.tab := hT
    exact (xss_one (xs_for B.own B.toBe.calm (xi_enum B.toBe.hK rfl T.z_enumerate (xa_cons (xe_var rfl (Or.inl rfl) rfl rfl) xa_nil rfl) rfl) (xg_tup B.toBe.hK B.toBe.calm (xgs_cons (xg_nm B.toBe.nd rfl (Or.inl rfl) (Or.inl rfl)) (xgs_cons (xg_nm B.toBe.nd rfl (Or.inl rfl) (Or.inl rfl)) xgs_nil rfl) rfl) rfl rfl) (xss_cons (xs_if (xt_not (xt_tru B.toBe.hK (xe_call false [false] B.toBe ((ok_is_name T).mono (by decide)) rfl T.m_is_name T.k_is_name T.b_is_name (xa_cons (xe_var rfl (Or.inl rfl) rfl rfl) xa_nil rfl) rfl rfl rfl rfl) (fun _ => rfl))) (xss_one (xs_raise (k := 1) B.toBe rfl T.e_InvalidName T.ic_InvalidName T.ti_ErrInit (init_ok (k := 0) T.F_ErrInit sc_ErrInit rfl (Or.inl rfl) (Or.inl rfl) (fun _ _ => rfl)) T.b_ErrInit rfl T.m_InvalidName (xe_var rfl (Or.inl rfl) rfl rfl) rfl rfl rfl)) xss_nil) (xss_one (xs_if (xt_cmp B.toBe.hK B.toBe.hu (xe_var rfl (Or.inl rfl) rfl rfl) (xe_sl B.toBe.hK false (xe_var rfl (Or.inl rfl) rfl rfl) PoD.none (PoD.some (xe_var rfl (Or.inl rfl) rfl rfl))) (by with_unfolding_all rfl)) (xss_one (xs_raise (k := 1) B.toBe rfl T.e_DoubleName T.ic_DoubleName T.ti_ErrInit (init_ok (k := 0) T.F_ErrInit sc_ErrInit rfl (Or.inl rfl) (Or.inl rfl) (fun _ _ => rfl)) T.b_ErrInit rfl T.m_DoubleName (xe_var rfl (Or.inl rfl) rfl rfl) rfl rfl rfl)) xss_nil))) (fun _ => rfl))))
/-- check_rule -/
noncomputable def b_check_rule (m0 : Nat) : Ds := (sSeq (sAsg (dVar 1) (gTp 3 (gsCons (gNm 2) (gsCons (gNm 3) (gsCons (gNm 4) gsNil))))) (sIf (bOr (bOf (d2 (cmpVt .NotIn) (dVar 2) (dVar 0))) (bOr (bOf (d2 (cmpVt .NotIn) (dVar 3) (dVar 0))) (bOr (bOf (d2 (cmpVt .NotIn) (dVar 4) (dVar 0))) (bOf (d2 (cmpVt .Eq) (dVar 4) (dVar 2)))))) (sRaise 3 (dVar 1)) sNil))
noncomputable def d_check_rule : List T → Mu → Ot T := defD 2 5 b_check_rule
theorem sc_check_rule : FnScope ["kinds", "rule", "kind", "seen", "new"] ["kinds", "rule"] (defScope s_check_rule) := ⟨rfl, rfl, rfl, by decide +kernel, rfl, by decide +kernel, by decide +kernel⟩
theorem ok_check_rule (T : Tx K mg) : FnG P w K mg base 3 T.a_check_rule T.f_check_rule ["kinds", "rule"] (spD K T.tab d_check_rule 2) :=
  fnD (N := ["kinds", "rule", "kind", "seen", "new"]) (g := b_check_rule) T.F_check_rule sc_check_rule (fun cdv A outer s H E Z hK hT B => by
    obtain ⟨K1, TB1, Hz, F0, ms0⟩ := Z
    obtain rfl : K1 = K := hK
    obtain rfl : TB1 = T.tab := hT
    exact (xss_cons (xs_asg (xe_var rfl (Or.inl rfl) rfl rfl) (xg_tup B.toBe.hK B.toBe.calm (xgs_cons (xg_nm B.toBe.nd rfl (Or.inl rfl) (Or.inl rfl)) (xgs_cons (xg_nm B.toBe.nd rfl (Or.inl rfl) (Or.inl rfl)) (xgs_cons (xg_nm B.toBe.nd rfl (Or.inl rfl) (Or.inl rfl)) xgs_nil rfl) rfl) rfl) rfl rfl) rfl rfl rfl) (xss_one (xs_if (PW.pt (xt_or (xt_cmp B.toBe.hK B.toBe.hu (xe_var rfl (Or.inl rfl) rfl rfl) (xe_var rfl (Or.inl rfl) rfl rfl) (by with_unfolding_all rfl)) (xt_or (xt_cmp B.toBe.hK B.toBe.hu (xe_var rfl (Or.inl rfl) rfl rfl) (xe_var rfl (Or.inl rfl) rfl rfl) (by with_unfolding_all rfl)) (xt_or (xt_cmp B.toBe.hK B.toBe.hu (xe_var rfl (Or.inl rfl) rfl rfl) (xe_var rfl (Or.inl rfl) rfl rfl) (by with_unfolding_all rfl)) (pw_or1 (xt_cmp B.toBe.hK B.toBe.hu (xe_var rfl (Or.inl rfl) rfl rfl) (xe_var rfl (Or.inl rfl) rfl rfl) (nomark _))))))) (xss_one (xs_raise (k := 1) B.toBe rfl T.e_InvalidRule T.ic_InvalidRule T.ti_ErrInit (init_ok (k := 0) T.F_ErrInit sc_ErrInit rfl (Or.inl rfl) (Or.inl rfl) (fun _ _ => rfl)) T.b_ErrInit rfl T.m_InvalidRule (xe_var rfl (Or.inl rfl) rfl rfl) rfl rfl rfl)) xss_nil))))
/-- check_rules -/
noncomputable def b_check_rules (m0 : Nat) : Ds := (sFor (iEnumD (aCons (dVar 1) aNil)) (gTp 2 (gsCons (gNm 2) (gsCons (gNm 3) gsNil))) (sSeq (sExp (dCall d_check_rule 2 false [false, false] (aCons (dVar 0) (aCons (dVar 3) aNil)))) (sIf (bOf (d2 (cmpVt .In) (dVar 3) (dSl false (dVar 1) none (some (dVar 2))))) (sRaise 4 (dVar 3)) sNil)))
noncomputable def d_check_rules : List T → Mu → Ot T := defD 2 4 b_check_rules
theorem sc_check_rules : FnScope ["kinds", "rules", "at", "rule"] ["kinds", "rules"] (defScope s_check_rules) := ⟨rfl, rfl, rfl, by decide +kernel, rfl, by decide +kernel, by decide +kernel⟩
theorem ok_check_rules (T : Tx K mg) : FnG P w K mg base 4 T.a_check_rules T.f_check_rules ["kinds", "rules"] (spD K T.tab d_check_rules 2) :=
  fnD (N := ["kinds", "rules", "at", "rule"]) (g := b_check_rules) T.F_check_rules sc_check_rules (fun cdv A outer s H E Z hK hT B => by
    obtain ⟨K1, TB1, Hz, F0, ms0⟩ := Z
    obtain rfl : K1 = K := hK
    obtain rfl : TB1 = T.tab := hT
    exact (xss_one (xs_for B.own B.toBe.calm (xi_enum B.toBe.hK rfl T.z_enumerate (xa_cons (xe_var rfl (Or.inl rfl) rfl rfl) xa_nil rfl) rfl) (xg_tup B.toBe.hK B.toBe.calm (xgs_cons (xg_nm B.toBe.nd rfl (Or.inl rfl) (Or.inl rfl)) (xgs_cons (xg_nm B.toBe.nd rfl (Or.inl rfl) (Or.inl rfl)) xgs_nil rfl) rfl) rfl rfl) (xss_cons (xs_exp (xe_call false [false, false] B.toBe ((ok_check_rule T).mono (by decide)) rfl T.m_check_rule T.k_check_rule T.b_check_rule (xa_cons (xe_var rfl (Or.inl rfl) rfl rfl) (xa_cons (xe_var rfl (Or.inl rfl) rfl rfl) xa_nil rfl) rfl) rfl rfl rfl rfl) rfl) (xss_one (xs_if (xt_cmp B.toBe.hK B.toBe.hu (xe_var rfl (Or.inl rfl) rfl rfl) (xe_sl B.toBe.hK false (xe_var rfl (Or.inl rfl) rfl rfl) PoD.none (PoD.some (xe_var rfl (Or.inl rfl) rfl rfl))) (by with_unfolding_all rfl)) (xss_one (xs_raise (k := 2) B.toBe rfl T.e_DoubleRule T.ic_DoubleRule T.ti_ErrInit (init_ok (k := 1) T.F_ErrInit sc_ErrInit rfl (Or.inl rfl) (Or.inl rfl) (fun _ _ => rfl)) T.b_ErrInit rfl T.m_DoubleRule (xe_var rfl (Or.inl rfl) rfl rfl) rfl rfl rfl)) xss_nil))) (fun _ => rfl))))
/-- move_of -/
noncomputable def b_move_of (m0 : Nat) : Ds := (sSeq (sAsg (dVar 1) (gTp 3 (gsCons (gNm 2) (gsCons (gNm 3) (gsCons (gNm 4) gsNil))))) (sRet (dTup (aCons (dMt idxV (dVar 0) (aCons (dVar 2) aNil)) (aCons (dMt idxV (dVar 0) (aCons (dVar 3) aNil)) (aCons (dMt idxV (dVar 0) (aCons (dVar 4) aNil)) aNil))))))
noncomputable def d_move_of : List T → Mu → Ot T := defD 2 5 b_move_of
theorem sc_move_of : FnScope ["kinds", "rule", "kind", "seen", "new"] ["kinds", "rule"] (defScope s_move_of) := ⟨rfl, rfl, rfl, by decide +kernel, rfl, by decide +kernel, by decide +kernel⟩
theorem ok_move_of (T : Tx K mg) : FnG P w K mg base 1 T.a_move_of T.f_move_of ["kinds", "rule"] (spD K T.tab d_move_of 2) :=
  fnD (N := ["kinds", "rule", "kind", "seen", "new"]) (g := b_move_of) T.F_move_of sc_move_of (fun cdv A outer s H E Z hK hT B => by
    obtain ⟨K1, TB1, Hz, F0, ms0⟩ := Z
    obtain rfl : K1 = K := hK
    obtain rfl : TB1 = T.tab := hT
    exact (xss_cons (xs_asg (xe_var rfl (Or.inl rfl) rfl rfl) (xg_tup B.toBe.hK B.toBe.calm (xgs_cons (xg_nm B.toBe.nd rfl (Or.inl rfl) (Or.inl rfl)) (xgs_cons (xg_nm B.toBe.nd rfl (Or.inl rfl) (Or.inl rfl)) (xgs_cons (xg_nm B.toBe.nd rfl (Or.inl rfl) (Or.inl rfl)) xgs_nil rfl) rfl) rfl) rfl rfl) rfl rfl rfl) (xss_one (xs_ret (xe_tup (xa_cons (xe_mt B.toBe.hK PySem.F.slot_list_index PySem.F.type_list_index (mt_idx B.toBe.hK B.toBe.hu) (xe_var rfl (Or.inl rfl) rfl rfl) (xa_cons (xe_var rfl (Or.inl rfl) rfl rfl) xa_nil rfl) rfl rfl rfl rfl rfl) (xa_cons (xe_mt B.toBe.hK PySem.F.slot_list_index PySem.F.type_list_index (mt_idx B.toBe.hK B.toBe.hu) (xe_var rfl (Or.inl rfl) rfl rfl) (xa_cons (xe_var rfl (Or.inl rfl) rfl rfl) xa_nil rfl) rfl rfl rfl rfl rfl) (xa_cons (xe_mt B.toBe.hK PySem.F.slot_list_index PySem.F.type_list_index (mt_idx B.toBe.hK B.toBe.hu) (xe_var rfl (Or.inl rfl) rfl rfl) (xa_cons (xe_var rfl (Or.inl rfl) rfl rfl) xa_nil rfl) rfl rfl rfl rfl rfl) xa_nil rfl) rfl) rfl))))))
/-- Book.__init__ -/
noncomputable def b_Book_init (m0 : Nat) : Ds := (sSeq (sExp (dCall d_check_names 1 false [false] (aCons (dVar 1) aNil))) (sSeq (sExp (dCall d_check_rules 2 false [false, false] (aCons (dVar 1) (aCons (dVar 2) aNil)))) (sSeq (sFldD 0 0 (dVar 0) (dBi (listV false) (aCons (dVar 1) aNil))) (sFldD 0 1 (dVar 0) (dBi (sortV false) (aCons (dLc false m0 (iSeq true (dVar 2)) (gNm 3) bYes (dCall d_move_of 2 false [false, false] (aCons (dVar 1) (aCons (dVar 3) aNil))) [3]) aNil))))))
noncomputable def d_Book_init : List T → Mu → Ot T := defD 3 4 b_Book_init
theorem sc_Book_init : FnScope ["self", "kinds", "rules", "rule"] ["self", "kinds", "rules"] (defScope s_Book_init) := ⟨rfl, rfl, rfl, by decide +kernel, rfl, by decide +kernel, by decide +kernel⟩
theorem ok_Book_init (T : Tx K mg) : FnG P w K mg base 5 T.a_Book_init T.f_Book_init ["self", "kinds", "rules"] (spD K T.tab d_Book_init 3) :=
  fnD (N := ["self", "kinds", "rules", "rule"]) (g := b_Book_init) T.F_Book_init sc_Book_init (fun cdv A outer s H E Z hK hT B => by
    obtain ⟨K1, TB1, Hz, F0, ms0⟩ := Z
    obtain rfl : K1 = K := hK
    obtain rfl : TB1 = T.tab := hT
    exact (xss_cons (xs_exp (xe_call false [false] B.toBe ((ok_check_names T).mono (by decide)) rfl T.m_check_names T.k_check_names T.b_check_names (xa_cons (xe_var rfl (Or.inr (Or.inl rfl)) rfl rfl) xa_nil rfl) rfl rfl rfl rfl) rfl) (xss_cons (xs_exp (xe_call false [false, false] B.toBe ((ok_check_rules T).mono (by decide)) rfl T.m_check_rules T.k_check_rules T.b_check_rules (xa_cons (xe_var rfl (Or.inr (Or.inl rfl)) rfl rfl) (xa_cons (xe_var rfl (Or.inl rfl) rfl rfl) xa_nil rfl) rfl) rfl rfl rfl rfl) rfl) (xss_cons (xs_fld B.toBe.hK (i := 0) (c := 0) rfl rfl (by decide +kernel) (by decide) T.c_Book T.n_Book_kinds (xe_var rfl (Or.inl rfl) rfl rfl) (xe_ty (call_listV B.toBe.hK false) rfl T.z_list rfl (xa_cons (xe_var rfl (Or.inr (Or.inl rfl)) rfl rfl) xa_nil rfl) (by decide) rfl rfl rfl) rfl) (xss_one (xs_fld B.toBe.hK (i := 1) (c := 0) rfl rfl (by decide +kernel) (by decide) T.c_Book T.n_Book_moves (xe_var rfl (Or.inl rfl) rfl rfl) (xe_bi (call_sortV B.toBe false) rfl T.z_sorted rfl (xa_cons (xe_lc false (own := [("rule", 3)]) rfl B.toBe.calm B.toBe.nd (xi_lst B.toBe.hK (xe_var rfl (Or.inl rfl) rfl rfl)) (blkOk_by rfl) (by decide) (fun s1 H1 C1 cl1 fp1 => (xg_nm (Be.blk B.toBe s1 H1 _ C1 cl1 fp1).nd rfl (Or.inl rfl) (Or.inr rfl))) (fun s1 H1 C1 cl1 fp1 => xts_nil) (fun s1 H1 C1 cl1 fp1 => (xe_call false [false, false] (Be.blk B.toBe s1 H1 _ C1 cl1 fp1) ((ok_move_of T).mono (by decide)) rfl T.m_move_of T.k_move_of T.b_move_of (xa_cons (xe_var rfl (Or.inr (Or.inl rfl)) rfl rfl) (xa_cons (xe_var rfl (Or.inl rfl) rfl rfl) xa_nil rfl) rfl) rfl rfl rfl rfl)) (fun _ => rfl)) xa_nil rfl) (by decide) rfl rfl rfl) rfl))))))
/-- _law_caught -/
noncomputable def b_law_caught (m0 : Nat) : Ds := (sSeq (sSet 3 (dAtm .non)) (sSeq (sTry 4 (sIf (bOf (d2 (cmpVt .Eq) (dVar 2) (dAtm (.int 0)))) (sExp (dMake d_Book_init 3 0 2 false false [false, false] m0 (aCons (dVar 0) (aCons (dVar 1) aNil)))) (sExp (dMakeK d_Book_init 3 0 2 false false [false, false] m0 [1, 0] 2 (aCons (dVar 1) (aCons (dVar 0) aNil))))) (fun c t => (sSeq (sSet 3 (dLst false (aCons (dAtm (.bl (exIs c 1))) (aCons (dAtm (.bl (exIs c 2))) (aCons (dAtm (.bl (exIs c 3))) aNil))))) (sSet 3 (d2 (binV false .Add) (dVar 3) (dLst false (aCons (dAtm (.bl (exIs c 4))) (aCons (dXv t) aNil)))))))) (sRet (dVar 3))))
noncomputable def d_law_caught : List T → Mu → Ot T := defD 3 5 b_law_caught
theorem sc_law_caught : FnScope ["kinds_here", "rules_here", "way", "caught", "e"] ["kinds_here", "rules_here", "way"] (defScope s_law_caught) := ⟨rfl, rfl, rfl, by decide +kernel, rfl, by decide +kernel, by decide +kernel⟩
theorem ok_law_caught (T : Tx K mg) : FnG P w K mg base 7 T.a_law_caught T.f_law_caught ["kinds_here", "rules_here", "way"] (spD K T.tab d_law_caught 3) :=
  fnD (N := ["kinds_here", "rules_here", "way", "caught", "e"]) (g := b_law_caught) T.F_law_caught sc_law_caught (fun cdv A outer s H E Z hK hT B => by
    obtain ⟨K1, TB1, Hz, F0, ms0⟩ := Z
    obtain rfl : K1 = K := hK
    obtain rfl : TB1 = T.tab := hT
    exact (xss_cons (xs_set B.toBe.nd rfl (Or.inl rfl) (xe_atm pe_non (fun _ => Dx.non)) rfl (Or.inl rfl)) (xss_cons (xs_try (i := 4) B.toBe rfl rfl rfl rfl ⟨rfl, by decide, .inl T.m_CrowdError⟩ T.exm (fun W1 pn1 xe1 tk1 hp1 => (xss_one (xs_if (xt_cmp (Bs.tr B tk1 hp1).toBe.hK (Bs.tr B tk1 hp1).toBe.hu (xe_var rfl (Or.inl rfl) rfl rfl) (xe_atm pe_int (fun _ => Dx.int _)) (nomark _)) (xss_one (xs_exp (xe_make false false [false, false] (Bs.tr B tk1 hp1).toBe rfl T.mk_Book rfl rfl ((ok_Book_init T).mono (by decide)) rfl T.m_Book T.b_Book_init (xa_cons (xe_var rfl (Or.inl rfl) rfl rfl) (xa_cons (xe_var rfl (Or.inl rfl) rfl rfl) xa_nil rfl) rfl) rfl rfl rfl) rfl)) (xss_one (xs_exp (xe_makeK false false [false, false] (ks := ["rules", "kinds"]) (pm := [1, 0]) (Bs.tr B tk1 hp1).toBe rfl T.mk_Book rfl rfl ((ok_Book_init T).mono (by decide)) rfl T.m_Book T.kb_Book_init_10 (xk_cons (xe_var rfl (Or.inl rfl) rfl rfl) (xk_cons (xe_var rfl (Or.inl rfl) rfl rfl) xk_nil)) rfl rfl rfl rfl) rfl))))) (fun a oe cls d pn c t hz hf => (xxs_setc (by decide) B.toBe.nd rfl (Or.inl rfl) (xx_lst false (xx_cons (xx_isi (T.errs _) (T.kit_InvalidName _) hz hf rfl T.z_isinstance rfl T.m_InvalidName rfl rfl (Or.inl rfl) rfl rfl rfl rfl rfl) (xx_cons (xx_isi (T.errs _) (T.kit_DoubleName _) hz hf rfl T.z_isinstance rfl T.m_DoubleName rfl rfl (Or.inl rfl) rfl rfl rfl rfl rfl) (xx_cons (xx_isi (T.errs _) (T.kit_InvalidRule _) hz hf rfl T.z_isinstance rfl T.m_InvalidRule rfl rfl (Or.inl rfl) rfl rfl rfl rfl rfl) xx_nil rfl) rfl) rfl)) rfl (Or.inl rfl) (xxs_one (xxs_set B.toBe.nd rfl (Or.inl rfl) (xx_binS B.toBe.hK false (xx_old (xe_var rfl (Or.inl rfl) rfl rfl)) (xx_lst false (xx_cons (xx_isi (T.errs _) (T.kit_DoubleRule _) hz hf rfl T.z_isinstance rfl T.m_DoubleRule rfl rfl (Or.inl rfl) rfl rfl rfl rfl rfl) (xx_cons (xx_val (T.errs _) hz hf rfl (Or.inl rfl) rfl rfl rfl) xx_nil rfl) rfl))) rfl (Or.inl rfl)))))) (xss_one (xs_ret (xe_var rfl (Or.inl rfl) rfl rfl))))))
/-- _law_is_word -/
noncomputable def b_law_is_word (m0 : Nat) : Ds := (sSeq (sSet 1 (dAtm (.str "abcdefghijklmnopqrstuvwxyz"))) (sRet (dAnd (dChain .Lt .Lt (dAtm (.int 0)) (dBi lenV (aCons (dVar 0) aNil)) (dAtm (.int 9))) (d2 (cmpVt .Eq) (dLc false m0 (iTxt (dVar 0)) (gNm 2) (bOf (d2 (cmpVt .NotIn) (dVar 2) (dVar 1))) (dVar 2) [2]) (dLst false aNil)))))
noncomputable def d_law_is_word : List T → Mu → Ot T := defD 1 3 b_law_is_word
theorem sc_law_is_word : FnScope ["text", "letters", "sign"] ["text"] (defScope s_law_is_word) := ⟨rfl, rfl, rfl, by decide +kernel, rfl, by decide +kernel, by decide +kernel⟩
theorem ok_law_is_word (T : Tx K mg) : FnG P w K mg base 1 T.a_law_is_word T.f_law_is_word ["text"] (spD K T.tab d_law_is_word 1) :=
  fnD (N := ["text", "letters", "sign"]) (g := b_law_is_word) T.F_law_is_word sc_law_is_word (fun cdv A outer s H E Z hK hT B => by
    obtain ⟨K1, TB1, Hz, F0, ms0⟩ := Z
    obtain rfl : K1 = K := hK
    obtain rfl : TB1 = T.tab := hT
    exact (xss_cons (xs_set B.toBe.nd rfl (Or.inr rfl) (xe_atm pe_str (fun _ => Dx.str _)) rfl (Or.inl rfl)) (xss_one (xs_ret (xe_and (xe_chain B.toBe (xe_atm pe_int (fun _ => Dx.int _)) (xe_bi (call_lenV B.toBe.hK) rfl T.z_len rfl (xa_cons (xe_var rfl (Or.inl rfl) rfl rfl) xa_nil rfl) (by decide) rfl rfl rfl) (xe_atm pe_int (fun _ => Dx.int _)) (by with_unfolding_all rfl)) (pe_one (xe_cmp B.toBe.hK B.toBe.hu (xe_lc false (own := [("sign", 2)]) rfl B.toBe.calm B.toBe.nd (xi_txt (xe_var rfl (Or.inl rfl) rfl rfl)) (blkOk_by rfl) (by decide) (fun s1 H1 C1 cl1 fp1 => (xg_nm (Be.blk B.toBe s1 H1 _ C1 cl1 fp1).nd rfl (Or.inl rfl) (Or.inr rfl))) (fun s1 H1 C1 cl1 fp1 => (xts_one (xt_cmp (Be.blk B.toBe s1 H1 _ C1 cl1 fp1).hK (Be.blk B.toBe s1 H1 _ C1 cl1 fp1).hu (xe_var rfl (Or.inl rfl) rfl rfl) (xe_var rfl (Or.inr (Or.inl rfl)) rfl rfl) (by with_unfolding_all rfl)))) (fun s1 H1 C1 cl1 fp1 => (xe_var rfl (Or.inl rfl) rfl rfl)) (fun _ => rfl)) (xe_lst false xa_nil) (nomark _))))))))
/-- _law_due -/
noncomputable def b_law_due (m0 : Nat) : Ds := (sSeq (sFor (iEnumD (aCons (dVar 0) aNil)) (gTp 2 (gsCons (gNm 2) (gsCons (gNm 3) gsNil))) (sSeq (sIf (bNot (bTru (dFrz m0 (dCall d_law_is_word 1 false [false] (aCons (dVar 3) aNil))))) (sRet (dLst true (aCons (dAtm (.bl true)) (aCons (dAtm (.bl false)) (aCons (dAtm (.bl false)) (aCons (dAtm (.bl false)) (aCons (dVar 3) aNil))))))) sNil) (sIf (bOf (d2 (cmpVt .In) (dVar 3) (dSl false (dVar 0) none (some (dVar 2))))) (sRet (dLst true (aCons (dAtm (.bl false)) (aCons (dAtm (.bl true)) (aCons (dAtm (.bl false)) (aCons (dAtm (.bl false)) (aCons (dVar 3) aNil))))))) sNil))) (sSeq (sFor (iEnumD (aCons (dVar 1) aNil)) (gTp 2 (gsCons (gNm 2) (gsCons (gNm 4) gsNil))) (sSeq (sSet 5 (dLc false m0 (iSeq false (dVar 4)) (gNm 3) (bOf (d2 (cmpVt .NotIn) (dVar 3) (dVar 0))) (dVar 3) [3])) (sSeq (sIf (bOr (bOf (d2 (cmpVt .NotEq) (dVar 5) (dLst false aNil))) (bOf (d2 (cmpVt .Eq) (d2 ixV (dVar 4) (dAtm (.int 2))) (d2 ixV (dVar 4) (dAtm (.int 0)))))) (sRet (dLst true (aCons (dAtm (.bl false)) (aCons (dAtm (.bl false)) (aCons (dAtm (.bl true)) (aCons (dAtm (.bl false)) (aCons (dVar 4) aNil))))))) sNil) (sIf (bOf (d2 (cmpVt .In) (dVar 4) (dSl false (dVar 1) none (some (dVar 2))))) (sRet (dLst true (aCons (dAtm (.bl false)) (aCons (dAtm (.bl false)) (aCons (dAtm (.bl false)) (aCons (dAtm (.bl true)) (aCons (dVar 4) aNil))))))) sNil)))) (sRet (dAtm .non))))
noncomputable def d_law_due : List T → Mu → Ot T := defD 2 6 b_law_due
theorem sc_law_due : FnScope ["kinds_here", "rules_here", "at", "name", "rule_here", "strange"] ["kinds_here", "rules_here"] (defScope s_law_due) := ⟨rfl, rfl, rfl, by decide +kernel, rfl, by decide +kernel, by decide +kernel⟩
theorem ok_law_due (T : Tx K mg) : FnG P w K mg base 2 T.a_law_due T.f_law_due ["kinds_here", "rules_here"] (spD K T.tab d_law_due 2) :=
  fnD (N := ["kinds_here", "rules_here", "at", "name", "rule_here", "strange"]) (g := b_law_due) T.F_law_due sc_law_due (fun cdv A outer s H E Z hK hT B => by
    obtain ⟨K1, TB1, Hz, F0, ms0⟩ := Z
    obtain rfl : K1 = K := hK
    obtain rfl : TB1 = T.tab := hT
    exact (xss_cons (xs_for B.own B.toBe.calm (xi_enum B.toBe.hK rfl T.z_enumerate (xa_cons (xe_var rfl (Or.inr (Or.inl rfl)) rfl rfl) xa_nil rfl) rfl) (xg_tup B.toBe.hK B.toBe.calm (xgs_cons (xg_nm B.toBe.nd rfl (Or.inl rfl) (Or.inl rfl)) (xgs_cons (xg_nm B.toBe.nd rfl (Or.inl rfl) (Or.inl rfl)) xgs_nil rfl) rfl) rfl rfl) (xss_cons (xs_if (xt_not (xt_tru B.toBe.hK (xe_frz rfl (xe_call false [false] B.toBe ((ok_law_is_word T).mono (by decide)) rfl T.m_law_is_word T.k_law_is_word T.b_law_is_word (xa_cons (xe_var rfl (Or.inl rfl) rfl rfl) xa_nil rfl) rfl rfl rfl rfl)) (fun _ => rfl))) (xss_one (xs_ret (xe_lst true (xa_cons (xe_atm pe_bl (fun _ => Dx.bl _)) (xa_cons (xe_atm pe_bl (fun _ => Dx.bl _)) (xa_cons (xe_atm pe_bl (fun _ => Dx.bl _)) (xa_cons (xe_atm pe_bl (fun _ => Dx.bl _)) (xa_cons (xe_var rfl (Or.inl rfl) rfl rfl) xa_nil rfl) rfl) rfl) rfl) rfl)))) xss_nil) (xss_one (xs_if (xt_cmp B.toBe.hK B.toBe.hu (xe_var rfl (Or.inl rfl) rfl rfl) (xe_sl B.toBe.hK false (xe_var rfl (Or.inr (Or.inl rfl)) rfl rfl) PoD.none (PoD.some (xe_var rfl (Or.inl rfl) rfl rfl))) (by with_unfolding_all rfl)) (xss_one (xs_ret (xe_lst true (xa_cons (xe_atm pe_bl (fun _ => Dx.bl _)) (xa_cons (xe_atm pe_bl (fun _ => Dx.bl _)) (xa_cons (xe_atm pe_bl (fun _ => Dx.bl _)) (xa_cons (xe_atm pe_bl (fun _ => Dx.bl _)) (xa_cons (xe_var rfl (Or.inl rfl) rfl rfl) xa_nil rfl) rfl) rfl) rfl) rfl)))) xss_nil))) (fun _ => rfl)) (xss_cons (xs_for B.own B.toBe.calm (xi_enum B.toBe.hK rfl T.z_enumerate (xa_cons (xe_var rfl (Or.inl rfl) rfl rfl) xa_nil rfl) rfl) (xg_tup B.toBe.hK B.toBe.calm (xgs_cons (xg_nm B.toBe.nd rfl (Or.inl rfl) (Or.inl rfl)) (xgs_cons (xg_nm B.toBe.nd rfl (Or.inl rfl) (Or.inl rfl)) xgs_nil rfl) rfl) rfl rfl) (xss_cons (xs_setLc false (own := [("name", 3)]) rfl B.toBe.calm B.toBe.nd rfl rfl rfl (xi_tup B.toBe.hK (xe_var rfl (Or.inl rfl) rfl rfl)) (blkOk_by rfl) (by decide) (fun s1 H1 C1 cl1 fp1 => (xg_nm (Be.blk B.toBe s1 H1 _ C1 cl1 fp1).nd rfl (Or.inl rfl) (Or.inr rfl))) (fun s1 H1 C1 cl1 fp1 => (xts_one (xt_cmp (Be.blk B.toBe s1 H1 _ C1 cl1 fp1).hK (Be.blk B.toBe s1 H1 _ C1 cl1 fp1).hu (xe_var rfl (Or.inl rfl) rfl rfl) (xe_var rfl (Or.inr (Or.inl rfl)) rfl rfl) (by with_unfolding_all rfl)))) (fun s1 H1 C1 cl1 fp1 => (xe_var rfl (Or.inl rfl) rfl rfl)) (fun _ => rfl)) (xss_cons (xs_if (PW.pt (xt_or (xt_cmp B.toBe.hK B.toBe.hu (xe_var rfl (Or.inl rfl) rfl rfl) (xe_lst false xa_nil) (nomark _)) (pw_or1 (xt_cmp B.toBe.hK B.toBe.hu (xe_ix B.toBe.hK (xe_var rfl (Or.inl rfl) rfl rfl) (xe_atm pe_int (fun _ => Dx.int _)) (fun _ _ => rfl)) (xe_ix B.toBe.hK (xe_var rfl (Or.inl rfl) rfl rfl) (xe_atm pe_int (fun _ => Dx.int _)) (fun _ _ => rfl)) (nomark _))))) (xss_one (xs_ret (xe_lst true (xa_cons (xe_atm pe_bl (fun _ => Dx.bl _)) (xa_cons (xe_atm pe_bl (fun _ => Dx.bl _)) (xa_cons (xe_atm pe_bl (fun _ => Dx.bl _)) (xa_cons (xe_atm pe_bl (fun _ => Dx.bl _)) (xa_cons (xe_var rfl (Or.inl rfl) rfl rfl) xa_nil rfl) rfl) rfl) rfl) rfl)))) xss_nil) (xss_one (xs_if (xt_cmp B.toBe.hK B.toBe.hu (xe_var rfl (Or.inl rfl) rfl rfl) (xe_sl B.toBe.hK false (xe_var rfl (Or.inl rfl) rfl rfl) PoD.none (PoD.some (xe_var rfl (Or.inl rfl) rfl rfl))) (by with_unfolding_all rfl)) (xss_one (xs_ret (xe_lst true (xa_cons (xe_atm pe_bl (fun _ => Dx.bl _)) (xa_cons (xe_atm pe_bl (fun _ => Dx.bl _)) (xa_cons (xe_atm pe_bl (fun _ => Dx.bl _)) (xa_cons (xe_atm pe_bl (fun _ => Dx.bl _)) (xa_cons (xe_var rfl (Or.inl rfl) rfl rfl) xa_nil rfl) rfl) rfl) rfl) rfl)))) xss_nil)))) (fun _ => rfl)) (xss_one (xs_ret (xe_atm pe_non (fun _ => Dx.non)))))))
/-- _law_right -/
noncomputable def b_law_right (m0 : Nat) : Ds := (sSeq (sSet 1 (dFrz m0 (dCall d_law_manual 3 false [true, false, false] (aCons (dVar 0) (aCons (dAtm (.int 5)) (aCons (dAtm (.int 5)) aNil)))))) (sSeq (sAsg (dVar 1) (gTp 2 (gsCons (gNm 2) (gsCons (gNm 3) gsNil)))) (sSeq (sFor (iRng1D (aCons (dAtm (.int 4)) aNil)) (gNm 4) (sSeq (sPar 5 6 (aCons (dBi reprV (aCons (dLst false (aCons (dVar 2) (aCons (dVar 3) aNil))) aNil)) (aCons (dBi reprV (aCons (dFrz m0 (dCall d_law_due 2 false [false, false] (aCons (dVar 2) (aCons (dVar 3) aNil)))) aNil)) aNil))) (sSeq (sIf (bOf (d2 (cmpVt .NotEq) (dLc false m0 (iSeq false (dTup (aCons (dAtm (.int 0)) (aCons (dAtm (.int 1)) aNil)))) (gNm 7) bYes (dBi reprV (aCons (dFrz m0 (dCall d_law_caught 3 false [false, false, false] (aCons (dVar 2) (aCons (dVar 3) (aCons (dVar 7) aNil))))) aNil)) [7]) (dLst false (aCons (dVar 6) (aCons (dVar 6) aNil))))) (sRet (dAtm (.bl false))) sNil) (sSeq (sIf (bOf (d2 (cmpVt .NotEq) (dBi reprV (aCons (dLst false (aCons (dVar 2) (aCons (dVar 3) aNil))) aNil)) (dVar 5))) (sRet (dAtm (.bl false))) sNil) (sAsg (dFrz m0 (dCall d_law_spoilt 3 false [true, false, false] (aCons (dVar 0) (aCons (dVar 2) (aCons (dVar 3) aNil))))) (gTp 2 (gsCons (gNm 2) (gsCons (gNm 3) gsNil)))))))) (sRet (d2 (cmpVt .Eq) (dBi reprV (aCons (dFrz m0 (dCall d_law_caught 3 false [false, false, false] (aCons (dVar 2) (aCons (dVar 3) (aCons (dAtm (.int 0)) aNil))))) aNil)) (dBi reprV (aCons (dFrz m0 (dCall d_law_due 2 false [false, false] (aCons (dVar 2) (aCons (dVar 3) aNil)))) aNil)))))))
noncomputable def d_law_right : List T → Mu → Ot T := defD 1 8 b_law_right
theorem sc_law_right : FnScope ["mill", "plan", "kinds_here", "rules_here", "turn", "kept", "due", "way"] ["mill"] (defScope s_law_right) := ⟨rfl, rfl, rfl, by decide +kernel, rfl, by decide +kernel, by decide +kernel⟩
theorem ok_law_right (T : Tx K mg) : FnG P w K mg base 8 T.a_law_right T.f_law_right ["mill"] (spD K T.tab d_law_right 1) :=
  fnD (N := ["mill", "plan", "kinds_here", "rules_here", "turn", "kept", "due", "way"]) (g := b_law_right) T.F_law_right sc_law_right (fun cdv A outer s H E Z hK hT B => by
    obtain ⟨K1, TB1, Hz, F0, ms0⟩ := Z
    obtain rfl : K1 = K := hK
    obtain rfl : TB1 = T.tab := hT
    exact (xss_cons (xs_set B.toBe.nd rfl (Or.inl rfl) (xe_frz rfl (xe_call false [true, false, false] B.toBe ((ok_law_manual T).mono (by decide)) rfl T.m_law_manual T.k_law_manual T.b_law_manual (xa_cons (xe_var rfl (Or.inl rfl) rfl rfl) (xa_cons (xe_atm pe_int (fun _ => Dx.int _)) (xa_cons (xe_atm pe_int (fun _ => Dx.int _)) xa_nil rfl) rfl) rfl) rfl rfl rfl rfl)) rfl (Or.inl rfl)) (xss_cons (xs_asg (xe_var rfl (Or.inl rfl) rfl rfl) (xg_tup B.toBe.hK B.toBe.calm (xgs_cons (xg_nm B.toBe.nd rfl (Or.inr rfl) (Or.inl rfl)) (xgs_cons (xg_nm B.toBe.nd rfl (Or.inr rfl) (Or.inl rfl)) xgs_nil rfl) rfl) rfl rfl) rfl rfl rfl) (xss_cons (xs_for B.own B.toBe.calm (xi_rng1 rfl T.z_range (xa_cons (xe_atm pe_int (fun _ => Dx.int _)) xa_nil rfl) rfl) (xg_nm B.toBe.nd rfl (Or.inl rfl) (Or.inl rfl)) (xss_cons (xs_par B.toBe.calm B.toBe.nd rfl rfl (by decide) rfl rfl (xa_cons (xe_bi (call_reprV B.toBe.hK B.toBe.gd B.toBe.hu) rfl T.z_repr rfl (xa_cons (xe_lst false (xa_cons (xe_var rfl (Or.inr (Or.inl rfl)) rfl rfl) (xa_cons (xe_var rfl (Or.inr (Or.inl rfl)) rfl rfl) xa_nil rfl) rfl)) xa_nil rfl) (by decide) rfl rfl rfl) (xa_cons (xe_bi (call_reprV B.toBe.hK B.toBe.gd B.toBe.hu) rfl T.z_repr rfl (xa_cons (xe_frz rfl (xe_call false [false, false] B.toBe ((ok_law_due T).mono (by decide)) rfl T.m_law_due T.k_law_due T.b_law_due (xa_cons (xe_var rfl (Or.inr (Or.inl rfl)) rfl rfl) (xa_cons (xe_var rfl (Or.inr (Or.inl rfl)) rfl rfl) xa_nil rfl) rfl) rfl rfl rfl rfl)) xa_nil rfl) (by decide) rfl rfl rfl) xa_nil rfl) rfl) rfl rfl) (xss_cons (xs_if (xt_cmp B.toBe.hK B.toBe.hu (xe_lc false (own := [("way", 7)]) rfl B.toBe.calm B.toBe.nd (xi_tup B.toBe.hK (xe_tup (xa_cons (xe_atm pe_int (fun _ => Dx.int _)) (xa_cons (xe_atm pe_int (fun _ => Dx.int _)) xa_nil rfl) rfl))) (blkOk_by rfl) (by decide) (fun s1 H1 C1 cl1 fp1 => (xg_nm (Be.blk B.toBe s1 H1 _ C1 cl1 fp1).nd rfl (Or.inl rfl) (Or.inr rfl))) (fun s1 H1 C1 cl1 fp1 => xts_nil) (fun s1 H1 C1 cl1 fp1 => (xe_bi (call_reprV (Be.blk B.toBe s1 H1 _ C1 cl1 fp1).hK (Be.blk B.toBe s1 H1 _ C1 cl1 fp1).gd (Be.blk B.toBe s1 H1 _ C1 cl1 fp1).hu) rfl T.z_repr rfl (xa_cons (xe_frz rfl (xe_call false [false, false, false] (Be.blk B.toBe s1 H1 _ C1 cl1 fp1) ((ok_law_caught T).mono (by decide)) rfl T.m_law_caught T.k_law_caught T.b_law_caught (xa_cons (xe_var rfl (Or.inr (Or.inl rfl)) rfl rfl) (xa_cons (xe_var rfl (Or.inr (Or.inl rfl)) rfl rfl) (xa_cons (xe_var rfl (Or.inl rfl) rfl rfl) xa_nil rfl) rfl) rfl) rfl rfl rfl rfl)) xa_nil rfl) (by decide) rfl rfl rfl)) (fun _ => rfl)) (xe_lst false (xa_cons (xe_var rfl (Or.inl rfl) rfl rfl) (xa_cons (xe_var rfl (Or.inl rfl) rfl rfl) xa_nil rfl) rfl)) (nomark _)) (xss_one (xs_ret (xe_atm pe_bl (fun _ => Dx.bl _)))) xss_nil) (xss_cons (xs_if (xt_cmp B.toBe.hK B.toBe.hu (xe_bi (call_reprV B.toBe.hK B.toBe.gd B.toBe.hu) rfl T.z_repr rfl (xa_cons (xe_lst false (xa_cons (xe_var rfl (Or.inr (Or.inl rfl)) rfl rfl) (xa_cons (xe_var rfl (Or.inr (Or.inl rfl)) rfl rfl) xa_nil rfl) rfl)) xa_nil rfl) (by decide) rfl rfl rfl) (xe_var rfl (Or.inl rfl) rfl rfl) (nomark _)) (xss_one (xs_ret (xe_atm pe_bl (fun _ => Dx.bl _)))) xss_nil) (xss_one (xs_asg (xe_frz rfl (xe_call false [true, false, false] B.toBe ((ok_law_spoilt T).mono (by decide)) rfl T.m_law_spoilt T.k_law_spoilt T.b_law_spoilt (xa_cons (xe_var rfl (Or.inl rfl) rfl rfl) (xa_cons (xe_var rfl (Or.inr (Or.inl rfl)) rfl rfl) (xa_cons (xe_var rfl (Or.inr (Or.inl rfl)) rfl rfl) xa_nil rfl) rfl) rfl) rfl rfl rfl rfl)) (xg_tup B.toBe.hK B.toBe.calm (xgs_cons (xg_nm B.toBe.nd rfl (Or.inr rfl) (Or.inl rfl)) (xgs_cons (xg_nm B.toBe.nd rfl (Or.inr rfl) (Or.inl rfl)) xgs_nil rfl) rfl) rfl rfl) rfl rfl rfl))))) (fun _ => rfl)) (xss_one (xs_ret (xe_cmp B.toBe.hK B.toBe.hu (xe_bi (call_reprV B.toBe.hK B.toBe.gd B.toBe.hu) rfl T.z_repr rfl (xa_cons (xe_frz rfl (xe_call false [false, false, false] B.toBe ((ok_law_caught T).mono (by decide)) rfl T.m_law_caught T.k_law_caught T.b_law_caught (xa_cons (xe_var rfl (Or.inr (Or.inl rfl)) rfl rfl) (xa_cons (xe_var rfl (Or.inr (Or.inl rfl)) rfl rfl) (xa_cons (xe_atm pe_int (fun _ => Dx.int _)) xa_nil rfl) rfl) rfl) rfl rfl rfl rfl)) xa_nil rfl) (by decide) rfl rfl rfl) (xe_bi (call_reprV B.toBe.hK B.toBe.gd B.toBe.hu) rfl T.z_repr rfl (xa_cons (xe_frz rfl (xe_call false [false, false] B.toBe ((ok_law_due T).mono (by decide)) rfl T.m_law_due T.k_law_due T.b_law_due (xa_cons (xe_var rfl (Or.inr (Or.inl rfl)) rfl rfl) (xa_cons (xe_var rfl (Or.inr (Or.inl rfl)) rfl rfl) xa_nil rfl) rfl) rfl rfl rfl rfl)) xa_nil rfl) (by decide) rfl rfl rfl) (nomark _))))))))
/-- law -/
noncomputable def b_law (m0 : Nat) : Ds := (sSeq (sFor (iRng1D (aCons (dBi min2V (aCons (dAtm (.int 24)) (aCons (dBi max2V (aCons (dAtm (.int 1)) (aCons (dBi lenV (aCons (dVar 0) aNil)) aNil))) aNil))) aNil)) (gNm 1) (sSeq (sSet 2 (dCall d_law_mill 2 false [false, false] (aCons (dVar 0) (aCons (dVar 1) aNil)))) (sIf (bNot (bTru (dCall d_law_right 1 false [true] (aCons (dVar 2) aNil)))) (sRet (dAtm (.bl false))) sNil))) (sRet (dAtm (.bl true))))
noncomputable def d_law : List T → Mu → Ot T := defD 1 3 b_law
theorem sc_law : FnScope ["script", "place", "mill"] ["script"] (defScope s_law) := ⟨rfl, rfl, rfl, by decide +kernel, rfl, by decide +kernel, by decide +kernel⟩
theorem ok_law (T : Tx K mg) : FnG P w K mg base 9 T.a_law T.f_law ["script"] (spD K T.tab d_law 1) :=
  fnD (N := ["script", "place", "mill"]) (g := b_law) T.F_law sc_law (fun cdv A outer s H E Z hK hT B => by
    obtain ⟨K1, TB1, Hz, F0, ms0⟩ := Z
    obtain rfl : K1 = K := hK
    obtain rfl : TB1 = T.tab := hT
    exact (xss_cons (xs_for B.own B.toBe.calm (xi_rng1 rfl T.z_range (xa_cons (xe_bi (call_min2V B.toBe.calm) rfl T.z_min rfl (xa_cons (xe_atm pe_int (fun _ => Dx.int _)) (xa_cons (xe_bi (call_max2V B.toBe.calm) rfl T.z_max rfl (xa_cons (xe_atm pe_int (fun _ => Dx.int _)) (xa_cons (xe_bi (call_lenV B.toBe.hK) rfl T.z_len rfl (xa_cons (xe_var rfl (Or.inl rfl) rfl rfl) xa_nil rfl) (by decide) rfl rfl rfl) xa_nil rfl) rfl) (by decide) rfl rfl rfl) xa_nil rfl) rfl) (by decide) rfl rfl rfl) xa_nil rfl) rfl) (xg_nm B.toBe.nd rfl (Or.inl rfl) (Or.inl rfl)) (xss_cons (xs_set B.toBe.nd rfl (Or.inl rfl) (xe_call false [false, false] B.toBe ((ok_law_mill T).mono (by decide)) rfl T.m_law_mill T.k_law_mill T.b_law_mill (xa_cons (xe_var rfl (Or.inl rfl) rfl rfl) (xa_cons (xe_var rfl (Or.inl rfl) rfl rfl) xa_nil rfl) rfl) rfl rfl rfl rfl) rfl (Or.inl rfl)) (xss_one (xs_if (xt_not (xt_tru B.toBe.hK (xe_call false [true] B.toBe ((ok_law_right T).mono (by decide)) rfl T.m_law_right T.k_law_right T.b_law_right (xa_cons (xe_var rfl (Or.inl rfl) rfl rfl) xa_nil rfl) rfl rfl rfl rfl) (fun _ => rfl))) (xss_one (xs_ret (xe_atm pe_bl (fun _ => Dx.bl _)))) xss_nil))) (fun _ => rfl)) (xss_one (xs_ret (xe_atm pe_bl (fun _ => Dx.bl _))))))
end

noncomputable def b_Book_eq (m0 : Nat) : Ds := (sRet (dAnd (d1 (isiV 0) (dVar 1)) (dAnd (d2 (cmpVt .Eq) (d1 (fldV 0 0) (dVar 0)) (d1 (fldV 0 0) (dVar 1))) (d2 (cmpVt .Eq) (d1 (fldV 0 1) (dVar 0)) (d1 (fldV 0 1) (dVar 1))))))
noncomputable def d_Book_eq : List T → Mu → Ot T := defD 2 2 b_Book_eq
noncomputable def b_law_code (m0 : Nat) : Ds := (sRet (dMake d_Book_init 3 0 2 false false [false, false] m0 (aCons (dBi (listV false) (aCons (d2 ixV (dVar 0) (dAtm (.int 0))) aNil)) (aCons (dBi (listV false) (aCons (d2 ixV (dVar 0) (dAtm (.int 1))) aNil)) aNil))))
noncomputable def d_law_code : List T → Mu → Ot T := defD 1 1 b_law_code
noncomputable def b_law_herd (m0 : Nat) : Ds := (sRet (dLc true m0 (iRng1D (aCons (dVar 1) aNil)) (gNm 3) bYes (dCall d_law_grind 2 false [true, false] (aCons (dVar 0) (aCons (d2 (binV false .Add) (dVar 2) (dAtm (.int 1))) aNil))) [3]))
noncomputable def d_law_herd : List T → Mu → Ot T := defD 3 4 b_law_herd
noncomputable def b_Book_kinds (m0 : Nat) : Ds := (sRet (dBi (listV true) (aCons (d1 (fldV 0 0) (dVar 0)) aNil)))
noncomputable def d_Book_kinds : List T → Mu → Ot T := defD 1 1 b_Book_kinds
noncomputable def b_check_crowd (m0 : Nat) : Ds := (sIf (bOr (bOf (d2 (cmpVt .NotEq) (dBi lenV (aCons (dVar 0) aNil)) (dVar 1))) (bTru (dBi (onBools fun bs => bs.any id) (aCons (dLc false m0 (iSeq true (dVar 0)) (gNm 2) bYes (d2 (cmpVt .Lt) (dVar 2) (dAtm (.int 0))) [2]) aNil)))) sNo sNil)
noncomputable def d_check_crowd : List T → Mu → Ot T := defD 2 3 b_check_crowd
noncomputable def b_rule_of (m0 : Nat) : Ds := (sSeq (sAsg (dVar 1) (gTp 3 (gsCons (gNm 2) (gsCons (gNm 3) (gsCons (gNm 4) gsNil))))) (sRet (dTup (aCons (d2 ixV (dVar 0) (dVar 2)) (aCons (d2 ixV (dVar 0) (dVar 3)) (aCons (d2 ixV (dVar 0) (dVar 4)) aNil))))))
noncomputable def d_rule_of : List T → Mu → Ot T := defD 2 5 b_rule_of
noncomputable def b_Book_moves (m0 : Nat) : Ds := (sRet (dBi (listV true) (aCons (d1 (fldV 0 1) (dVar 0)) aNil)))
noncomputable def d_Book_moves : List T → Mu → Ot T := defD 1 1 b_Book_moves
noncomputable def b_is_able (m0 : Nat) : Ds := (sSeq (sAsg (dVar 1) (gTp 3 (gsCons (gNm 2) (gsCons (gNm 3) (gsCons (gNm 4) gsNil))))) (sSeq (sIf (bOf (d2 (cmpVt .Eq) (dVar 2) (dVar 3))) (sRet (d2 (cmpVt .Gt) (d2 ixV (dVar 0) (dVar 2)) (dAtm (.int 1)))) sNil) (sRet (dAnd (d2 (cmpVt .Gt) (d2 ixV (dVar 0) (dVar 2)) (dAtm (.int 0))) (d2 (cmpVt .Gt) (d2 ixV (dVar 0) (dVar 3)) (dAtm (.int 0)))))))
noncomputable def d_is_able : List T → Mu → Ot T := defD 2 5 b_is_able
noncomputable def b_can_do (m0 : Nat) : Ds := (sSeq (sSet 2 (dFrz m0 (dProp d_Book_kinds 0 false false (dVar 0)))) (sSeq (sExp (dCall d_check_crowd 2 false [false, false] (aCons (dVar 1) (aCons (dBi lenV (aCons (dVar 2) aNil)) aNil)))) (sRet (dLc true m0 (iSeq true (dFrz m0 (dProp d_Book_moves 0 false false (dVar 0)))) (gNm 3) (bTru (dCall d_is_able 2 false [false, false] (aCons (dVar 1) (aCons (dVar 3) aNil)))) (dCall d_rule_of 2 false [false, false] (aCons (dVar 2) (aCons (dVar 3) aNil))) [3]))))
noncomputable def d_can_do : List T → Mu → Ot T := defD 2 4 b_can_do
noncomputable def b_law_turned_to (m0 : Nat) : Ds := (sSeq (sAsg (dLc false m0 (iSeq false (dVar 2)) (gNm 6) bYes (dMt idxV (d2 ixV (dVar 0) (dAtm (.int 0))) (aCons (dVar 6) aNil)) [6]) (gUl 3 (gsCons (gNm 3) (gsCons (gNm 4) (gsCons (gNm 5) gsNil))))) (sSeq (sIf (bOr (bOf (d2 (cmpVt .Lt) (d2 ixV (dVar 1) (dVar 3)) (dAtm (.int 1)))) (bOf (d2 (cmpVt .Lt) (d2 ixV (dVar 1) (dVar 4)) (d2 (binV false .Add) (dAtm (.int 1)) (dBi intV (aCons (d2 (cmpVt .Eq) (dVar 4) (dVar 3)) aNil)))))) (sRet (dAtm .non)) sNil) (sRet (dLc true m0 (iEnumD (aCons (dVar 1) aNil)) (gTp 2 (gsCons (gNm 7) (gsCons (gNm 8) gsNil))) bYes (d2 (binV false .Add) (d2 (binV false .Sub) (dVar 8) (dBi intV (aCons (d2 (cmpVt .Eq) (dVar 7) (dVar 3)) aNil))) (dBi intV (aCons (d2 (cmpVt .Eq) (dVar 7) (dVar 5)) aNil))) [7, 8]))))
noncomputable def d_law_turned_to : List T → Mu → Ot T := defD 3 9 b_law_turned_to
noncomputable def b_law_ranked (m0 : Nat) : Ds := (sSeq (sSet 1 (dBi (sortV false) (aCons (dLc false m0 (iSeq true (d2 ixV (dVar 0) (dAtm (.int 1)))) (gNm 3) bYes (dLc false m0 (iSeq false (dVar 3)) (gNm 2) bYes (dMt idxV (d2 ixV (dVar 0) (dAtm (.int 0))) (aCons (dVar 2) aNil)) [2]) [3]) aNil))) (sRet (dLc true m0 (iSeq true (dVar 1)) (gNm 5) bYes (dBi tupleV (aCons (dLc false m0 (iSeq true (dVar 5)) (gNm 4) bYes (d2 ixV (d2 ixV (dVar 0) (dAtm (.int 0))) (dVar 4)) [4]) aNil)) [5])))
noncomputable def d_law_ranked : List T → Mu → Ot T := defD 1 6 b_law_ranked
noncomputable def b_after (m0 : Nat) : Ds := (sSeq (sAsg (dVar 1) (gTp 3 (gsCons (gNm 2) (gsCons (gNm 3) (gsCons (gNm 4) gsNil))))) (sSeq (sSet 5 (dBi (listV true) (aCons (dVar 0) aNil))) (sSeq (sAugS .Sub (dVar 5) (dVar 2) (dAtm (.int 1))) (sSeq (sAugS .Add (dVar 5) (dVar 4) (dAtm (.int 1))) (sRet (dVar 5))))))
noncomputable def d_after : List T → Mu → Ot T := defD 2 6 b_after
noncomputable def b_Book_rules (m0 : Nat) : Ds := (sRet (dLc true m0 (iSeq true (d1 (fldV 0 1) (dVar 0))) (gNm 1) bYes (dCall d_rule_of 2 false [false, false] (aCons (d1 (fldV 0 0) (dVar 0)) (aCons (dVar 1) aNil))) [1]))
noncomputable def d_Book_rules : List T → Mu → Ot T := defD 1 2 b_Book_rules
noncomputable def b_done (m0 : Nat) : Ds := (sSeq (sSet 3 (dFrz m0 (dCall d_can_do 2 false [false, false] (aCons (dVar 0) (aCons (dVar 1) aNil))))) (sSeq (sIf (bOf (d2 (cmpVt .NotIn) (dVar 2) (dFrz m0 (dProp d_Book_rules 0 false false (dVar 0))))) sNo sNil) (sSeq (sIf (bOf (d2 (cmpVt .NotIn) (dVar 2) (dVar 3))) sNo sNil) (sRet (dCall d_after 2 false [false, false] (aCons (dVar 1) (aCons (dCall d_move_of 2 false [false, false] (aCons (dFrz m0 (dProp d_Book_kinds 0 false false (dVar 0))) (aCons (dVar 2) aNil))) aNil)))))))
noncomputable def d_done : List T → Mu → Ot T := defD 3 4 b_done

end Qk18

set_option Elab.async false
set_option linter.all false
set_option maxRecDepth 100000
set_option maxHeartbeats 4000000
/-! the law's own defs: what they come to -/
namespace Qk18
open PySem PySem.Spec PyProof.Rows L2 L3
/-- the mill, as the laws draw from it -/
def Mill (a b : Int) : Cell := .lst [.v true (.int a), .v true (.int b)]
/-- what a mill's numbers may be -/
structure MillOk (a b : Int) : Prop where
  a0 : 0 ≤ a
  aB : bitsI a ≤ 1048577
  b0 : 0 ≤ b
  bB : b < 18446744073709551616
theorem ix_mill (a b : Int) (f : Bool) : ixV [Mill a b] (.m 0) (.v f (.int 0)) = some (.v true (.int a), [Mill a b]) := rfl
theorem ix_mill1 (a b : Int) (f : Bool) : ixV [Mill a b] (.m 0) (.v f (.int 1)) = some (.v true (.int b), [Mill a b]) := rfl
theorem grind_ev (a b n : Int) (f : Bool) (ok : MillOk a b) (hn : 0 < n) (hb : bitsI n < 9000) :
    ∃ k a' b', d_law_grind [.m 0, .v f (.int n)] [Mill a b] = some (.ok (.v true (.int k)) [Mill a' b']) ∧ MillOk a' b' ∧ 0 ≤ k ∧ k < n := by
  have hput : ∀ a b x : Int, putIxV [Mill a b] (.m 0) (.v true (.int 0)) (.v true (.int x)) = some [Mill x b] := fun _ _ _ => rfl
  have hput1 : ∀ a b x : Int, putIxV [Mill a b] (.m 0) (.v true (.int 1)) (.v true (.int x)) = some [Mill a x] := fun _ _ _ => rfl
  by_cases ha : 0 < a
  · refine ⟨a % n, a / n, b, ?_, ⟨Int.ediv_nonneg ok.a0 (by omega), Nat.le_trans (bits_le (Int.ediv_nonneg ok.a0 (by omega)) (Int.ediv_le_self _ ok.a0)) ok.aB, ok.b0, ok.bB⟩, Int.emod_nonneg _ (by omega), Int.emod_lt_of_pos _ hn⟩
    simp [d_law_grind, defD, b_law_grind, startG, sSeq, sIf, bOf, d2, dVar, dAtm, ix_mill, cmpVt, cmpV, ha, sSet, dBi, aCons, aNil, intV, binV, L3.binI, hn, sPutD, hb, hput, sRet, retD, retV, T.low]
  · have e1 : bitsI b + bitsI 6364136223846793005 < 100000000 := by
      have : bitsI b ≤ bitsI 18446744073709551615 := bits_le ok.b0 (by have := ok.bB; omega)
      have e2 : bitsI 18446744073709551615 = 63 := by decide +kernel
      have e3 : bitsI 6364136223846793005 = 62 := by decide +kernel
      omega
    have e4 : bitsI 8589934592 < 9000 := by decide +kernel
    refine ⟨(b * 6364136223846793005 + 1442695040888963407) % 18446744073709551616 / 8589934592 % n, a, (b * 6364136223846793005 + 1442695040888963407) % 18446744073709551616, ?_, ⟨ok.a0, ok.aB, Int.emod_nonneg _ (by decide), Int.emod_lt_of_pos _ (by decide)⟩, Int.emod_nonneg _ (by omega), Int.emod_lt_of_pos _ hn⟩
    simp [d_law_grind, defD, b_law_grind, startG, sSeq, sIf, bOf, d2, dVar, dAtm, ix_mill, ix_mill1, cmpVt, cmpV, ha, sSet, dBi, aCons, aNil, intV, binV, L3.binI, hn, sPutD, hb, hput1, sRet, L3.sNil, retD, retV, T.low, e1, e4]
theorem mill_ev (ns : List Int) (f : Bool) (place : Nat) (hp : place < 64) (hB : ∀ z ∈ ns, Builtin.Int.intBits z ≤ 1048576) :
    ∃ a b, d_law_mill [.v f (.scr ns), .v true (.int place)] [] = some (.ok (.m 0) [Mill a b]) ∧ MillOk a b := by
  have hpow : bitsI 10 + 1 ≤ 4 := by decide
  have e2 : bitsI 2 < 9000 := by decide
  have hm : ∀ x y : Int, bitsI 40692 + bitsI ((place : Int) + 1) < 100000000 := fun _ _ => by
    have : bitsI ((place : Int) + 1) ≤ bitsI 64 := bits_le (by omega) (by omega)
    have e : bitsI 64 = 6 := by decide
    have e' : bitsI 40692 = 15 := by decide
    omega
  -- the cell that the place tells
  have key : ∀ c : Int, bitsI c ≤ 1048576 → ∀ left : Int, (left = if 1000000000000 < c then c / 2 else 0) → MillOk left (40692 * ((place : Int) + 1) + (if c < 0 then -c else c) % 1000000000000037) := by
    intro c hc left hl
    have h1 : 0 ≤ (if c < 0 then -c else c) % 1000000000000037 := Int.emod_nonneg _ (by decide)
    have h2 : (if c < 0 then -c else c) % 1000000000000037 < 1000000000000037 := Int.emod_lt_of_pos _ (by decide)
    subst hl
    refine ⟨?_, ?_, by omega, by omega⟩
    · split
      · omega
      · exact Int.le_refl _
    · split
      · exact Nat.le_trans (bits_le (by omega) (by omega)) (Nat.le_trans hc (by decide))
      · decide
  have e10 : L3.binI .Pow 10 12 = some 1000000000000 := by decide +kernel
  have e40 : L3.binI .Mult 40692 ((place : Int) + 1) = some (40692 * ((place : Int) + 1)) := mul_ev (hm 0 0)
  have e2' : ∀ c : Int, L3.binI .FloorDiv c 2 = some (c / 2) := fun c => div_ev (by decide) e2
  have eM : ∀ c : Int, L3.binI .Mod c 1000000000000037 = some (c % 1000000000000037) := fun c => rfl
  have eA : ∀ c d : Int, L3.binI .Add c d = some (c + d) := fun _ _ => rfl
  have hlen : ∀ μ, lenV μ [.v f (.scr ns)] = some (.v true (.int ns.length), μ) := fun μ => by simp [lenV]
  by_cases hl : place < ns.length
  · have hz : bitsI ns[place] ≤ 1048576 := bits_of (hB _ (List.getElem_mem hl))
    have hix : ixV [] (.v f (.scr ns)) (.v true (.int place)) = some (.v true (.int ns[place]), []) := ix_ev (b := true) (ts := ns.map fun n => .v true (.int n)) (by intro _ _ z; cases z) (by simp) (by omega) (by simp [hl])
    refine ⟨_, _, ?_, key ns[place] hz _ rfl⟩
    by_cases hc : 1000000000000 < ns[place]
    · simp [d_law_mill, defD, b_law_mill, startG, sSeq, sIf, sSet, dAtm, bOf, d2, cmpVt, cmpV, dVar, dBi, aCons, aNil, hlen, hl, hix, binV, e10, hc, e2', e40, eM, eA, L3.absV, intV, sRet, dLst, newL, retD, retV, T.low, Cell.low, Mill]
    · simp [d_law_mill, defD, b_law_mill, startG, sSeq, sIf, sSet, dAtm, bOf, d2, cmpVt, cmpV, dVar, dBi, aCons, aNil, hlen, hl, hix, binV, e10, hc, e2', e40, eM, eA, L3.absV, intV, sRet, dLst, newL, retD, retV, T.low, Cell.low, Mill, L3.sNil]
  · refine ⟨_, _, ?_, key 0 (by decide) _ rfl⟩
    simp [d_law_mill, defD, b_law_mill, startG, sSeq, sIf, sSet, dAtm, bOf, d2, cmpVt, cmpV, dVar, dBi, aCons, aNil, hlen, hl, binV, e10, e2', e40, eM, eA, L3.absV, intV, sRet, dLst, newL, retD, retV, T.low, Cell.low, Mill, L3.sNil]
/-- a draw, in a def that holds the mill -/
theorem call_grind {μ : Mu} {j : Nat} {a b : Int} (n : Int) (f : Bool) (hj : μ[j]? = some (Mill a b)) (ok : MillOk a b) (hn : 0 < n) (hb : bitsI n < 9000) :
    ∃ k a' b', callD d_law_grind false [true, false] [.m j, .v f (.int n)] μ = some (.ok (.v true (.int k)) (μ.set j (Mill a' b'))) ∧ MillOk a' b' ∧ 0 ≤ k ∧ k < n := by
  obtain ⟨k, a', b', h, ok', h0, h1⟩ := grind_ev a b n true ok hn hb
  refine ⟨k, a', b', ?_, ok', h0, h1⟩
  have hfl : (Mill a b).flat = true := rfl
  have hr : renC [j] μ.length (Mill a' b') = Mill a' b' := rfl
  simp [callD, argsIn, refsOf, cellsAt, hj, hfl, h, back, ren, setAll, hr]
/-- texts, as values -/
def strT (s : Str) : T := .v true (.str s)
def row1 : List Str := ["a", "b", "c", "d", "e", "f", "g", "h"]
def row2 : List Str := ["red", "blue", "re", "bluer", "r", "b", "redred", "blu"]
def row3 : List Str := ["kind", "kinds", "sees", "seesaw", "ab", "ba", "abcdefgh", "abcdefgz"]
/-- the names that a book may be drawn from -/
def NamesOk (names : List Str) : Prop := ∃ row rest, (row = row1 ∨ row = row2 ∨ row = row3) ∧ (rest ++ names).Perm row
theorem tribes_ev (a b : Int) (f : Bool) (n : Nat) (hn : n ≤ 8) (ok : MillOk a b) :
    ∃ a' b' names, d_law_tribes [.m 0, .v f (.int n)] [Mill a b] = some (.ok (.m 1) [Mill a' b', .lst (names.map strT)]) ∧ MillOk a' b' ∧ NamesOk names ∧ names.length = n := by
  let R : Cell := .lst [.v true (.lst (row1.map .str)), .v true (.lst (row2.map .str)), .v true (.lst (row3.map .str))]
  obtain ⟨k, a1, b1, h1, ok1, k0, k3⟩ := call_grind (μ := [Mill a b, R]) (j := 0) (a := a) (b := b) 3 true rfl ok (by decide) (by decide +kernel)
  obtain ⟨row, hrow, hk⟩ : ∃ row, (row = row1 ∨ row = row2 ∨ row = row3) ∧ ixV [Mill a1 b1, R] (.m 1) (.v true (.int k)) = some (.v true (.lst (row.map .str)), [Mill a1 b1, R]) := by
    have : k = 0 ∨ k = 1 ∨ k = 2 := by omega
    rcases this with rfl | rfl | rfl
    · exact ⟨row1, .inl rfl, rfl⟩
    · exact ⟨row2, .inr (.inl rfl), rfl⟩
    · exact ⟨row3, .inr (.inr rfl), rfl⟩
  have hlr : row.length = 8 := by rcases hrow with rfl | rfl | rfl <;> rfl
  have hpk : ∀ names : List Str, pack (names.map strT) = some (true, names.map .str) := fun names => by
    induction names with
    | nil => rfl
    | cons x r ih => simp [pack, strT, ih] <;> rfl
  have hlow : ∀ (names : List Str) (m : Nat), (names.map strT).all (T.low m) = true := fun names m => by
    rw [List.all_eq_true]
    intro t ht
    obtain ⟨x, _, rfl⟩ := List.mem_map.mp ht
    rfl
  -- the names are taken out one by one
  obtain ⟨Γ', μ', e1, a2, b2, left, found, tv, ok2, rfl, rfl, hp, hf⟩ := for_rng (lo := 0) (n := n) (g := gNm 5)
    (b := sExp (dMt appV (dVar 4) (aCons (dMt popV (dVar 3) (aCons (dCall d_law_grind 2 false [true, false] (aCons (dVar 0) (aCons (dBi lenV (aCons (dVar 3) aNil)) aNil))) aNil)) aNil)))
    (fun i Γ μ => ∃ a b left found tv, MillOk a b ∧ Γ = [some (.m 0), some (.v f (.int n)), some (.m 1), some (.m 2), some (.m 3), tv] ∧ μ = [Mill a b, R, .lst (left.map strT), .lst (found.map strT)] ∧ (left ++ found).Perm row ∧ found.length = i)
    (fun i Γ μ hi ⟨a, b, left, found, tv, ok, hΓ, hμ, hp, hf⟩ => by
      subst hΓ hμ
      have hll : left.length + i = 8 := by rw [← hlr, ← hp.length_eq, List.length_append, hf]
      obtain ⟨k, a', b', h, ok', k0, k1⟩ := call_grind (μ := [Mill a b, R, .lst (left.map strT), .lst (found.map strT)]) (j := 0) (a := a) (b := b) (left.length : Int) true rfl ok (by omega) (by
        have : bitsI (left.length : Int) ≤ bitsI 8 := bits_le (by omega) (by omega)
        have e : bitsI 8 = 3 := by decide
        omega)
      have hkl : k.toNat < left.length := by omega
      refine ⟨_, [some (.m 0), some (.v f (.int n)), some (.m 1), some (.m 2), some (.m 3), some (.v true (.int (0 + (i : Int))))], [Mill a' b', R, .lst ((left.eraseIdx k.toNat).map strT), .lst ((found ++ [left[k.toNat]]).map strT)], rfl, .inl ?_, a', b', left.eraseIdx k.toNat, found ++ [left[k.toNat]], _, ok', rfl, rfl, ?_, by simp [hf]⟩
      · have hk63 : k < 9223372036854775808 := by omega
        have hfl : found.length < sizeLine := by rw [sizeLine_eq]; omega
        have hget : (left.map strT)[k.toNat]? = some (strT left[k.toNat]) := by simp [hkl]
        have herase : (left.map strT).eraseIdx k.toNat = (left.eraseIdx k.toNat).map strT := erase_map ..
        simp at h
        simp [sExp, dMt, dVar, aCons, aNil, items, dBi, lenV, dCall, h, popV, L3.cellOf, k0, hk63, hkl, appV, hfl, herase, strT]
      · have q := erase_perm left k.toNat hkl
        have q2 : (left.eraseIdx k.toNat ++ (found ++ [left[k.toNat]])).Perm ((left[k.toNat] :: left.eraseIdx k.toNat) ++ found) := by
          rw [← List.append_assoc]
          exact (List.perm_append_singleton _ _)
        exact (q2.trans (q.append_right found)).trans hp)
    n 0 [some (.m 0), some (.v f (.int n)), some (.m 1), some (.m 2), some (.m 3), none] [Mill a1 b1, R, .lst (row.map strT), .lst []] (by omega) ⟨a1, b1, row, [], none, ok1, rfl, rfl, by simp, rfl⟩
  refine ⟨a2, b2, found, ?_, ok2, ⟨row, left, hrow, hp⟩, hf⟩
  simp only [List.set_cons_zero] at h1
  have z1 : 1 < sizeLine := by rw [sizeLine_eq]; omega
  have z2 : 2 < sizeLine := by rw [sizeLine_eq]; omega
  show retD 1 (b_law_tribes 1 [some (.m 0), some (.v f (.int n)), none, none, none, none] [Mill a b]) = _
  unfold b_law_tribes
  rw [seq_nx (Γ1 := [some (.m 0), some (.v f (.int n)), some (.m 1), none, none, none]) (μ1 := [Mill a b, .lst [.v true (.lst (row1.map .str))]]) (by
    simp [sSet, dLst, aCons, aNil, dAtm, newL, pack, row1])]
  rw [seq_nx (Γ1 := [some (.m 0), some (.v f (.int n)), some (.m 1), none, none, none]) (μ1 := [Mill a b, .lst [.v true (.lst (row1.map .str)), .v true (.lst (row2.map .str))]]) (by
    simp [sExp, dMt, dVar, items, dLst, aCons, aNil, dAtm, newL, pack, appV, L3.cellOf, row1, row2, z1])]
  rw [seq_nx (Γ1 := [some (.m 0), some (.v f (.int n)), some (.m 1), none, none, none]) (μ1 := [Mill a b, R]) (by
    simp [sExp, dMt, dVar, items, dLst, aCons, aNil, dAtm, newL, pack, appV, L3.cellOf, row1, row2, row3, R, z2])]
  rw [seq_nx (Γ1 := [some (.m 0), some (.v f (.int n)), some (.m 1), some (.m 2), some (.m 3), none]) (μ1 := [Mill a1 b1, R, .lst (row.map strT), .lst []]) (by
    have hm : (row.map D.str).map (mkT true) = row.map strT := by simp [strT, Function.comp_def]
    simp [sPar, dBi, aCons, aNil, d2, dVar, dCall, dAtm, h1, hk, listV, newL, dLst, hm])]
  rw [seq_nx (Γ1 := [some (.m 0), some (.v f (.int n)), some (.m 1), some (.m 2), some (.m 3), tv]) (μ1 := [Mill a2 b2, R, .lst (left.map strT), .lst (found.map strT)]) (for_ev (rng1_ev (f := f) (n := (n : Int)) (by simp [aCons, aNil, dVar]) (by omega)) e1)]
  simp [sRet, dVar, retD, retV, T.low, Cell.low, Mill, hlow]
end Qk18

set_option Elab.async false
set_option linter.all false
set_option maxRecDepth 100000
set_option maxHeartbeats 4000000
namespace Qk18
open PySem PySem.Spec PyProof.Rows L2 L3
/-- a comprehension over a list, as map and filter -/
theorem lcOut_list {α : Type} (l : List α) (P : α → Bool) (E : α → T) (PP : Nat → Bool) (EE : Nat → T) (hP : ∀ i (h : i < l.length), PP i = P l[i]) (hE : ∀ i (h : i < l.length), EE i = E l[i]) :
    ∀ (k i : Nat), i + k = l.length → lcOut PP EE k i = ((l.drop i).filter P).map E
  | 0, i, h => by
    have : l.drop i = [] := List.drop_eq_nil_of_le (by omega)
    simp [lcOut, this]
  | k + 1, i, h => by
    have hi : i < l.length := by omega
    have ih := lcOut_list l P E PP EE hP hE k (i + 1) (by omega)
    rw [List.drop_eq_getElem_cons hi, lcOut, ih, hP i hi, hE i hi, List.filter_cons]
    by_cases hp : P l[i] = true
    · rw [if_pos hp, if_pos hp, List.map_cons]
      rfl
    · rw [if_neg hp, if_neg hp]
      rfl
theorem pack_map {α : Type} (l : List α) (E : α → D) : pack (l.map fun x => T.v true (E x)) = some (true, l.map E) := by
  induction l with
  | nil => rfl
  | cons x r ih => simp [pack, ih]
def ruleD (r : Str × Str × Str) : D := .tup [.str r.1, .str r.2.1, .str r.2.2]
def ruleT (r : Str × Str × Str) : T := .v true (ruleD r)
/-- cells that hold nothing that changes -/
def PlainC (c : Cell) : Prop := ∀ k, c.low k = true
theorem plain_mill (a b : Int) : PlainC (Mill a b) := fun _ => rfl
theorem plain_map {α : Type} (l : List α) (E : α → D) : PlainC (.lst (l.map fun x => T.v true (E x))) := fun k => by
  show (l.map fun x => T.v true (E x)).all (T.low k) = true
  rw [List.all_eq_true]
  intro t ht
  obtain ⟨x, _, rfl⟩ := List.mem_map.mp ht
  rfl
theorem plain_all {μ : Mu} (h : ∀ c ∈ μ, PlainC c) (k : Nat) : μ.all (Cell.low k) = true := List.all_eq_true.mpr fun c hc => h c hc k
/-- names are drawn, in a def that holds the mill first -/
theorem call_tribes {a b : Int} {G : Mu} (f : Bool) (n : Nat) (hn : n ≤ 8) (ok : MillOk a b) :
    ∃ a' b' names, callD d_law_tribes false [true, false] [.m 0, .v f (.int n)] (Mill a b :: G) = some (.ok (.m (G.length + 1)) (Mill a' b' :: G ++ [.lst (names.map strT)])) ∧ MillOk a' b' ∧ NamesOk names ∧ names.length = n := by
  obtain ⟨a', b', names, h, ok', hN, hl⟩ := tribes_ev a b true n hn ok
  refine ⟨a', b', names, ?_, ok', hN, hl⟩
  have hfl : (Mill a b).flat = true := rfl
  have hr : ∀ m, renC [0] m (Mill a' b') = Mill a' b' := fun _ => rfl
  have hr2 : ∀ m, (names.map strT).map (ren [0] m) = names.map strT := fun m => by
    rw [List.map_map]
    exact List.map_congr_left fun x _ => rfl
  simp [callD, argsIn, refsOf, cellsAt, hfl, h, back, ren, setAll, renC, hr2]
  rfl
/-- the rules of one who and one whom -/
def evRow (names : List Str) (who whom : Str) : List (Str × Str × Str) := (names.filter fun x => !decide (x = who)).map fun x => (who, whom, x)
theorem row_ev (names : List Str) (who whom : Str) (μ : Mu) (Γ : Gam) (h3 : Γ[3]? = some (some (.v true (.lst (names.map .str))))) (h6 : Γ[6]? = some (some (strT who))) (h7 : Γ[7]? = some (some (strT whom))) (h8 : 8 < Γ.length) (hm : 1 ≤ μ.length) (hl : ∀ c ∈ μ, PlainC c) (hz : names.length ≤ 8) :
    dLc false 1 (iSeq true (dVar 3)) (gNm 8) (bOf (d2 (cmpVt .NotEq) (dVar 8) (dVar 6))) (dTup (aCons (dVar 6) (aCons (dVar 7) (aCons (dVar 8) aNil)))) [8] Γ μ = some (.ok (.v true (.lst ((evRow names who whom).map ruleD))) μ) := by
  have hv3 : ∀ μ, dVar 3 Γ μ = some (.ok (.v true (.lst (names.map .str))) μ) := fun μ => by simp [dVar, h3]
  refine dlc_ev (n := names.length) (v := .seq true (.v true (.lst (names.map .str))) names.length) (P := fun i => match names[i]? with | some x => !decide (x = who) | none => false) (E := fun i => match names[i]? with | some x => ruleT (who, whom, x) | none => .v true .non)
    (by simp [iSeq, hv3]) rfl (by rw [sizeLine_eq]; omega) (fun acc => by simp [ItV.ok, itemsN]) (fun i acc hi => ?_) ?_ hm (plain_all hl _)
  · refine ⟨.one (strT names[i]), (wipeG Γ [8]).set 8 (some (strT names[i])), by simp [ItV.at, itemsN, hi, strT], rfl, ?_, fun _ => ?_⟩
    · have g8 : ((wipeG Γ [8]).set 8 (some (strT names[i])))[8]? = some (some (strT names[i])) := by simp [wipeG, h8]
      have g6 : ((wipeG Γ [8]).set 8 (some (strT names[i])))[6]? = some (some (strT who)) := by simp [wipeG, h6]
      simp only [bOf, d2, dVar, g8, g6, bind_ok]
      simp [cmpVt, cmpV, strT, hi]
    · have g8 : ((wipeG Γ [8]).set 8 (some (strT names[i])))[8]? = some (some (strT names[i])) := by simp [wipeG, h8]
      have g6 : ((wipeG Γ [8]).set 8 (some (strT names[i])))[6]? = some (some (strT who)) := by simp [wipeG, h6]
      have g7 : ((wipeG Γ [8]).set 8 (some (strT names[i])))[7]? = some (some (strT whom)) := by simp [wipeG, h7]
      simp only [dTup, aCons, aNil, dVar, g8, g6, g7, bind_ok]
      simp [newU, pack, strT, ruleT, ruleD, hi]
  · rw [lcOut_list names (fun x => !decide (x = who)) (fun x => ruleT (who, whom, x)) _ _ (fun i h => by simp [h]) (fun i h => by simp [h]) names.length 0 (by omega)]
    have := pack_map ((names.filter fun x => !decide (x = who))) (fun x => ruleD (who, whom, x))
    simp [ruleT, evRow, Function.comp_def] at this ⊢
    exact this
def evWho (names : List Str) (who : Str) (whoms : List Str) : List (Str × Str × Str) := whoms.flatMap (evRow names who)
def evAll (names whos : List Str) : List (Str × Str × Str) := whos.flatMap fun who => evWho names who names
theorem evRow_len (names : List Str) (who whom : Str) : (evRow names who whom).length ≤ names.length := by
  unfold evRow
  rw [List.length_map]
  exact List.length_filter_le _ _
theorem evWho_len (names : List Str) (who : Str) : ∀ whoms : List Str, (evWho names who whoms).length ≤ whoms.length * names.length
  | [] => by simp [evWho]
  | w :: r => by
    have := evWho_len names who r
    have := evRow_len names who w
    simp only [evWho, List.flatMap_cons, List.length_append, List.length_cons, Nat.add_mul, Nat.one_mul] at *
    omega
theorem evAll_len (names : List Str) : ∀ whos : List Str, (evAll names whos).length ≤ whos.length * (names.length * names.length)
  | [] => by simp [evAll]
  | w :: r => by
    have := evAll_len names r
    have := evWho_len names w names
    simp only [evAll, List.flatMap_cons, List.length_append, List.length_cons, Nat.add_mul, Nat.one_mul] at *
    omega
/-- the def's slots -/
def manG (f1 f2 : Bool) (most count : Int) (names : List Str) (jf j : Nat) (who whom tv : Option T) : Gam :=
  [some (.m 0), some (.v f1 (.int most)), some (.v f2 (.int count)), some (.v true (.lst (names.map .str))), some (.m jf), some (.m j), who, whom, none, tv]
theorem plain_rules (rs : List (Str × Str × Str)) : PlainC (.lst (rs.map ruleT)) := plain_map rs ruleD
/-- every = every + [...] -/
theorem add_ev (names : List Str) (f1 f2 : Bool) (most count : Int) (jf j : Nat) (who whom : Str) (tv : Option T) (rs : List (Str × Str × Str)) (μ : Mu) (hj : μ[j]? = some (.lst (rs.map ruleT))) (hm : 1 ≤ μ.length) (hl : ∀ c ∈ μ, PlainC c) (hz : names.length ≤ 8) (hr : rs.length ≤ 512) :
    sSet 5 (d2 (binV true .Add) (dVar 5) (dLc false 1 (iSeq true (dVar 3)) (gNm 8) (bOf (d2 (cmpVt .NotEq) (dVar 8) (dVar 6))) (dTup (aCons (dVar 6) (aCons (dVar 7) (aCons (dVar 8) aNil)))) [8])) (manG f1 f2 most count names jf j (some (strT who)) (some (strT whom)) tv) μ =
      some (.nx (manG f1 f2 most count names jf μ.length (some (strT who)) (some (strT whom)) tv) (μ ++ [.lst ((rs ++ evRow names who whom).map ruleT)])) := by
  have e := row_ev names who whom μ (manG f1 f2 most count names jf j (some (strT who)) (some (strT whom)) tv) rfl rfl rfl (by simp [manG]) hm hl hz
  have h5 : ∀ μ, dVar 5 (manG f1 f2 most count names jf j (some (strT who)) (some (strT whom)) tv) μ = some (.ok (.m j) μ) := fun μ => by simp [dVar, manG]
  have hi : itemsP μ (.m j) = some (true, rs.map ruleT) := by simp [itemsP, hj]
  have hi2 : itemsP μ (.v true (.lst ((evRow names who whom).map ruleD))) = some (true, (evRow names who whom).map ruleT) := by
    have : ((evRow names who whom).map ruleD).map (mkT true) = (evRow names who whom).map ruleT := by
      rw [List.map_map]
      exact List.map_congr_left fun x _ => by simp [mkT, ruleT]
    show some (true, ((evRow names who whom).map ruleD).map (mkT true)) = _
    rw [this]
  have hlen := evRow_len names who whom
  have hsz : (rs.map ruleT).length + ((evRow names who whom).map ruleT).length ≤ sizeLine := by
    rw [List.length_map, List.length_map, sizeLine_eq]
    omega
  simp only [sSet, d2, h5, bind_ok, e]
  simp only [binV, hi, hi2, hsz, if_true, newL, ot_some, bindS_ok, List.map_append]
  rfl
/-- all whoms of one who -/
theorem who_ev (names : List Str) (f1 f2 : Bool) (most count : Int) (jf j : Nat) (who : Str) (w0 tv : Option T) (rs : List (Str × Str × Str)) (μ : Mu) (a b : Int) (hμ : μ[0]? = some (Mill a b)) (hf : μ[jf]? = some (.lst [])) (hj : μ[j]? = some (.lst (rs.map ruleT))) (hl : ∀ c ∈ μ, PlainC c) (hz : names.length ≤ 8) (hr : rs.length ≤ 448) (hj2 : 2 ≤ j) :
    ∃ j' w1 μ', 2 ≤ j' ∧ sFor (iSeq true (dVar 3)) (gNm 7) (sSet 5 (d2 (binV true .Add) (dVar 5) (dLc false 1 (iSeq true (dVar 3)) (gNm 8) (bOf (d2 (cmpVt .NotEq) (dVar 8) (dVar 6))) (dTup (aCons (dVar 6) (aCons (dVar 7) (aCons (dVar 8) aNil)))) [8]))) (manG f1 f2 most count names jf j (some (strT who)) w0 tv) μ =
      some (.nx (manG f1 f2 most count names jf j' (some (strT who)) w1 tv) μ') ∧ μ'[0]? = some (Mill a b) ∧ μ'[jf]? = some (.lst []) ∧ μ'[j']? = some (.lst ((rs ++ evWho names who names).map ruleT)) ∧ (∀ c ∈ μ', PlainC c) := by
  have h3 : ∀ μ w0 j, dVar 3 (manG f1 f2 most count names jf j (some (strT who)) w0 tv) μ = some (.ok (.v true (.lst (names.map .str))) μ) := fun μ w0 j => by simp [dVar, manG]
  obtain ⟨Γ', μ', e, j', w1, rfl, hj2', h0, hjf, h1, h2⟩ := for_inv (v := .seq true (.v true (.lst (names.map .str))) names.length) (g := gNm 7) (n := names.length)
    (b := sSet 5 (d2 (binV true .Add) (dVar 5) (dLc false 1 (iSeq true (dVar 3)) (gNm 8) (bOf (d2 (cmpVt .NotEq) (dVar 8) (dVar 6))) (dTup (aCons (dVar 6) (aCons (dVar 7) (aCons (dVar 8) aNil)))) [8])))
    (fun i Γ μ => ∃ j w, Γ = manG f1 f2 most count names jf j (some (strT who)) w tv ∧ 2 ≤ j ∧ μ[0]? = some (Mill a b) ∧ μ[jf]? = some (.lst []) ∧ μ[j]? = some (.lst ((rs ++ evWho names who (names.take i)).map ruleT)) ∧ ∀ c ∈ μ, PlainC c)
    (fun i Γ μ _ _ => by simp [ItV.ok, itemsN])
    (fun i Γ μ hi ⟨j, w, hΓ, hj2, h0, hjf, h1, h2⟩ => by
      subst hΓ
      have hm : 1 ≤ μ.length := by
        have := (List.getElem?_eq_some_iff.mp h0).1
        omega
      have hlen := evWho_len names who (names.take i)
      have hti : (names.take i).length ≤ 8 := by rw [List.length_take]; omega
      have hmul : (names.take i).length * names.length ≤ 8 * 8 := Nat.mul_le_mul hti hz
      have e := add_ev names f1 f2 most count jf j who names[i] tv (rs ++ evWho names who (names.take i)) μ h1 hm h2 hz (by rw [List.length_append]; omega)
      refine ⟨.one (strT names[i]), manG f1 f2 most count names jf j (some (strT who)) (some (strT names[i])) tv, _, _, by simp [ItV.at, itemsN, hi, strT], rfl, .inl e, μ.length, _, rfl, by have := (List.getElem?_eq_some_iff.mp h1).1; omega, ?_, ?_, ?_, ?_⟩
      · rw [List.getElem?_append_left (by omega)]; exact h0
      · rw [List.getElem?_append_left (List.getElem?_eq_some_iff.mp hjf).1]; exact hjf
      · rw [List.getElem?_append_right (Nat.le_refl _), Nat.sub_self]
        have ht : names.take (i + 1) = names.take i ++ [names[i]] := by rw [List.take_succ]; simp [hi]
        have he : evWho names who (names.take (i + 1)) = evWho names who (names.take i) ++ evRow names who names[i] := by
          rw [ht]
          unfold evWho
          rw [List.flatMap_append, List.flatMap_cons, List.flatMap_nil, List.append_nil]
        rw [he, List.append_assoc]
        rfl
      · intro c hc
        rcases List.mem_append.mp hc with z | z
        · exact h2 c z
        · rw [List.mem_singleton] at z
          rw [z]
          exact plain_rules _)
    names.length 0 (manG f1 f2 most count names jf j (some (strT who)) w0 tv) μ (by omega) ⟨j, w0, rfl, hj2, hμ, hf, by simpa [evWho] using hj, hl⟩
  refine ⟨j', w1, μ', hj2', for_ev (v := .seq true (.v true (.lst (names.map .str))) names.length) (by simp [iSeq, h3]) e, h0, hjf, ?_, h2⟩
  rw [List.take_length] at h1
  exact h1
/-- all whos -/
theorem all_ev (names : List Str) (f1 f2 : Bool) (most count : Int) (jf j : Nat) (μ : Mu) (a b : Int) (hμ : μ[0]? = some (Mill a b)) (hf : μ[jf]? = some (.lst [])) (hj : μ[j]? = some (.lst [])) (hl : ∀ c ∈ μ, PlainC c) (hz : names.length ≤ 8) (hj2 : 2 ≤ j) :
    ∃ j' w0 w1 μ', 2 ≤ j' ∧ sFor (iSeq true (dVar 3)) (gNm 6) (sFor (iSeq true (dVar 3)) (gNm 7) (sSet 5 (d2 (binV true .Add) (dVar 5) (dLc false 1 (iSeq true (dVar 3)) (gNm 8) (bOf (d2 (cmpVt .NotEq) (dVar 8) (dVar 6))) (dTup (aCons (dVar 6) (aCons (dVar 7) (aCons (dVar 8) aNil)))) [8])))) (manG f1 f2 most count names jf j none none none) μ =
      some (.nx (manG f1 f2 most count names jf j' w0 w1 none) μ') ∧ μ'[0]? = some (Mill a b) ∧ μ'[jf]? = some (.lst []) ∧ μ'[j']? = some (.lst ((evAll names names).map ruleT)) ∧ (∀ c ∈ μ', PlainC c) := by
  have h3 : ∀ μ w0 w1 j, dVar 3 (manG f1 f2 most count names jf j w0 w1 none) μ = some (.ok (.v true (.lst (names.map .str))) μ) := fun μ w0 w1 j => by simp [dVar, manG]
  obtain ⟨Γ', μ', e, j', w0, w1, rfl, hj2', h0, hjf, h1, h2⟩ := for_inv (v := .seq true (.v true (.lst (names.map .str))) names.length) (g := gNm 6) (n := names.length)
    (b := sFor (iSeq true (dVar 3)) (gNm 7) (sSet 5 (d2 (binV true .Add) (dVar 5) (dLc false 1 (iSeq true (dVar 3)) (gNm 8) (bOf (d2 (cmpVt .NotEq) (dVar 8) (dVar 6))) (dTup (aCons (dVar 6) (aCons (dVar 7) (aCons (dVar 8) aNil)))) [8]))))
    (fun i Γ μ => ∃ j w0 w1, Γ = manG f1 f2 most count names jf j w0 w1 none ∧ 2 ≤ j ∧ μ[0]? = some (Mill a b) ∧ μ[jf]? = some (.lst []) ∧ μ[j]? = some (.lst ((evAll names (names.take i)).map ruleT)) ∧ ∀ c ∈ μ, PlainC c)
    (fun i Γ μ _ _ => by simp [ItV.ok, itemsN])
    (fun i Γ μ hi ⟨j, w0, w1, hΓ, hj2, h0, hjf, h1, h2⟩ => by
      subst hΓ
      have hlen := evAll_len names (names.take i)
      have hti : (names.take i).length ≤ 7 := by rw [List.length_take]; omega
      have hsq : names.length * names.length ≤ 8 * 8 := Nat.mul_le_mul hz hz
      have hmul : (names.take i).length * (names.length * names.length) ≤ 7 * (8 * 8) := Nat.mul_le_mul hti hsq
      obtain ⟨j', w', μ', hj3, e, g0, gf, g1, g2⟩ := who_ev names f1 f2 most count jf j names[i] w1 none (evAll names (names.take i)) μ a b h0 hjf h1 h2 hz (by omega) hj2
      refine ⟨.one (strT names[i]), manG f1 f2 most count names jf j (some (strT names[i])) w1 none, _, _, by simp [ItV.at, itemsN, hi, strT], rfl, .inl e, j', _, w', rfl, hj3, g0, gf, ?_, g2⟩
      have ht : names.take (i + 1) = names.take i ++ [names[i]] := by rw [List.take_succ]; simp [hi]
      have he : evAll names (names.take (i + 1)) = evAll names (names.take i) ++ evWho names names[i] names := by
        rw [ht]
        unfold evAll
        rw [List.flatMap_append, List.flatMap_cons, List.flatMap_nil, List.append_nil]
      rw [he]
      exact g1)
    names.length 0 (manG f1 f2 most count names jf j none none none) μ (by omega) ⟨j, none, none, rfl, hj2, hμ, hf, by simpa [evAll] using hj, hl⟩
  refine ⟨j', w0, w1, μ', hj2', for_ev (v := .seq true (.v true (.lst (names.map .str))) names.length) (by simp [iSeq, h3]) e, h0, hjf, ?_, h2⟩
  rw [List.take_length] at h1
  exact h1
def rulePy (r : Str × Str × Str) : PyData := .tuple [.str r.1, .str r.2.1, .str r.2.2]
def RuleOk (r : Str × Str × Str) : Prop := PyData.strOk r.1 = true ∧ PyData.strOk r.2.1 = true ∧ PyData.strOk r.2.2 = true
theorem mapM_v {α : Type} (n : Nat) (μ : Mu) (E : α → D) : ∀ l : List α, (l.map fun x => T.v true (E x)).mapM (deep n μ) = some (l.map E)
  | [] => rfl
  | x :: l => by
    have ih := mapM_v n μ E l
    have h1 : deep n μ (.v true (E x)) = some (E x) := by unfold deep; cases n <;> rfl
    rw [List.map_cons, List.mapM_cons, h1, ih]
    rfl
theorem pys_rules : ∀ rs : List (Str × Str × Str), D.pys (rs.map ruleD) = some (rs.map rulePy)
  | [] => rfl
  | r :: rs => by
    have ih := pys_rules rs
    have h1 : D.py (ruleD r) = some (rulePy r) := by simp [ruleD, rulePy, D.py, D.pys]
    simp [D.pys, h1, ih]
theorem lay_rules : ∀ rs : List (Str × Str × Str), (∀ r ∈ rs, RuleOk r) → PyData.canLayAll0 (rs.map rulePy) = true
  | [], _ => by simp [PyData.canLayAll0]
  | r :: rs, h => by
    have ih := lay_rules rs fun x hx => h x (List.mem_cons_of_mem _ hx)
    obtain ⟨h1, h2, h3⟩ := h r List.mem_cons_self
    simp [PyData.canLayAll0, ih, rulePy, PyData.canLay0, h1, h2, h3]
theorem depth_rules : ∀ rs : List (Str × Str × Str), PyData.depthAll (rs.map rulePy) ≤ 3
  | [] => by simp [PyData.depthAll]
  | r :: rs => by
    have ih := depth_rules rs
    have : (rulePy r).depth ≤ 3 := by simp [rulePy, PyData.depth, PyData.depthAll]
    simp [PyData.depthAll]
    omega
theorem eq_nil_ev {μ : Mu} {j : Nat} {rs : List (Str × Str × Str)} {f : Bool} (hj : μ[j]? = some (.lst (rs.map ruleT))) (hs : ∀ r ∈ rs, RuleOk r) : L3.eqT μ (.m j) (.v f (.lst [])) = some rs.isEmpty := by
  have h1 : deep DEEP μ (.m j) = some (.lst (rs.map ruleD)) := by
    show deep (5 + 1) μ (.m j) = _
    unfold deep
    rw [hj]
    have := mapM_v 5 μ ruleD rs
    show (match (rs.map ruleT).mapM (deep 5 μ) with | some ds => some (D.lst ds) | none => none) = _
    rw [show (rs.map ruleT).mapM (deep 5 μ) = some (rs.map ruleD) from this]
  have h2 : deep DEEP μ (.v f (.lst [])) = some (.lst []) := by unfold deep; rfl
  have h3 : D.py (.lst (rs.map ruleD)) = some (.list (rs.map rulePy)) := by simp [D.py, pys_rules]
  have h4 : D.py (.lst []) = some (.list []) := by simp [D.py, D.pys]
  have s1 : SeqAt.shaped (.list (rs.map rulePy)) = true := by
    have := depth_rules rs
    simp [SeqAt.shaped, PyData.canLay0, lay_rules rs hs, PyData.depth]
    omega
  have s2 : SeqAt.shaped (.list []) = true := by simp [SeqAt.shaped, PyData.canLay0, PyData.canLayAll0, PyData.depth, PyData.depthAll]
  have e : L3.eqT μ (.m j) (.v f (.lst [])) = match deep DEEP μ (.m j), deep DEEP μ (.v f (.lst [])) with
      | some x, some y => L3.eqD x y
      | _, _ => none := rfl
  rw [e, h1, h2]
  simp only [L3.eqD, h3, h4, s1, s2, Bool.and_self, if_true]
  cases rs <;> simp [PyData.eqv, PyData.eqvAll]
theorem cellOf_m {μ : Mu} {j : Nat} {ts : List T} (h : μ[j]? = some (.lst ts)) : L3.cellOf μ (.m j) = some (j, ts) := by simp [L3.cellOf, h]
theorem pop_ev {μ : Mu} {j : Nat} {ts : List T} {f : Bool} {k : Int} {x : T} (h : μ[j]? = some (.lst ts)) (hk : 0 ≤ k ∧ k < 2 ^ 63) (hg : ts[k.toNat]? = some x) : popV μ (.m j) [.v f (.int k)] = some (x, μ.set j (.lst (ts.eraseIdx k.toNat))) := by
  unfold popV
  rw [cellOf_m h]
  simp only
  rw [if_pos hk, hg]
theorem app_ev {μ : Mu} {j : Nat} {ts : List T} {x : T} (h : μ[j]? = some (.lst ts)) (hz : ts.length < sizeLine) : appV μ (.m j) [x] = some (.v true .non, μ.set j (.lst (ts ++ [x]))) := by
  unfold appV
  rw [cellOf_m h]
  simp only
  rw [if_pos hz]
/-- some of the rules are taken out -/
theorem take_ev (names : List Str) (f1 f2 : Bool) (most count : Int) (jf j : Nat) (w0 w1 : Option T) (all : List (Str × Str × Str)) (n : Nat) (hn : n ≤ 64) (μ : Mu) (a b : Int) (hne : jf ≠ j) (hjf0 : jf ≠ 0) (hj0 : j ≠ 0) (ok : MillOk a b) (hμ : μ[0]? = some (Mill a b)) (hf : μ[jf]? = some (.lst [])) (hj : μ[j]? = some (.lst (all.map ruleT))) (hl : ∀ c ∈ μ, PlainC c) (hz : all.length ≤ 512) (hs : ∀ r ∈ all, RuleOk r) :
    ∃ (a' b' : Int) (left found : List (Str × Str × Str)) (tv : Option T) (μ' : Mu), forD (.rng 0 n) (gNm 9) (sIf (bOf (d2 (cmpVt .NotEq) (dVar 5) (dLst false aNil))) (sExp (dMt appV (dVar 4) (aCons (dMt popV (dVar 5) (aCons (dCall d_law_grind 2 false [true, false] (aCons (dVar 0) (aCons (dBi lenV (aCons (dVar 5) aNil)) aNil))) aNil)) aNil))) L3.sNil) n 0 (manG f1 f2 most count names jf j w0 w1 none) μ =
      some (.nx (manG f1 f2 most count names jf j w0 w1 tv) μ') ∧ MillOk a' b' ∧ μ'[0]? = some (Mill a' b') ∧ μ'[jf]? = some (.lst (found.map ruleT)) ∧ (left ++ found).Perm all ∧ found.length ≤ n ∧ (∀ c ∈ μ', PlainC c) := by
  obtain ⟨Γ', μ', e, a', b', left, found, tv, rfl, ok', h0, hjf, h1, hp, hl', h2⟩ := for_rng (lo := 0) (n := n) (g := gNm 9)
    (b := sIf (bOf (d2 (cmpVt .NotEq) (dVar 5) (dLst false aNil))) (sExp (dMt appV (dVar 4) (aCons (dMt popV (dVar 5) (aCons (dCall d_law_grind 2 false [true, false] (aCons (dVar 0) (aCons (dBi lenV (aCons (dVar 5) aNil)) aNil))) aNil)) aNil))) L3.sNil)
    (fun i Γ μ => ∃ (a b : Int) (left found : List (Str × Str × Str)) (tv : Option T), Γ = manG f1 f2 most count names jf j w0 w1 tv ∧ MillOk a b ∧ μ[0]? = some (Mill a b) ∧ μ[jf]? = some (.lst (found.map ruleT)) ∧ μ[j]? = some (.lst (left.map ruleT)) ∧ (left ++ found).Perm all ∧ found.length ≤ i ∧ ∀ c ∈ μ, PlainC c)
    (fun i Γ μ hi ⟨a, b, left, found, tv, hΓ, ok, h0, hjf, h1, hp, hfl, h2⟩ => by
      subst hΓ
      have hall : left.length + found.length = all.length := by rw [← hp.length_eq, List.length_append]
      have d5 : ∀ t μ, dVar 5 (manG f1 f2 most count names jf j w0 w1 t) μ = some (.ok (.m j) μ) := fun t μ => by simp [dVar, manG]
      have d4 : ∀ t μ, dVar 4 (manG f1 f2 most count names jf j w0 w1 t) μ = some (.ok (.m jf) μ) := fun t μ => by simp [dVar, manG]
      have d0 : ∀ t μ, dVar 0 (manG f1 f2 most count names jf j w0 w1 t) μ = some (.ok (.m 0) μ) := fun t μ => by simp [dVar, manG]
      have hs' : ∀ r ∈ left, RuleOk r := fun r hr => hs r (hp.subset (List.mem_append_left _ hr))
      have ht : ∀ t, bOf (d2 (cmpVt .NotEq) (dVar 5) (dLst false aNil)) (manG f1 f2 most count names jf j w0 w1 t) μ = some (.ok (!left.isEmpty) μ) := fun t => by
        have := eq_nil_ev (f := true) h1 hs'
        simp [bOf, d2, d5, dLst, aNil, newL, pack, cmpVt, cmpV, this]
      by_cases hne0 : left = []
      · subst hne0
        refine ⟨manG f1 f2 most count names jf j w0 w1 (some (.v true (.int (0 + (i : Int))))), manG f1 f2 most count names jf j w0 w1 (some (.v true (.int (0 + (i : Int))))), μ, rfl, .inl ?_, a, b, [], found, _, rfl, ok, h0, hjf, h1, hp, Nat.le_succ_of_le hfl, h2⟩
        unfold sIf
        rw [ht]
        rfl
      · have hlp : 0 < left.length := List.length_pos_iff.mpr hne0
        obtain ⟨k, a', b', h, ok', k0, k1⟩ := call_grind (μ := μ) (j := 0) (a := a) (b := b) (left.length : Int) true h0 ok (by omega) (by
          have : bitsI (left.length : Int) ≤ bitsI 512 := bits_le (by omega) (by omega)
          have e : bitsI 512 = 9 := by decide
          omega)
        have hkl : k.toNat < left.length := by omega
        have hm0 : 0 < μ.length := (List.getElem?_eq_some_iff.mp h0).1
        have hmj : j < μ.length := (List.getElem?_eq_some_iff.mp h1).1
        have hmf : jf < μ.length := (List.getElem?_eq_some_iff.mp hjf).1
        have hj1 : (μ.set 0 (Mill a' b'))[j]? = some (.lst (left.map ruleT)) := by rw [List.getElem?_set_ne (by omega)]; exact h1
        have hget : (left.map ruleT)[k.toNat]? = some (ruleT left[k.toNat]) := by simp [hkl]
        have herase := erase_map ruleT left k.toNat
        let μ2 := (μ.set 0 (Mill a' b')).set j (.lst ((left.eraseIdx k.toNat).map ruleT))
        let μ3 := μ2.set jf (.lst ((found ++ [left[k.toNat]]).map ruleT))
        have hf2 : μ2[jf]? = some (.lst (found.map ruleT)) := by
          show ((μ.set 0 (Mill a' b')).set j _)[jf]? = _
          rw [List.getElem?_set_ne (Ne.symm hne), List.getElem?_set_ne (by omega)]
          exact hjf
        have hfs : found.length < sizeLine := by rw [sizeLine_eq]; omega
        refine ⟨manG f1 f2 most count names jf j w0 w1 (some (.v true (.int (0 + (i : Int))))), manG f1 f2 most count names jf j w0 w1 (some (.v true (.int (0 + (i : Int))))), μ3, rfl, .inl ?_, a', b', left.eraseIdx k.toNat, found ++ [left[k.toNat]], _, rfl, ok', ?_, ?_, ?_, ?_, ?_, ?_⟩
        · unfold sIf
          rw [ht]
          have hemp : left.isEmpty = false := by simpa using hne0
          have hlen : lenV μ [.m j] = some (.v true (.int left.length), μ) := by simp [lenV, items, h1]
          have hgr : dCall d_law_grind 2 false [true, false] (aCons (dVar 0) (aCons (dBi lenV (aCons (dVar 5) aNil)) aNil)) (manG f1 f2 most count names jf j w0 w1 (some (.v true (.int (0 + (i : Int)))))) μ = some (.ok (.v true (.int k)) (μ.set 0 (Mill a' b'))) := by
            simp only [dCall, aCons, aNil, dBi, d0, d5, bind_ok, hlen, ot_some]
            simpa using h
          have hitems : items μ (.m j) = some (true, left.map ruleT) := items_m h1
          have hpop : popV (μ.set 0 (Mill a' b')) (.m j) [.v true (.int k)] = some (ruleT left[k.toNat], μ2) := by
            have hk63 : 0 ≤ k ∧ k < 2 ^ 63 := ⟨k0, by omega⟩
            rw [pop_ev hj1 hk63 hget, herase]
          have happ : appV μ2 (.m jf) [ruleT left[k.toNat]] = some (.v true .non, μ3) := by
            have e3 : found.map ruleT ++ [ruleT left[k.toNat]] = (found ++ [left[k.toNat]]).map ruleT := by simp
            rw [app_ev hf2 (by rw [List.length_map]; exact hfs), e3]
          have hitf : items μ (.m jf) = some (true, found.map ruleT) := items_m hjf
          simp only [bindS_ok, hemp, Bool.not_false, if_true, sExp, dMt, d4, d5, bind_ok, hitf, hitems, aCons, aNil, hgr, Option.any_some, hpop, ot_some, happ]
        · show (((μ.set 0 (Mill a' b')).set j _).set jf _)[0]? = _
          rw [List.getElem?_set_ne hjf0, List.getElem?_set_ne hj0, List.getElem?_set_self hm0]
        · show (μ2.set jf _)[jf]? = _
          rw [List.getElem?_set_self (by show jf < ((μ.set 0 (Mill a' b')).set j _).length; rw [List.length_set, List.length_set]; exact hmf)]
        · show (((μ.set 0 (Mill a' b')).set j _).set jf _)[j]? = _
          rw [List.getElem?_set_ne hne, List.getElem?_set_self (by rw [List.length_set]; exact hmj)]
        · have q := erase_perm left k.toNat hkl
          have q2 : (left.eraseIdx k.toNat ++ (found ++ [left[k.toNat]])).Perm ((left[k.toNat] :: left.eraseIdx k.toNat) ++ found) := by
            rw [← List.append_assoc]
            exact (List.perm_append_singleton _ _)
          exact (q2.trans (q.append_right found)).trans hp
        · simp; exact hfl
        · intro c hc
          rcases List.mem_or_eq_of_mem_set hc with hc | rfl
          · rcases List.mem_or_eq_of_mem_set hc with hc | rfl
            · rcases List.mem_or_eq_of_mem_set hc with hc | rfl
              · exact h2 c hc
              · exact plain_mill _ _
            · exact plain_rules _
          · exact plain_rules _)
    n 0 (manG f1 f2 most count names jf j w0 w1 none) μ (by omega) ⟨a, b, all, [], none, rfl, ok, hμ, hf, hj, by simp, Nat.le_refl _, hl⟩
  exact ⟨a', b', left, found, tv, μ', e, ok', h0, hjf, hp, hl', h2⟩
theorem rows_ok : ∀ row, (row = row1 ∨ row = row2 ∨ row = row3) → row.Nodup ∧ ∀ x ∈ row, PySem.PyData.strOk x = true := by
  intro row h
  rcases h with rfl | rfl | rfl
  · exact ⟨by decide +kernel, by decide +kernel⟩
  · exact ⟨by decide +kernel, by decide +kernel⟩
  · exact ⟨by decide +kernel, by decide +kernel⟩
theorem NamesOk.nodup {names : List Str} (h : NamesOk names) : names.Nodup := by
  obtain ⟨row, rest, hr, hp⟩ := h
  have := hp.nodup_iff.mpr (rows_ok row hr).1
  exact (List.nodup_append.mp this).2.1
theorem NamesOk.str {names : List Str} (h : NamesOk names) : ∀ x ∈ names, PySem.PyData.strOk x = true := fun x hx => by
  obtain ⟨row, rest, hr, hp⟩ := h
  exact (rows_ok row hr).2 x (hp.subset (List.mem_append_right _ hx))
theorem evAll_mem {names : List Str} {r : Str × Str × Str} : r ∈ evAll names names ↔ r.1 ∈ names ∧ r.2.1 ∈ names ∧ r.2.2 ∈ names ∧ r.2.2 ≠ r.1 := by
  obtain ⟨x, y, z⟩ := r
  simp only [evAll, evWho, evRow, List.mem_flatMap, List.mem_map, List.mem_filter]
  constructor
  · rintro ⟨who, h1, whom, h2, w, ⟨h3, h4⟩, h5⟩
    cases h5
    exact ⟨h1, h2, h3, by simpa using h4⟩
  · rintro ⟨h1, h2, h3, h4⟩
    exact ⟨x, h1, y, h2, z, ⟨h3, by simpa using h4⟩, rfl⟩
theorem evRow_nodup {names : List Str} (h : names.Nodup) (who whom : Str) : (evRow names who whom).Nodup := by
  unfold evRow
  show List.Pairwise _ _
  rw [List.pairwise_map]
  exact (List.Pairwise.sublist List.filter_sublist h).imp fun {a b} hab e => hab (by cases e; rfl)
theorem evWho_nodup {names : List Str} (h : names.Nodup) (who : Str) {whoms : List Str} (hw : whoms.Nodup) : (evWho names who whoms).Nodup := by
  unfold evWho
  show List.Pairwise _ _
  rw [List.pairwise_flatMap]
  refine ⟨fun x _ => evRow_nodup h who x, hw.imp fun {x y} hxy r hr r' hr' e => ?_⟩
  unfold evRow at hr hr'
  obtain ⟨z, _, rfl⟩ := List.mem_map.mp hr
  obtain ⟨z', _, rfl⟩ := List.mem_map.mp hr'
  cases e
  exact hxy rfl
theorem evAll_nodup {names : List Str} (h : names.Nodup) : (evAll names names).Nodup := by
  unfold evAll
  show List.Pairwise _ _
  rw [List.pairwise_flatMap]
  refine ⟨fun x _ => evWho_nodup h x h, h.imp fun {x y} hxy r hr r' hr' e => ?_⟩
  unfold evWho evRow at hr hr'
  obtain ⟨w, _, hw⟩ := List.mem_flatMap.mp hr
  obtain ⟨w', _, hw'⟩ := List.mem_flatMap.mp hr'
  obtain ⟨z, _, rfl⟩ := List.mem_map.mp hw
  obtain ⟨z', _, rfl⟩ := List.mem_map.mp hw'
  cases e
  exact hxy rfl
/-- a drawn plan: kinds, and rules over them -/
structure PlanOk (names : List Str) (rules : List (Str × Str × Str)) : Prop where
  nm : NamesOk names
  nodup : rules.Nodup
  mem : ∀ r ∈ rules, r.1 ∈ names ∧ r.2.1 ∈ names ∧ r.2.2 ∈ names ∧ r.2.2 ≠ r.1
  n1 : 1 ≤ names.length
  n8 : names.length ≤ 8
theorem planOk_of {names : List Str} {left found : List (Str × Str × Str)} (hN : NamesOk names) (h1 : 1 ≤ names.length) (h8 : names.length ≤ 8) (hp : (left ++ found).Perm (evAll names names)) : PlanOk names found := by
  refine ⟨hN, ?_, fun r hr => evAll_mem.mp (hp.subset (List.mem_append_right _ hr)), h1, h8⟩
  have := hp.nodup_iff.mpr (evAll_nodup hN.nodup)
  exact (List.nodup_append.mp this).2.1
theorem rules_str {names : List Str} (hN : NamesOk names) : ∀ r ∈ evAll names names, RuleOk r := fun r hr => by
  obtain ⟨h1, h2, h3, _⟩ := evAll_mem.mp hr
  exact ⟨hN.str _ h1, hN.str _ h2, hN.str _ h3⟩
def namesD (names : List Str) : D := .lst (names.map .str)
def rulesD (rules : List (Str × Str × Str)) : D := .lst (rules.map ruleD)
def planT (names : List Str) (rules : List (Str × Str × Str)) : T := .v true (.tup [namesD names, rulesD rules])
theorem manual_ev (a b : Int) (f1 f2 : Bool) (most count : Int) (ok : MillOk a b) (h1 : 1 ≤ most) (h2 : most ≤ 8) (h3 : 0 ≤ count) (h4 : count ≤ 8) :
    ∃ a' b' names rules, d_law_manual [.m 0, .v f1 (.int most), .v f2 (.int count)] [Mill a b] = some (.ok (planT names rules) [Mill a' b']) ∧ MillOk a' b' ∧ PlanOk names rules ∧ (names.length : Int) ≤ most ∧ (rules.length : Int) ≤ count := by
  have b9 : ∀ x : Int, 0 ≤ x → x ≤ 16 → bitsI x < 9000 := fun x hx hy => by
    have := bits_le hx hy
    have e : bitsI 16 = 4 := by decide
    omega
  obtain ⟨k, a1, b1, e1, ok1, k0, k1⟩ := call_grind (μ := [Mill a b]) (j := 0) (a := a) (b := b) most f1 rfl ok (by omega) (b9 _ (by omega) (by omega))
  obtain ⟨a2, b2, names, e2, ok2, hN, hl⟩ := call_tribes (a := a1) (b := b1) (G := []) true (1 + k).toNat (by omega) ok1
  have h8 : names.length ≤ 8 := by omega
  obtain ⟨j, w0, w1, μ3, hj2, e3, g0, gf, gj, gl⟩ := all_ev names f1 f2 most count 1 2 [Mill a2 b2, .lst [], .lst []] a2 b2 rfl rfl rfl (by
    intro c hc
    simp only [List.mem_cons, List.not_mem_nil, or_false] at hc
    rcases hc with rfl | rfl | rfl
    · exact plain_mill _ _
    · exact fun _ => rfl
    · exact fun _ => rfl) h8 (Nat.le_refl _)
  obtain ⟨k2, a3, b3, e4, ok3, k20, k21⟩ := call_grind (μ := μ3) (j := 0) (a := a2) (b := b2) (count + 1) true g0 ok2 (by omega) (b9 _ (by omega) (by omega))
  have hm0 : 0 < μ3.length := (List.getElem?_eq_some_iff.mp g0).1
  have hsq : names.length * names.length ≤ 8 * 8 := Nat.mul_le_mul h8 h8
  have hcube : names.length * (names.length * names.length) ≤ 8 * (8 * 8) := Nat.mul_le_mul h8 hsq
  have hev := evAll_len names names
  obtain ⟨a4, b4, left, found, tv, μ4, e5, ok4, q0, qf, qp, ql, qpl⟩ := take_ev names f1 f2 most count 1 j w0 w1 (evAll names names) k2.toNat (by omega) (μ3.set 0 (Mill a3 b3)) a3 b3 (by omega) (by omega) (by omega) ok3 (by rw [List.getElem?_set_self hm0]) (by rw [List.getElem?_set_ne (by omega)]; exact gf) (by rw [List.getElem?_set_ne (by omega)]; exact gj) (fun c hc => by
    rcases List.mem_or_eq_of_mem_set hc with hc | rfl
    · exact gl c hc
    · exact plain_mill _ _) (by omega) (rules_str hN)
  have hnl : names.length = (1 + k).toNat := hl
  refine ⟨a4, b4, names, found, ?_, ok4, planOk_of hN (by omega) h8 qp, by omega, by omega⟩
  show retD 1 (b_law_manual 1 [some (.m 0), some (.v f1 (.int most)), some (.v f2 (.int count)), none, none, none, none, none, none, none] [Mill a b]) = _
  unfold b_law_manual
  rw [seq_nx (Γ1 := [some (.m 0), some (.v f1 (.int most)), some (.v f2 (.int count)), some (.v true (namesD names)), some (.m 1), none, none, none, none, none]) (μ1 := [Mill a2 b2, .lst []]) (by
    have hp1 := pack_map names D.str
    have hlow : (Mill a2 b2).low 1 = true := rfl
    have e1' : callD d_law_grind false [true, false] [.m 0, .v f1 (.int most)] [Mill a b] = some (.ok (.v true (.int k)) [Mill a1 b1]) := by simpa using e1
    have e2' : callD d_law_tribes false [true, false] [.m 0, .v true (.int (1 + k))] [Mill a1 b1] = some (.ok (.m 1) [Mill a2 b2, .lst (names.map fun x => .v true (.str x))]) := by
      have hc : (((1 + k).toNat : Nat) : Int) = 1 + k := by omega
      rw [hc] at e2
      have hst : names.map strT = names.map fun x => T.v true (.str x) := rfl
      rw [← hst]
      simpa using e2
    simp [sPar, dFrz, dCall, aCons, aNil, dVar, d2, dAtm, binV, L3.binI, e1', e2', frzV, hp1, hlow, dLst, newL, namesD])]
  rw [seq_nx (Γ1 := manG f1 f2 most count names 1 2 none none none) (μ1 := [Mill a2 b2, .lst [], .lst []]) rfl]
  rw [seq_nx e3]
  rw [seq_nx (for_ev (rng1_ev (f := true) (n := k2) (by
    have hi : ∀ tvv, dVar 0 (manG f1 f2 most count names 1 j w0 w1 tvv) μ3 = some (.ok (.m 0) μ3) := fun tvv => by simp [dVar, manG]
    have hi2 : ∀ tvv, dVar 2 (manG f1 f2 most count names 1 j w0 w1 tvv) μ3 = some (.ok (.v f2 (.int count)) μ3) := fun tvv => by simp [dVar, manG]
    simp [aCons, aNil, dCall, hi, hi2, d2, dAtm, binV, L3.binI, e4]) (by omega)) e5)]
  have hp1 := pack_map found ruleD
  have d3 : dVar 3 (manG f1 f2 most count names 1 j w0 w1 tv) μ4 = some (.ok (.v true (namesD names)) μ4) := by simp [dVar, manG, namesD]
  have d4 : dVar 4 (manG f1 f2 most count names 1 j w0 w1 tv) μ4 = some (.ok (.m 1) μ4) := by simp [dVar, manG]
  have hfz : fzV 1 (.m 1) μ4 = some (.v true (rulesD found), μ4.set 1 (.frz true (rulesD found))) := by
    unfold fzV
    simp only [qf]
    rw [show pack (found.map ruleT) = some (true, found.map ruleD) from hp1]
    rfl
  have htake : (μ4.set 1 (.frz true (rulesD found))).take 1 = [Mill a4 b4] := by
    cases μ4 with
    | nil => simp at q0
    | cons c r =>
      have : c = Mill a4 b4 := by simpa using q0
      subst this
      simp
  have hlow : (Mill a4 b4).low 1 = true := rfl
  simp [sRet, dTup, aCons, aNil, d3, d4, dFz, hfz, newU, pack, retD, retV, htake, hlow, T.low, planT]

end Qk18

set_option Elab.async false
set_option linter.all false
set_option maxRecDepth 100000
set_option maxHeartbeats 4000000
/-! words and texts -/
namespace Qk18
open PySem PySem.Spec PyProof.Rows L2 L3
theorem pys_strs : ∀ l : List Str, D.pys (l.map .str) = some (l.map PyData.str)
  | [] => rfl
  | x :: l => by
    have ih := pys_strs l
    simp [D.pys, D.py, ih]
theorem lay_strs : ∀ l : List Str, (∀ x ∈ l, PySem.PyData.strOk x = true) → PyData.canLayAll0 (l.map PyData.str) = true
  | [], _ => by simp [PyData.canLayAll0]
  | x :: l, h => by
    have ih := lay_strs l fun y hy => h y (List.mem_cons_of_mem _ hy)
    simp [PyData.canLayAll0, PyData.canLay0, ih, h x List.mem_cons_self]
theorem depth_strs : ∀ l : List Str, PyData.depthAll (l.map PyData.str) ≤ 2
  | [] => by simp [PyData.depthAll]
  | x :: l => by
    have ih := depth_strs l
    simp [PyData.depthAll, PyData.depth]
    omega
theorem sh_strs {l : List Str} (h : ∀ x ∈ l, PySem.PyData.strOk x = true) : SeqAt.shaped (.list (l.map PyData.str)) = true := by
  have := depth_strs l
  simp [SeqAt.shaped, PyData.canLay0, lay_strs l h, PyData.depth]
  omega
theorem sh_str {x : Str} (h : PySem.PyData.strOk x = true) : SeqAt.shaped (.str x) = true := by
  simp [SeqAt.shaped, PyData.canLay0, h, PyData.depth]
theorem in_strs {μ : Mu} {f g : Bool} {s : Str} {l : List Str} (hs : PySem.PyData.strOk s = true) (hl : ∀ x ∈ l, PySem.PyData.strOk x = true) : L3.inT μ (.v f (.str s)) (.v g (.lst (l.map .str))) = some (decide (s ∈ l)) := by
  have h1 : deep DEEP μ (.v f (.str s)) = some (.str s) := by unfold deep; rfl
  have h2 : deep DEEP μ (.v g (.lst (l.map .str))) = some (.lst (l.map .str)) := by unfold deep; rfl
  have e : L3.inT μ (.v f (.str s)) (.v g (.lst (l.map .str))) = match deep DEEP μ (.v f (.str s)), deep DEEP μ (.v g (.lst (l.map .str))) with
      | some x, some (.lst ys) => match x.py, D.pys ys with
        | some d, some ds => if SeqAt.shaped d && SeqAt.shaped (.list ds) then some (ds.any fun z => PyData.eqv z d) else none
        | _, _ => none
      | _, _ => none := rfl
  rw [e, h1, h2]
  have h3 : D.py (.str s) = some (.str s) := by simp [D.py]
  simp only [h3, pys_strs, sh_str hs, sh_strs hl, Bool.and_self, if_true]
  congr 1
  rw [Bool.eq_iff_iff]
  simp [List.any_eq_true, PyData.eqv]
theorem in_rules {μ : Mu} {f g : Bool} {r : Str × Str × Str} {l : List (Str × Str × Str)} (hs : RuleOk r) (hl : ∀ x ∈ l, RuleOk x) : L3.inT μ (.v f (ruleD r)) (.v g (.lst (l.map ruleD))) = some (decide (r ∈ l)) := by
  have h1 : deep DEEP μ (.v f (ruleD r)) = some (ruleD r) := by unfold deep; rfl
  have h2 : deep DEEP μ (.v g (.lst (l.map ruleD))) = some (.lst (l.map ruleD)) := by unfold deep; rfl
  have e : L3.inT μ (.v f (ruleD r)) (.v g (.lst (l.map ruleD))) = match deep DEEP μ (.v f (ruleD r)), deep DEEP μ (.v g (.lst (l.map ruleD))) with
      | some x, some (.lst ys) => match x.py, D.pys ys with
        | some d, some ds => if SeqAt.shaped d && SeqAt.shaped (.list ds) then some (ds.any fun z => PyData.eqv z d) else none
        | _, _ => none
      | _, _ => none := rfl
  rw [e, h1, h2]
  have h3 : D.py (ruleD r) = some (rulePy r) := by simp [ruleD, rulePy, D.py, D.pys]
  have s1 : SeqAt.shaped (rulePy r) = true := by
    obtain ⟨a, b, c⟩ := hs
    simp [SeqAt.shaped, rulePy, PyData.canLay0, PyData.canLayAll0, a, b, c, PyData.depth, PyData.depthAll]
  have s2 : SeqAt.shaped (.list (l.map rulePy)) = true := by
    have := depth_rules l
    simp [SeqAt.shaped, PyData.canLay0, lay_rules l hl, PyData.depth]
    omega
  simp only [h3, pys_rules, s1, s2, Bool.and_self, if_true]
  congr 1
  rw [Bool.eq_iff_iff]
  obtain ⟨x, y, z⟩ := r
  simp [List.any_eq_true, rulePy, PyData.eqv, PyData.eqvAll]
  constructor
  · rintro ⟨a, b, c, h, rfl, rfl, rfl⟩
    exact h
  · intro h
    exact ⟨x, y, z, h, rfl, rfl, rfl⟩
theorem cut_take (ts : List T) (i : Nat) (h : i ≤ ts.length) : cutT ts none (some (i : Int)) = ts.take i := by
  have h1 : HT.sIx ts.length 0 none = 0 := HT.sIx_none _ _
  have h2 : HT.sIx ts.length ts.length (some (i : Int)) = i := by rw [HT.sIx_nat]; omega
  unfold cutT
  rw [h1, h2]
  simp
theorem not_in_take {α : Type} {l : List α} (h : l.Nodup) {i : Nat} (hi : i < l.length) : l[i] ∉ l.take i := fun hm => by
  obtain ⟨j, hj⟩ := List.getElem?_of_mem hm
  have hji : j < i := by
    have := (List.getElem?_eq_some_iff.mp hj).1
    rw [List.length_take] at this
    omega
  rw [List.getElem?_take_of_lt hji] at hj
  have hi' : l[i]? = some l[i] := by simp [hi]
  have := nd_ix h hj hi'
  omega

/-- a sign of the letters -/
def inL (c : Nat) : Bool := !(Builtin.Str.occurrences "abcdefghijklmnopqrstuvwxyz" ⟨#[c]⟩ 0 (Str.length "abcdefghijklmnopqrstuvwxyz") 1).isEmpty
theorem inL_ev (c : Nat) (μ : Mu) (f g : Bool) : L3.inT μ (.v f (.str ⟨#[c]⟩)) (.v g (.str "abcdefghijklmnopqrstuvwxyz")) = some (inL c) := rfl
def allL (s : Str) : Bool := s.cps.toList.all inL
/-- a name that is one -/
def wordB (s : Str) : Bool := decide (1 ≤ s.length ∧ s.length ≤ 8) && allL s
theorem cps_lt {s : Str} (h : PyData.strOk s = true) : ∀ c ∈ s.cps.toList, c < 0x110000 := fun c hc => by
  have := Array.all_eq_true'.mp h c (Array.mem_toList_iff.mp hc)
  simpa using this
theorem sign_ok {c : Nat} (h : c < 0x110000) : PyData.strOk (⟨#[c]⟩ : Str) = true := by
  show (#[c] : Array Nat).all (· < 0x110000) = true
  simp [h]
theorem txt_lc {s : Str} {ge : De} {g : Bool} {j m0 : Nat} {Γ : Gam} {μ : Mu} {c : Db} {e : De} {P : Nat → Bool} {E : Nat → D} (hge : ge Γ μ = some (.ok (.v g (.str s)) μ)) (hz : s.length ≤ sizeLine) (hm : m0 ≤ μ.length) (hl : μ.all (Cell.low μ.length) = true)
    (hj : ∀ (y : T) μ', gNm j (.one y) (wipeG Γ [j]) μ' = some ((wipeG Γ [j]).set j (some y)))
    (h : ∀ x ∈ s.cps.toList, ∀ acc, c ((wipeG Γ [j]).set j (some (.v true (.str ⟨#[x]⟩)))) (μ ++ [.lst acc]) = some (.ok (P x) (μ ++ [.lst acc])) ∧ (P x = true → e ((wipeG Γ [j]).set j (some (.v true (.str ⟨#[x]⟩)))) (μ ++ [.lst acc]) = some (.ok (.v true (E x)) (μ ++ [.lst acc])))) :
    dLc false m0 (iTxt ge) (gNm j) c e [j] Γ μ = some (.ok (.v true (.lst ((s.cps.toList.filter P).map E))) μ) := by
  refine dlc_ev (n := s.cps.toList.length) (v := .txt s) (P := fun i => match s.cps.toList[i]? with | some x => P x | none => true) (E := fun i => match s.cps.toList[i]? with | some x => .v true (E x) | none => .v true .non) ?_ (by simp [ItV.len]) (by simp only [Array.length_toList]; exact hz) (fun acc => rfl) (fun i acc hi => ?_) ?_ hm hl
  · unfold iTxt
    rw [hge]
    rfl
  · have hi2 : i < s.cps.size := by simpa using hi
    have hc : s.cps[i]? = some s.cps.toList[i] := by simp [hi2]
    have hx : s.cps.toList[i]? = some s.cps.toList[i] := List.getElem?_eq_getElem hi
    obtain ⟨h1, h2⟩ := h s.cps.toList[i] (List.getElem_mem hi) acc
    refine ⟨.one (.v true (.str ⟨#[s.cps.toList[i]]⟩)), _, by simp only [ItV.at, hc], hj _ _, ?_, ?_⟩
    · rw [hx]
      exact h1
    · rw [hx]
      exact h2
  · rw [lcOut_list s.cps.toList P (fun x => .v true (E x)) _ _ (fun i h => by simp [List.getElem?_eq_getElem h]) (fun i h => by simp [List.getElem?_eq_getElem h]) s.cps.toList.length 0 (by omega), List.drop_zero]
    exact pack_map _ E
theorem bools_all {α : Type} (l : List α) (B : α → Bool) : boolsOf ((l.map fun x => D.bl (B x)).map (mkT true)) = some (l.map B) := by
  induction l with
  | nil => rfl
  | cons x l ih =>
    have e : mkT true (D.bl (B x)) = .v true (.bl (B x)) := rfl
    simp only [List.map_cons, e, boolsOf, ih]
theorem is_name_all (s : Str) (hz : s.length ≤ 100) (f : Bool) : d_is_name [.v f (.str s)] [] = some (.ok (.v true (.bl (wordB s))) []) := by
  have hsz : s.length ≤ sizeLine := by rw [sizeLine_eq]; omega
  let Γ : Gam := [some (.v f (.str s)), none]
  have hlc := txt_lc (s := s) (ge := dVar 0) (g := f) (j := 1) (m0 := 0) (Γ := Γ) (μ := []) (c := bYes) (e := d2 (cmpVt .In) (dVar 1) (dAtm (.str "abcdefghijklmnopqrstuvwxyz"))) (P := fun _ => true) (E := fun x => .bl (inL x)) rfl hsz (Nat.le_refl _) rfl (fun _ _ => rfl)
    (fun x hx acc => ⟨rfl, fun _ => by
      have hin := inL_ev x ([] ++ [Cell.lst acc]) true true
      have v1 : ∀ μ, dVar 1 ((wipeG Γ [1]).set 1 (some (.v true (.str ⟨#[x]⟩)))) μ = some (.ok (.v true (.str ⟨#[x]⟩)) μ) := fun _ => rfl
      simp only [d2, v1, bind_ok, dAtm, cmpVt, cmpV, hin, Option.map_some, ot_some]⟩)
  have hft : s.cps.toList.filter (fun _ => true) = s.cps.toList := List.filter_eq_self.mpr fun _ _ => rfl
  rw [hft] at hlc
  have hlen : lenV [] [.v f (.str s)] = some (.v true (.int s.length), []) := by simp [lenV, hsz]
  have hall : onBools (fun bs => bs.all id) [] [.v true (.lst (s.cps.toList.map fun x => D.bl (inL x)))] = some (.v true (.bl (allL s)), []) := by
    unfold onBools
    simp only [items_lst, bools_all]
    simp [allL, List.all_map, Function.comp_def]
  have v0 : ∀ μ, dVar 0 Γ μ = some (.ok (.v f (.str s)) μ) := fun _ => rfl
  have hch : dChain .LtE .LtE (dAtm (.int 1)) (dBi lenV (aCons (dVar 0) aNil)) (dAtm (.int 8)) Γ [] = some (.ok (.v true (.bl (decide (1 ≤ s.length ∧ s.length ≤ 8)))) []) := by
    have c1 : cmpV .LtE [] (.v true (.int 1)) (.v true (.int s.length)) = some (decide (1 ≤ s.length)) := by
      show some (decide ((1 : Int) ≤ (s.length : Int))) = _
      congr 1
      exact decide_eq_decide.mpr (by omega)
    have c2 : cmpV .LtE [] (.v true (.int s.length)) (.v true (.int 8)) = some (decide (s.length ≤ 8)) := by
      show some (decide ((s.length : Int) ≤ (8 : Int))) = _
      congr 1
      exact decide_eq_decide.mpr (by omega)
    simp only [dChain, dAtm, dBi, aCons, aNil, v0, bind_ok, hlen, ot_some, c1]
    by_cases h1 : 1 ≤ s.length
    · rw [decide_eq_true h1]
      simp only [bind_ok, cmpVt, c2, Option.map_some, ot_some]
      congr 4
      exact decide_eq_decide.mpr ⟨fun h => ⟨h1, h⟩, fun h => h.2⟩
    · rw [decide_eq_false h1, decide_eq_false (fun h => h1 h.1)]
  show retD 0 (b_is_name 0 Γ []) = _
  unfold b_is_name
  unfold sRet dAnd
  rw [hch]
  simp only [bind_ok]
  unfold wordB
  by_cases h1 : 1 ≤ s.length ∧ s.length ≤ 8
  · rw [decide_eq_true h1, if_pos rfl]
    simp only [dBi, aCons, aNil, hlc, bind_ok, hall, ot_some, bindS_ok, Bool.true_and]
    exact ret_v0 _ _ _
  · rw [decide_eq_false h1, if_neg Bool.false_ne_true, Bool.false_and]
    exact ret_v0 _ _ _
theorem eq_nil_strs {μ : Mu} {f g : Bool} {l : List Str} (hl : ∀ x ∈ l, PyData.strOk x = true) : L3.eqT μ (.v f (.lst (l.map .str))) (.v g (.lst [])) = some l.isEmpty := by
  have h3 : D.py (.lst (l.map D.str)) = some (.list (l.map PyData.str)) := by simp [D.py, pys_strs]
  have h4 : D.py (.lst []) = some (.list []) := by simp [D.py, D.pys]
  have s2 : SeqAt.shaped (.list []) = true := by simp [SeqAt.shaped, PyData.canLay0, PyData.canLayAll0, PyData.depth, PyData.depthAll]
  show L3.eqD _ _ = _
  simp only [L3.eqD, h3, h4, sh_strs hl, s2, Bool.and_self, if_true]
  cases l with
  | nil => rfl
  | cons x r => simp [PyData.eqv, PyData.eqvAll]
end Qk18

set_option Elab.async false
set_option linter.all false
set_option maxRecDepth 100000
set_option maxHeartbeats 4000000
/-! names that are refused -/
namespace Qk18
open PySem PySem.Spec PyProof.Rows L2 L3
theorem dCall_ev {g : List T → Mu → Ot T} {n : Nat} {live : Bool} {rf : List Bool} {da : Da} {Γ : Gam} {μ : Mu} {ts : List T} (h : da Γ μ = some (.ok ts μ)) (hn : ts.length = n) : dCall g n live rf da Γ μ = callD g live rf ts μ := by
  unfold dCall
  rw [h]
  simp only [bind_ok, hn, if_true]
theorem dCall_ev2 {g : List T → Mu → Ot T} {n : Nat} {live : Bool} {rf : List Bool} {da : Da} {Γ : Gam} {μ μ1 : Mu} {ts : List T} (h : da Γ μ = some (.ok ts μ1)) (hn : ts.length = n) : dCall g n live rf da Γ μ = callD g live rf ts μ1 := by
  unfold dCall
  rw [h]
  simp only [bind_ok, hn, if_true]
def Stops : Eo → Prop
  | .rt _ _ => True
  | .ex _ _ _ _ => True
  | _ => False
theorem for_stop {v : ItV} {g : Dg} {b : Ds} {n j : Nat} (J : Nat → Gam → Mu → Prop) (R : Eo → Prop) (hj : j < n) (hok : ∀ i Γ μ, i ≤ n → J i Γ μ → v.ok μ = true)
    (step : ∀ i Γ μ, i < j → J i Γ μ → ∃ y Γ1 Γ2 μ2, v.at μ i = some y ∧ g y Γ μ = some Γ1 ∧ b Γ1 μ = some (.nx Γ2 μ2) ∧ J (i + 1) Γ2 μ2)
    (last : ∀ Γ μ, J j Γ μ → ∃ y Γ1 r, v.at μ j = some y ∧ g y Γ μ = some Γ1 ∧ b Γ1 μ = some r ∧ Stops r ∧ R r) :
    ∀ (k i : Nat) (Γ : Gam) (μ : Mu), i + k = n → i ≤ j → J i Γ μ → ∃ r, forD v g b k i Γ μ = some r ∧ Stops r ∧ R r
  | 0, i, Γ, μ, h, h2, hJ => by omega
  | k + 1, i, Γ, μ, h, h2, hJ => by
    by_cases e : i = j
    · subst e
      obtain ⟨y, Γ1, r, a1, a2, a3, a4, a5⟩ := last Γ μ hJ
      refine ⟨r, ?_, a4, a5⟩
      cases r with
      | rt _ _ => simp [forD, hok i Γ μ (by omega) hJ, a1, a2, a3]
      | ex _ _ _ _ => simp [forD, hok i Γ μ (by omega) hJ, a1, a2, a3]
      | nx _ _ => exact a4.elim
      | bk _ _ => exact a4.elim
      | ct _ _ => exact a4.elim
    · obtain ⟨y, Γ1, Γ2, μ2, a1, a2, a3, a4⟩ := step i Γ μ (by omega) hJ
      obtain ⟨r, b1, b2⟩ := for_stop J R hj hok step last k (i + 1) Γ2 μ2 (by omega) (by omega) a4
      exact ⟨r, by simp [forD, hok i Γ μ (by omega) hJ, a1, a2, a3, b1], b2⟩
/-- what is wrong first -/
theorem first_err (err : Nat → Option Nat) : ∀ n, (∀ i, i < n → err i = none) ∨ ∃ j c, j < n ∧ err j = some c ∧ ∀ i, i < j → err i = none
  | 0 => .inl fun i h => by omega
  | n + 1 => by
    rcases first_err err n with h | ⟨j, c, h1, h2, h3⟩
    · cases e : err n with
      | none =>
        refine .inl fun i hi => ?_
        by_cases q : i = n
        · subst q; exact e
        · exact h i (by omega)
      | some c => exact .inr ⟨n, c, by omega, e, h⟩
    · exact .inr ⟨j, c, by omega, h2, h3⟩
/-- names that may be handed in -/
structure Told (names : List Str) : Prop where
  s : ∀ x ∈ names, PyData.strOk x = true
  l : ∀ x ∈ names, x.length ≤ 100
  n : names.length ≤ 100
def nErr (names : List Str) (i : Nat) : Option Nat := match names[i]? with
  | some s => if wordB s then (if s ∈ names.take i then some 2 else none) else some 1
  | none => none
section
variable {names : List Str}
theorem cutNames {f : Bool} {i : Nat} (hi : i ≤ names.length) : cutT ((names.map D.str).map (mkT f)) none (some (i : Int)) = (names.take i).map fun x => .v true (.str x) := by
  rw [cut_take _ _ (by simp; omega), ← List.map_take, ← List.map_take, List.map_map]
  exact List.map_congr_left fun x _ => by simp
theorem in_cut (N : Told names) {Γ : Gam} {μ : Mu} {f : Bool} {i s : Nat} {si : Nat} {x : Str} (hx : PyData.strOk x = true) (hi : i ≤ names.length) (v0 : ∀ μ, dVar 0 Γ μ = some (.ok (.v f (namesD names)) μ)) (vi : ∀ μ, dVar si Γ μ = some (.ok (.v true (.int (i : Nat))) μ)) (vs : ∀ μ, dVar s Γ μ = some (.ok (.v true (.str x)) μ)) :
    bOf (d2 (cmpVt .In) (dVar s) (dSl false (dVar 0) none (some (dVar si)))) Γ μ = some (.ok (decide (x ∈ names.take i)) μ) := by
  have hp := pack_map (names.take i) D.str
  have hmem := in_strs (μ := μ) (f := true) (g := true) hx (fun y hy => N.s y (List.mem_of_mem_take hy)) (s := x) (l := names.take i)
  have hs : slV false μ (.v f (namesD names)) none (some (i : Int)) = some (.v true (.lst ((names.take i).map .str)), μ) := by
    show (match items μ (.v f (.lst (names.map D.str))) with
      | some (true, ts) => newL false μ (cutT ts none (some (i : Int)))
      | _ => none) = _
    rw [items_lst]
    simp only [cutNames hi, newL, hp]
    rfl
  simp only [bOf, d2, vs, bind_ok, dSl, v0, dPart, vi, hs, ot_some, cmpVt, cmpV, hmem, Option.map_some]
theorem is_name_call {Γ : Gam} {μ : Mu} {x : Str} {s : Nat} (hx : x.length ≤ 100) (vs : ∀ μ, dVar s Γ μ = some (.ok (.v true (.str x)) μ)) : bNot (bTru (dCall d_is_name 1 false [false] (aCons (dVar s) aNil))) Γ μ = some (.ok (!wordB x) μ) := by
  have hc := (dCall_ev (g := d_is_name) (n := 1) (live := false) (rf := [false]) (da := aCons (dVar s) aNil) (Γ := Γ) (μ := μ) (ts := [.v true (.str x)]) (by simp only [aCons, aNil, vs, bind_ok]) rfl).trans (call_v (us := [.v true (.str x)]) rfl rfl (is_name_all x hx true) rfl)
  unfold bNot bTru
  rw [hc]
  simp only [bind_ok, truT]
/-- one name is asked -/
theorem name_step (N : Told names) {Γ : Gam} {μ : Mu} {f : Bool} {i : Nat} (hi : i < names.length) (v0 : ∀ μ, dVar 0 Γ μ = some (.ok (.v f (namesD names)) μ)) (v1 : ∀ μ, dVar 1 Γ μ = some (.ok (.v true (.int (i : Nat))) μ)) (v2 : ∀ μ, dVar 2 Γ μ = some (.ok (.v true (.str names[i])) μ)) :
    sSeq (sIf (bNot (bTru (dCall d_is_name 1 false [false] (aCons (dVar 2) aNil)))) (sRaise 1 (dVar 2)) L3.sNil) (sIf (bOf (d2 (cmpVt .In) (dVar 2) (dSl false (dVar 0) none (some (dVar 1))))) (sRaise 2 (dVar 2)) L3.sNil) Γ μ = some (match nErr names i with | none => .nx Γ μ | some c => .ex Γ c (.v true (.str names[i])) μ) := by
  have hm := List.getElem_mem hi
  have h1 := is_name_call (Γ := Γ) (μ := μ) (N.l _ hm) v2
  have h2 := in_cut N (Γ := Γ) (μ := μ) (N.s _ hm) (Nat.le_of_lt hi) v0 v1 v2
  unfold nErr
  rw [List.getElem?_eq_getElem hi]
  simp only
  cases hw : wordB names[i] with
  | false =>
    rw [hw] at h1
    have e1 : sIf (bNot (bTru (dCall d_is_name 1 false [false] (aCons (dVar 2) aNil)))) (sRaise 1 (dVar 2)) L3.sNil Γ μ = some (.ex Γ 1 (.v true (.str names[i])) μ) := by
      unfold sIf
      rw [h1]
      simp only [Bool.not_false, bindS_ok, if_true, sRaise, v2]
    unfold sSeq
    rw [e1]
    rfl
  | true =>
    rw [hw] at h1
    rw [seq_nx (Γ1 := Γ) (μ1 := μ) (by
      unfold sIf
      rw [h1]
      rfl)]
    unfold sIf
    rw [h2]
    by_cases hin : names[i] ∈ names.take i
    · rw [decide_eq_true hin]
      simp only [bindS_ok, if_true, sRaise, v2, if_pos hin]
    · rw [decide_eq_false hin]
      simp only [bindS_ok, Bool.false_eq_true, if_false, if_neg hin, if_true]
      rfl
theorem enum_at {f : Bool} {i : Nat} (hi : i < names.length) (μ : Mu) : (ItV.enum (.v f (namesD names)) names.length).at μ i = some (.two (.v true (.int (i : Nat))) (.v true (.str names[i]))) := by
  simp [ItV.at, itemsN, namesD, hi]
theorem check_names_ok (N : Told names) (f : Bool) (h : ∀ i, i < names.length → nErr names i = none) : d_check_names [.v f (namesD names)] [] = some (.ok (.v true .non) []) := by
  obtain ⟨Γ', μ', e, hJ⟩ := for_inv (v := .enum (.v f (namesD names)) names.length) (n := names.length) (g := gTp 2 (gsCons (gNm 1) (gsCons (gNm 2) gsNil)))
    (b := sSeq (sIf (bNot (bTru (dCall d_is_name 1 false [false] (aCons (dVar 2) aNil)))) (sRaise 1 (dVar 2)) L3.sNil) (sIf (bOf (d2 (cmpVt .In) (dVar 2) (dSl false (dVar 0) none (some (dVar 1))))) (sRaise 2 (dVar 2)) L3.sNil))
    (fun i Γ μ => (∃ t u, Γ = [some (.v f (namesD names)), t, u]) ∧ μ = [])
    (fun i Γ μ _ _ => by simp [ItV.ok, itemsN, namesD])
    (fun i Γ μ hi ⟨⟨t, u, hΓ⟩, hμ⟩ => by
      subst hΓ hμ
      have hb := name_step N (Γ := [some (.v f (namesD names)), some (.v true (.int (i : Nat))), some (.v true (.str names[i]))]) (μ := []) (f := f) hi (fun _ => rfl) (fun _ => rfl) (fun _ => rfl)
      rw [h i hi] at hb
      exact ⟨_, _, _, _, enum_at hi _, rfl, .inl hb, ⟨_, _, rfl⟩, rfl⟩)
    names.length 0 [some (.v f (namesD names)), none, none] [] (by omega) ⟨⟨_, _, rfl⟩, rfl⟩
  obtain ⟨⟨t, u, rfl⟩, rfl⟩ := hJ
  show retD 0 (b_check_names 0 [some (.v f (namesD names)), none, none] []) = _
  unfold b_check_names
  rw [for_ev (v := .enum (.v f (namesD names)) names.length) (by simp [iEnumD, aCons, aNil, dVar, namesD]) e]
  simp [retD, retV, T.low]
theorem check_names_bad (N : Told names) (f : Bool) {j c : Nat} (hj : j < names.length) (hc : nErr names j = some c) (h : ∀ i, i < j → nErr names i = none) : d_check_names [.v f (namesD names)] [] = some (.exc c (.v true (.str names[j])) []) := by
  obtain ⟨r, e, _, Γ', rfl⟩ := for_stop (v := .enum (.v f (namesD names)) names.length) (n := names.length) (j := j) (g := gTp 2 (gsCons (gNm 1) (gsCons (gNm 2) gsNil)))
    (b := sSeq (sIf (bNot (bTru (dCall d_is_name 1 false [false] (aCons (dVar 2) aNil)))) (sRaise 1 (dVar 2)) L3.sNil) (sIf (bOf (d2 (cmpVt .In) (dVar 2) (dSl false (dVar 0) none (some (dVar 1))))) (sRaise 2 (dVar 2)) L3.sNil))
    (fun i Γ μ => (∃ t u, Γ = [some (.v f (namesD names)), t, u]) ∧ μ = [])
    (fun r => ∃ Γ', r = .ex Γ' c (.v true (.str names[j])) []) hj
    (fun i Γ μ _ _ => by simp [ItV.ok, itemsN, namesD])
    (fun i Γ μ hi ⟨⟨t, u, hΓ⟩, hμ⟩ => by
      subst hΓ hμ
      have hb := name_step N (Γ := [some (.v f (namesD names)), some (.v true (.int (i : Nat))), some (.v true (.str (names[i]'(by omega))))]) (μ := []) (f := f) (by omega) (fun _ => rfl) (fun _ => rfl) (fun _ => rfl)
      rw [h i hi] at hb
      exact ⟨_, _, _, _, enum_at (by omega) _, rfl, hb, ⟨_, _, rfl⟩, rfl⟩)
    (fun Γ μ ⟨⟨t, u, hΓ⟩, hμ⟩ => by
      subst hΓ hμ
      have hb := name_step N (Γ := [some (.v f (namesD names)), some (.v true (.int (j : Nat))), some (.v true (.str names[j]))]) (μ := []) (f := f) hj (fun _ => rfl) (fun _ => rfl) (fun _ => rfl)
      rw [hc] at hb
      exact ⟨_, _, _, enum_at hj _, rfl, hb, trivial, _, rfl⟩)
    names.length 0 [some (.v f (namesD names)), none, none] [] (by omega) (Nat.zero_le _) ⟨⟨_, _, rfl⟩, rfl⟩
  show retD 0 (b_check_names 0 [some (.v f (namesD names)), none, none] []) = _
  unfold b_check_names
  rw [for_ev (v := .enum (.v f (namesD names)) names.length) (by simp [iEnumD, aCons, aNil, dVar, namesD]) e]
  simp [retD, retV, T.low]
end
end Qk18

set_option Elab.async false
set_option linter.all false
set_option maxRecDepth 100000
set_option maxHeartbeats 4000000
/-! rules that are refused -/
namespace Qk18
open PySem PySem.Spec PyProof.Rows L2 L3
/-- an error of a call goes on -/
theorem call_x {g : List T → Mu → Ot T} {rf : List Bool} {ts us : List T} {μ : Mu} {c : Nat} {f : Bool} {d : D} (hrf : refsOf rf ts = []) (ha : argsIn μ false rf ts 0 = some us) (h : g us [] = some (.exc c (.v f d) [])) :
    callD g false rf ts μ = some (.exc c (.v f d) μ) := by
  unfold callD
  rw [hrf, show (if false = true then hide μ [] else μ) = μ from rfl, ha]
  simp only [List.nodup_nil, if_true, cellsAt, h, back, Bool.not_false, Bool.true_or, ren, setAll, List.length_nil, List.take_nil, List.drop_nil, List.map_nil, List.append_nil]
section
variable {names : List Str} {rules : List (Str × Str × Str)}
structure ToldR (rules : List (Str × Str × Str)) : Prop where
  s : ∀ r ∈ rules, RuleOk r
  n : rules.length ≤ 100
def badR (names : List Str) (r : Str × Str × Str) : Bool := !decide (r.1 ∈ names) || (!decide (r.2.1 ∈ names) || (!decide (r.2.2 ∈ names) || decide (r.2.2 = r.1)))
def rErr (names : List Str) (rules : List (Str × Str × Str)) (i : Nat) : Option Nat := match rules[i]? with
  | some r => if badR names r then some 3 else (if r ∈ rules.take i then some 4 else none)
  | none => none
theorem mkR {g : Bool} (r : Str × Str × Str) : mkT g (ruleD r) = .v g (ruleD r) := by simp [mkT, ruleD, D.atom]
theorem mkN {g : Bool} : mkT g (namesD names) = .v g (namesD names) := by simp [mkT, namesD, D.atom]
theorem bOr_ev {a b : Db} {Γ : Gam} {μ : Mu} {x y : Bool} (ha : a Γ μ = some (.ok x μ)) (hb : b Γ μ = some (.ok y μ)) : bOr a b Γ μ = some (.ok (x || y) μ) := by
  unfold bOr
  rw [ha]
  cases x with
  | true => rfl
  | false =>
    simp only [bind_ok, Bool.false_eq_true, if_false, Bool.false_or]
    exact hb
theorem notin_ev (N : Told names) {Γ : Gam} {μ : Mu} {f : Bool} {s : Nat} {x : Str} (hx : PyData.strOk x = true) (v0 : ∀ μ, dVar 0 Γ μ = some (.ok (.v f (namesD names)) μ)) (vs : ∀ μ, dVar s Γ μ = some (.ok (.v true (.str x)) μ)) :
    bOf (d2 (cmpVt .NotIn) (dVar s) (dVar 0)) Γ μ = some (.ok (!decide (x ∈ names)) μ) := by
  have hmem := in_strs (μ := μ) (f := true) (g := f) hx N.s (s := x) (l := names)
  have e : L3.inT μ (.v true (.str x)) (.v f (namesD names)) = some (decide (x ∈ names)) := hmem
  simp only [bOf, d2, vs, v0, bind_ok, cmpVt, cmpV, e, Option.map_some, ot_some]
theorem check_rule_ev (N : Told names) (f g : Bool) {r : Str × Str × Str} (hr : RuleOk r) : d_check_rule [.v f (namesD names), .v g (ruleD r)] [] = if badR names r then some (.exc 3 (.v g (ruleD r)) []) else some (.ok (.v true .non) []) := by
  obtain ⟨x, y, z⟩ := r
  obtain ⟨h1, h2, h3⟩ := hr
  let Γ0 : Gam := [some (.v f (namesD names)), some (.v g (ruleD (x, y, z))), none, none, none]
  let Γ : Gam := [some (.v f (namesD names)), some (.v g (ruleD (x, y, z))), some (.v true (.str x)), some (.v true (.str y)), some (.v true (.str z))]
  have hs : sAsg (dVar 1) (gTp 3 (gsCons (gNm 2) (gsCons (gNm 3) (gsCons (gNm 4) gsNil)))) Γ0 [] = some (.nx Γ []) := by simp [sAsg, dVar, gTp, gsCons, gsNil, gNm, ruleD, Γ0, Γ]
  have v0 : ∀ μ, dVar 0 Γ μ = some (.ok (.v f (namesD names)) μ) := fun _ => rfl
  have i1 := notin_ev N (Γ := Γ) (μ := []) (s := 2) h1 v0 (fun _ => rfl)
  have i2 := notin_ev N (Γ := Γ) (μ := []) (s := 3) h2 v0 (fun _ => rfl)
  have i3 := notin_ev N (Γ := Γ) (μ := []) (s := 4) h3 v0 (fun _ => rfl)
  have i4 : bOf (d2 (cmpVt .Eq) (dVar 4) (dVar 2)) Γ [] = some (.ok (decide (z = x)) []) := by
    have v2 : ∀ μ, dVar 2 Γ μ = some (.ok (.v true (.str x)) μ) := fun _ => rfl
    have v4 : ∀ μ, dVar 4 Γ μ = some (.ok (.v true (.str z)) μ) := fun _ => rfl
    simp only [bOf, d2, v2, v4, bind_ok, cmpVt, cmpV, eqT_str, Option.map_some, ot_some]
  have hb := bOr_ev i1 (bOr_ev i2 (bOr_ev i3 i4))
  show retD 0 (b_check_rule 0 Γ0 []) = _
  unfold b_check_rule
  rw [seq_nx hs]
  unfold sIf
  rw [hb]
  have v1 : ∀ μ, dVar 1 Γ μ = some (.ok (.v g (ruleD (x, y, z))) μ) := fun _ => rfl
  show retD 0 (if badR names (x, y, z) = true then sRaise 3 (dVar 1) Γ [] else L3.sNil Γ []) = _
  cases badR names (x, y, z) with
  | true =>
    simp only [if_true, sRaise, v1, bindS_ok]
    simp [retD, retV, T.low]
  | false =>
    simp only [Bool.false_eq_true, if_false]
    rfl
theorem cutRules {f : Bool} {i : Nat} (hi : i ≤ rules.length) : cutT ((rules.map ruleD).map (mkT f)) none (some (i : Int)) = (rules.take i).map fun x => .v f (ruleD x) := by
  rw [cut_take _ _ (by simp; omega), ← List.map_take, ← List.map_take, List.map_map]
  exact List.map_congr_left fun x _ => mkR x
theorem packR (f : Bool) (l : List (Str × Str × Str)) : ∃ q, pack (l.map fun x => T.v f (ruleD x)) = some (q, l.map ruleD) := by
  induction l with
  | nil => exact ⟨true, rfl⟩
  | cons x l ih =>
    obtain ⟨q, hq⟩ := ih
    exact ⟨f && q, by simp [pack, hq]⟩
theorem in_cutR (N : ToldR rules) {Γ : Gam} {μ : Mu} {f g : Bool} {i s si sr : Nat} {x : Str × Str × Str} (hx : RuleOk x) (hi : i ≤ rules.length) (v1 : ∀ μ, dVar sr Γ μ = some (.ok (.v f (rulesD rules)) μ)) (vi : ∀ μ, dVar si Γ μ = some (.ok (.v true (.int (i : Nat))) μ)) (vs : ∀ μ, dVar s Γ μ = some (.ok (.v g (ruleD x)) μ)) :
    bOf (d2 (cmpVt .In) (dVar s) (dSl false (dVar sr) none (some (dVar si)))) Γ μ = some (.ok (decide (x ∈ rules.take i)) μ) := by
  obtain ⟨q, hp⟩ := packR f (rules.take i)
  have hmem := in_rules (μ := μ) (f := g) (g := q) hx (fun y hy => N.s y (List.mem_of_mem_take hy)) (r := x) (l := rules.take i)
  have hs : slV false μ (.v f (rulesD rules)) none (some (i : Int)) = some (.v q (.lst ((rules.take i).map ruleD)), μ) := by
    show (match items μ (.v f (.lst (rules.map ruleD))) with
      | some (true, ts) => newL false μ (cutT ts none (some (i : Int)))
      | _ => none) = _
    rw [items_lst]
    simp only [cutRules hi, newL, hp]
    rfl
  simp only [bOf, d2, vs, bind_ok, dSl, v1, dPart, vi, hs, ot_some, cmpVt, cmpV, hmem, Option.map_some]
/-- one rule is asked -/
theorem rule_step (N : Told names) (R : ToldR rules) {Γ : Gam} {μ : Mu} {f g : Bool} {i : Nat} (hi : i < rules.length) (v0 : ∀ μ, dVar 0 Γ μ = some (.ok (.v f (namesD names)) μ)) (v1 : ∀ μ, dVar 1 Γ μ = some (.ok (.v g (rulesD rules)) μ)) (v2 : ∀ μ, dVar 2 Γ μ = some (.ok (.v true (.int (i : Nat))) μ)) (v3 : ∀ μ, dVar 3 Γ μ = some (.ok (.v g (ruleD rules[i])) μ)) :
    ∃ q, sSeq (sExp (dCall d_check_rule 2 false [false, false] (aCons (dVar 0) (aCons (dVar 3) aNil)))) (sIf (bOf (d2 (cmpVt .In) (dVar 3) (dSl false (dVar 1) none (some (dVar 2))))) (sRaise 4 (dVar 3)) L3.sNil) Γ μ = some (match rErr names rules i with | none => .nx Γ μ | some c => .ex Γ c (.v q (ruleD rules[i])) μ) := by
  have hm := List.getElem_mem hi
  have hc := check_rule_ev N false false (R.s _ hm)
  have ha : aCons (dVar 0) (aCons (dVar 3) aNil) Γ μ = some (.ok [.v f (namesD names), .v g (ruleD rules[i])] μ) := by simp only [aCons, aNil, v0, v3, bind_ok]
  have h2 := in_cutR R (Γ := Γ) (μ := μ) (R.s _ hm) (Nat.le_of_lt hi) v1 v2 v3
  unfold rErr
  rw [List.getElem?_eq_getElem hi]
  simp only
  cases hb : badR names rules[i] with
  | true =>
    rw [hb, if_pos rfl] at hc
    have hx := (dCall_ev (g := d_check_rule) (n := 2) (live := false) (rf := [false, false]) ha rfl).trans (call_x (us := [.v false (namesD names), .v false (ruleD rules[i])]) rfl rfl hc)
    refine ⟨false, ?_⟩
    have e1 : sExp (dCall d_check_rule 2 false [false, false] (aCons (dVar 0) (aCons (dVar 3) aNil))) Γ μ = some (.ex Γ 3 (.v false (ruleD rules[i])) μ) := by
      unfold sExp
      rw [hx]
      rfl
    unfold sSeq
    rw [e1]
    rfl
  | false =>
    rw [hb, if_neg Bool.false_ne_true] at hc
    have hx := (dCall_ev (g := d_check_rule) (n := 2) (live := false) (rf := [false, false]) ha rfl).trans (call_v (us := [.v false (namesD names), .v false (ruleD rules[i])]) rfl rfl hc rfl)
    refine ⟨g, ?_⟩
    rw [seq_nx (Γ1 := Γ) (μ1 := μ) (by
      unfold sExp
      rw [hx]
      rfl)]
    unfold sIf
    rw [h2]
    by_cases hin : rules[i] ∈ rules.take i
    · rw [decide_eq_true hin]
      simp only [bindS_ok, if_true, sRaise, v3, if_pos hin, Bool.false_eq_true, if_false]
    · rw [decide_eq_false hin]
      simp only [bindS_ok, Bool.false_eq_true, if_false, if_neg hin]
      rfl
theorem enumR_at {f : Bool} {i : Nat} (hi : i < rules.length) (μ : Mu) : (ItV.enum (.v f (rulesD rules)) rules.length).at μ i = some (.two (.v true (.int (i : Nat))) (.v f (ruleD rules[i]))) := by
  simp [ItV.at, itemsN, rulesD, hi, mkR]
theorem check_rules_ok (N : Told names) (R : ToldR rules) (f g : Bool) (h : ∀ i, i < rules.length → rErr names rules i = none) : d_check_rules [.v f (namesD names), .v g (rulesD rules)] [] = some (.ok (.v true .non) []) := by
  obtain ⟨Γ', μ', e, hJ⟩ := for_inv (v := .enum (.v g (rulesD rules)) rules.length) (n := rules.length) (g := gTp 2 (gsCons (gNm 2) (gsCons (gNm 3) gsNil)))
    (b := sSeq (sExp (dCall d_check_rule 2 false [false, false] (aCons (dVar 0) (aCons (dVar 3) aNil)))) (sIf (bOf (d2 (cmpVt .In) (dVar 3) (dSl false (dVar 1) none (some (dVar 2))))) (sRaise 4 (dVar 3)) L3.sNil))
    (fun i Γ μ => (∃ t u, Γ = [some (.v f (namesD names)), some (.v g (rulesD rules)), t, u]) ∧ μ = [])
    (fun i Γ μ _ _ => by simp [ItV.ok, itemsN, rulesD])
    (fun i Γ μ hi ⟨⟨t, u, hΓ⟩, hμ⟩ => by
      subst hΓ hμ
      obtain ⟨q, hb⟩ := rule_step N R (Γ := [some (.v f (namesD names)), some (.v g (rulesD rules)), some (.v true (.int (i : Nat))), some (.v g (ruleD rules[i]))]) (μ := []) (f := f) (g := g) hi (fun _ => rfl) (fun _ => rfl) (fun _ => rfl) (fun _ => rfl)
      rw [h i hi] at hb
      exact ⟨_, _, _, _, enumR_at hi _, rfl, .inl hb, ⟨_, _, rfl⟩, rfl⟩)
    rules.length 0 [some (.v f (namesD names)), some (.v g (rulesD rules)), none, none] [] (by omega) ⟨⟨_, _, rfl⟩, rfl⟩
  obtain ⟨⟨t, u, rfl⟩, rfl⟩ := hJ
  show retD 0 (b_check_rules 0 [some (.v f (namesD names)), some (.v g (rulesD rules)), none, none] []) = _
  unfold b_check_rules
  rw [for_ev (v := .enum (.v g (rulesD rules)) rules.length) (by simp [iEnumD, aCons, aNil, dVar, rulesD]) e]
  simp [retD, retV, T.low]
theorem check_rules_bad (N : Told names) (R : ToldR rules) (f g : Bool) {j c : Nat} (hj : j < rules.length) (hc : rErr names rules j = some c) (h : ∀ i, i < j → rErr names rules i = none) : ∃ q, d_check_rules [.v f (namesD names), .v g (rulesD rules)] [] = some (.exc c (.v q (ruleD rules[j])) []) := by
  obtain ⟨r, e, _, Γ', q, rfl⟩ := for_stop (v := .enum (.v g (rulesD rules)) rules.length) (n := rules.length) (j := j) (g := gTp 2 (gsCons (gNm 2) (gsCons (gNm 3) gsNil)))
    (b := sSeq (sExp (dCall d_check_rule 2 false [false, false] (aCons (dVar 0) (aCons (dVar 3) aNil)))) (sIf (bOf (d2 (cmpVt .In) (dVar 3) (dSl false (dVar 1) none (some (dVar 2))))) (sRaise 4 (dVar 3)) L3.sNil))
    (fun i Γ μ => (∃ t u, Γ = [some (.v f (namesD names)), some (.v g (rulesD rules)), t, u]) ∧ μ = [])
    (fun r => ∃ Γ' q, r = .ex Γ' c (.v q (ruleD rules[j])) []) hj
    (fun i Γ μ _ _ => by simp [ItV.ok, itemsN, rulesD])
    (fun i Γ μ hi ⟨⟨t, u, hΓ⟩, hμ⟩ => by
      subst hΓ hμ
      have hi2 : i < rules.length := by omega
      obtain ⟨q, hb⟩ := rule_step N R (Γ := [some (.v f (namesD names)), some (.v g (rulesD rules)), some (.v true (.int (i : Nat))), some (.v g (ruleD rules[i]))]) (μ := []) (f := f) (g := g) hi2 (fun _ => rfl) (fun _ => rfl) (fun _ => rfl) (fun _ => rfl)
      rw [h i hi] at hb
      exact ⟨_, _, _, _, enumR_at hi2 _, rfl, hb, ⟨_, _, rfl⟩, rfl⟩)
    (fun Γ μ ⟨⟨t, u, hΓ⟩, hμ⟩ => by
      subst hΓ hμ
      obtain ⟨q, hb⟩ := rule_step N R (Γ := [some (.v f (namesD names)), some (.v g (rulesD rules)), some (.v true (.int (j : Nat))), some (.v g (ruleD rules[j]))]) (μ := []) (f := f) (g := g) hj (fun _ => rfl) (fun _ => rfl) (fun _ => rfl) (fun _ => rfl)
      rw [hc] at hb
      exact ⟨_, _, _, enumR_at hj _, rfl, hb, trivial, _, q, rfl⟩)
    rules.length 0 [some (.v f (namesD names)), some (.v g (rulesD rules)), none, none] [] (by omega) (Nat.zero_le _) ⟨⟨_, _, rfl⟩, rfl⟩
  refine ⟨q, ?_⟩
  show retD 0 (b_check_rules 0 [some (.v f (namesD names)), some (.v g (rulesD rules)), none, none] []) = _
  unfold b_check_rules
  rw [for_ev (v := .enum (.v g (rulesD rules)) rules.length) (by simp [iEnumD, aCons, aNil, dVar, rulesD]) e]
  simp [retD, retV, T.low]
end
end Qk18

set_option Elab.async false
set_option linter.all false
set_option maxRecDepth 100000
set_option maxHeartbeats 4000000
/-! a book, made or refused -/
namespace Qk18
open PySem PySem.Spec PyProof.Rows L2 L3
def RuleIn (names : List Str) (r : Str × Str × Str) : Prop := r.1 ∈ names ∧ r.2.1 ∈ names ∧ r.2.2 ∈ names ∧ r.2.2 ≠ r.1
theorem rulesIn {names : List Str} {rules : List (Str × Str × Str)} (h : ∀ i, i < rules.length → rErr names rules i = none) : ∀ r ∈ rules, RuleIn names r := fun r hr => by
  obtain ⟨i, hi, rfl⟩ := List.getElem_of_mem hr
  have q := h i hi
  unfold rErr at q
  rw [List.getElem?_eq_getElem hi] at q
  simp only at q
  cases hb : badR names rules[i] with
  | true => rw [hb] at q; simp at q
  | false =>
    unfold badR at hb
    simp only [Bool.or_eq_false_iff, Bool.not_eq_false', decide_eq_true_eq, decide_eq_false_iff_not] at hb
    exact hb
theorem first_str (x : Str) : ∀ l : List Str, x ∈ l → firstEq (.str x) (l.map PyData.str) = some (l.idxOf x)
  | [], h => by cases h
  | y :: l, h => by
    simp only [List.map_cons, firstEq, PyData.eqv, List.idxOf_cons]
    by_cases e : y = x
    · subst e
      simp
    · have hm : x ∈ l := by
        rcases List.mem_cons.mp h with z | z
        · exact absurd z.symm e
        · exact z
      have eb : (y == x) = false := beq_eq_false_iff_ne.mpr e
      rw [first_str x l hm]
      simp [eb]
theorem idx_ev {μ : Mu} {f g : Bool} {names : List Str} {s : Str} (hN : Told names) (h : s ∈ names) : idxV μ (.v f (namesD names)) [.v g (.str s)] = some (.v true (.int (names.idxOf s : Nat)), μ) := by
  have h1 : deep DEEP μ (.v f (namesD names)) = some (.lst (names.map .str)) := by unfold deep; rfl
  have h2 : deep DEEP μ (.v g (.str s)) = some (.str s) := by unfold deep; rfl
  have h3 : D.py (.str s) = some (.str s) := by simp [D.py]
  unfold idxV
  simp only [h1, h2, pys_strs, h3, sh_strs hN.s, sh_str (hN.s s h), Bool.and_self, if_true, first_str s names h]
/-- a rule by the places of its names -/
def moveOf (names : List Str) (r : Str × Str × Str) : Nat × Nat × Nat := (names.idxOf r.1, names.idxOf r.2.1, names.idxOf r.2.2)
def moveD (m : Nat × Nat × Nat) : D := .tup [.int (m.1 : Nat), .int (m.2.1 : Nat), .int (m.2.2 : Nat)]
theorem move_of_ev (names : List Str) (r : Str × Str × Str) (f g : Bool) (hN : Told names) (hr : RuleIn names r) : d_move_of [.v f (namesD names), .v g (ruleD r)] [] = some (.ok (.v true (moveD (moveOf names r))) []) := by
  obtain ⟨h1, h2, h3, h4⟩ := hr
  show retD 0 (b_move_of 0 [some (.v f (namesD names)), some (.v g (ruleD r)), none, none, none] []) = _
  unfold b_move_of
  have i1 := idx_ev (μ := []) (f := f) (g := true) hN h1
  have i2 := idx_ev (μ := []) (f := f) (g := true) hN h2
  have i3 := idx_ev (μ := []) (f := f) (g := true) hN h3
  have hit : items [] (.v f (namesD names)) = some (true, (names.map D.str).map (mkT f)) := rfl
  simp [sSeq, sAsg, dVar, gTp, gsCons, gsNil, gNm, ruleD, sRet, dTup, aCons, aNil, dMt, hit, i1, i2, i3, newU, pack, retD, retV, T.low, moveD, moveOf]
/-- the moves of a book, ascending -/
def movesOf (names : List Str) (rules : List (Str × Str × Str)) : List D := sortD (rules.map fun r => moveD (moveOf names r))
def bookD (names : List Str) (rules : List (Str × Str × Str)) : D := .obj 0 [namesD names, .lst (movesOf names rules)]
theorem keyD_move (m : Nat × Nat × Nat) : (moveD m).py = some (.tuple [.int (m.1 : Nat), .int (m.2.1 : Nat), .int (m.2.2 : Nat)]) := by simp [moveD, D.py, D.pys]
theorem ok_moves (l : List (Nat × Nat × Nat)) : okSort (l.map moveD) = true := by
  unfold okSort
  simp only [Bool.and_eq_true_iff, List.all_eq_true, List.mem_map, Bool.or_eq_true_iff]
  refine ⟨⟨?_, ?_⟩, .inl ?_⟩
  · rintro d ⟨m, _, rfl⟩
    simp [keyD, keyD_move, PyData.depth, PyData.depthAll]
  · rintro d ⟨m, _, rfl⟩ e ⟨m', _, rfl⟩
    simp [keyD, keyD_move, PySem.W.alike, PySem.W.alikeAll]
  · rintro d ⟨m, _, rfl⟩
    simp [keyD, keyD_move, rowHd]
theorem init_ok (names : List Str) (rules : List (Str × Str × Str)) (f g : Bool) (hN : Told names) (R : ToldR rules) (e1 : ∀ i, i < names.length → nErr names i = none) (e2 : ∀ i, i < rules.length → rErr names rules i = none) :
    d_Book_init [.m 0, .v f (namesD names), .v g (rulesD rules)] [.obj 0 []] = some (.ok (.v true .non) [.obj 0 [.v true (namesD names), .v true (.lst (movesOf names rules))]]) := by
  have hr := rulesIn e2
  have hz : rules.length ≤ 512 := Nat.le_trans R.n (by decide)
  have c1 : callD d_check_names false [false] [.v f (namesD names)] [.obj 0 []] = some (.ok (.v true .non) [.obj 0 []]) := by
    have := check_names_ok hN false e1
    simp [callD, argsIn, refsOf, cellsAt, back, ren, setAll, mkT, namesD, D.atom] at this ⊢
    rw [this]
    rfl
  have c2 : callD d_check_rules false [false, false] [.v f (namesD names), .v g (rulesD rules)] [.obj 0 []] = some (.ok (.v true .non) [.obj 0 []]) := by
    have := check_rules_ok hN R false false e2
    simp [callD, argsIn, refsOf, cellsAt, back, ren, setAll, mkT, namesD, rulesD, D.atom] at this ⊢
    rw [this]
    rfl
  have hp1 : pack ((names.map D.str).map (mkT f)) = some (true, names.map D.str) := by
    have := pack_map names D.str
    simp only [List.map_map]
    rw [show (mkT f ∘ D.str) = fun x => T.v true (D.str x) from funext fun x => by simp]
    exact this
  have hlst : ∀ μ, listV false μ [.v f (namesD names)] = some (.v true (namesD names), μ) := fun μ => by
    simp only [listV, namesD, items_lst, newL, hp1]
    rfl
  let μ1 : Mu := [.obj 0 [.v true (namesD names)]]
  have hcm : ∀ (acc : List T) (r : Str × Str × Str), RuleIn names r → callD d_move_of false [false, false] [.v f (namesD names), .v g (ruleD r)] (μ1 ++ [.lst acc]) = some (.ok (.v true (moveD (moveOf names r))) (μ1 ++ [.lst acc])) := fun acc r h => by
    have := move_of_ev names r false false hN h
    simp [callD, argsIn, refsOf, cellsAt, back, ren, setAll, mkT, namesD, ruleD, D.atom, μ1] at this ⊢
    rw [this]
    rfl
  have mkR : ∀ r, mkT g (ruleD r) = .v g (ruleD r) := fun r => by simp [mkT, ruleD, D.atom]
  let Γ : Gam := [some (.m 0), some (.v f (namesD names)), some (.v g (rulesD rules)), none]
  let ms : List D := rules.map fun r => moveD (moveOf names r)
  have hlc : dLc false 1 (iSeq true (dVar 2)) (gNm 3) bYes (dCall d_move_of 2 false [false, false] (aCons (dVar 1) (aCons (dVar 3) aNil))) [3] Γ μ1 = some (.ok (.v true (.lst ms)) μ1) := by
    refine dlc_ev (n := rules.length) (v := .seq true (.v g (rulesD rules)) rules.length) (P := fun _ => true) (E := fun i => match rules[i]? with | some r => .v true (moveD (moveOf names r)) | none => .v true .non)
      (by simp [iSeq, dVar, Γ, rulesD]) rfl (by rw [sizeLine_eq]; omega) (fun acc => by simp [ItV.ok, itemsN, rulesD]) (fun i acc hi => ?_) ?_ (Nat.le_refl _) rfl
    · refine ⟨.one (.v g (ruleD rules[i])), [some (.m 0), some (.v f (namesD names)), some (.v g (rulesD rules)), some (.v g (ruleD rules[i]))], by simp [ItV.at, itemsN, rulesD, hi, mkR], rfl, rfl, fun _ => ?_⟩
      have hri : rules[i]? = some rules[i] := by simp [hi]
      simp [dCall, aCons, aNil, dVar, hcm acc rules[i] (hr _ (List.getElem_mem hi)), hri]
    · rw [lcOut_list rules (fun _ => true) (fun r => .v true (moveD (moveOf names r))) _ _ (fun _ _ => rfl) (fun i h => by simp [h]) rules.length 0 (by omega)]
      have hft : rules.filter (fun _ => true) = rules := List.filter_eq_self.mpr fun _ _ => rfl
      rw [List.drop_zero, hft]
      exact pack_map rules (fun r => moveD (moveOf names r))
  have hps : ∀ l : List D, pack (l.map (T.v true)) = some (true, l) := fun l => by
    have := pack_map l id
    simpa using this
  have hmk : ms.map (mkT true) = ms.map (T.v true) := List.map_congr_left fun x _ => by simp [mkT]
  have hok : okSort ms = true := by
    have := ok_moves (rules.map (moveOf names))
    simpa [ms, List.map_map, Function.comp_def] using this
  have hsort : sortV false μ1 [.v true (.lst ms)] = some (.v true (.lst (movesOf names rules)), μ1) := by
    unfold sortV
    simp only [items_lst, hmk, hps, hok, if_true, newL]
    rfl
  have f1 : putFldV 0 0 [.obj 0 []] (.m 0) (.v true (namesD names)) = some μ1 := rfl
  have f2 : putFldV 0 1 μ1 (.m 0) (.v true (.lst (movesOf names rules))) = some [.obj 0 [.v true (namesD names), .v true (.lst (movesOf names rules))]] := rfl
  show retD 1 (b_Book_init 1 [some (.m 0), some (.v f (namesD names)), some (.v g (rulesD rules)), none] [.obj 0 []]) = _
  unfold b_Book_init
  rw [seq_nx (Γ1 := Γ) (μ1 := [.obj 0 []]) (by simp [sExp, dCall, aCons, aNil, dVar, c1, Γ])]
  rw [seq_nx (Γ1 := Γ) (μ1 := [.obj 0 []]) (by simp [sExp, dCall, aCons, aNil, dVar, c2, Γ])]
  rw [seq_nx (Γ1 := Γ) (μ1 := μ1) (by simp [sFldD, dBi, aCons, aNil, dVar, hlst, f1, Γ])]
  have v0 : ∀ μ, dVar 0 Γ μ = some (.ok (.m 0) μ) := fun μ => rfl
  simp [sFldD, dBi, aCons, aNil, hlc, hsort, v0, f2, retD, retV, T.low, Cell.low]

section
variable {names : List Str} {rules : List (Str × Str × Str)}
theorem sExp_x {g : De} {Γ : Gam} {μ μ1 : Mu} {c : Nat} {t : T} (h : g Γ μ = some (.exc c t μ1)) : sExp g Γ μ = some (.ex Γ c t μ1) := by
  unfold sExp
  rw [h]
  rfl
theorem seq_x {a b : Ds} {Γ Γ1 : Gam} {μ μ1 : Mu} {c : Nat} {t : T} (h : a Γ μ = some (.ex Γ1 c t μ1)) : sSeq a b Γ μ = some (.ex Γ1 c t μ1) := by
  unfold sSeq
  rw [h]
/-- what is refused, and why -/
inductive Bad (names : List Str) (rules : List (Str × Str × Str)) : Nat → D → Prop
  | n {j c : Nat} (hj : j < names.length) (hc : nErr names j = some c) (h : ∀ i, i < j → nErr names i = none) : Bad names rules c (.str names[j])
  | r {j c : Nat} (h0 : ∀ i, i < names.length → nErr names i = none) (hj : j < rules.length) (hc : rErr names rules j = some c) (h : ∀ i, i < j → rErr names rules i = none) : Bad names rules c (ruleD rules[j])
theorem good_or_bad (names : List Str) (rules : List (Str × Str × Str)) : ((∀ i, i < names.length → nErr names i = none) ∧ (∀ i, i < rules.length → rErr names rules i = none)) ∨ ∃ c d, Bad names rules c d := by
  rcases first_err (nErr names) names.length with h | ⟨j, c, hj, hc, h⟩
  · rcases first_err (rErr names rules) rules.length with h2 | ⟨j, c, hj, hc, h2⟩
    · exact .inl ⟨h, h2⟩
    · exact .inr ⟨c, _, .r h hj hc h2⟩
  · exact .inr ⟨c, _, .n hj hc h⟩
theorem init_bad (N : Told names) (R : ToldR rules) (f g : Bool) {c : Nat} {d : D} (h : Bad names rules c d) :
    ∃ q, d_Book_init [.m 0, .v f (namesD names), .v g (rulesD rules)] [.obj 0 []] = some (.exc c (.v q d) [.obj 0 []]) := by
  let Γ : Gam := [some (.m 0), some (.v f (namesD names)), some (.v g (rulesD rules)), none]
  let μ : Mu := [.obj 0 []]
  have a1 : aCons (dVar 1) aNil Γ μ = some (.ok [.v f (namesD names)] μ) := rfl
  have a2 : aCons (dVar 1) (aCons (dVar 2) aNil) Γ μ = some (.ok [.v f (namesD names), .v g (rulesD rules)] μ) := rfl
  have fin : ∀ (Γ' : Gam) (t : T), (∃ q d, t = .v q d) → retD 1 (some (.ex Γ' c t μ)) = some (.exc c t [.obj 0 []]) := fun Γ' t ⟨q, d, e⟩ => by
    subst e
    rfl
  cases h with
  | n hj hc h =>
    refine ⟨true, ?_⟩
    have hx := (dCall_ev (g := d_check_names) (n := 1) (live := false) (rf := [false]) a1 rfl).trans (call_x (us := [.v false (namesD names)]) rfl rfl (check_names_bad N false hj hc h))
    show retD 1 (b_Book_init 1 Γ μ) = _
    unfold b_Book_init
    rw [seq_x (sExp_x hx)]
    exact fin _ _ ⟨_, _, rfl⟩
  | r h0 hj hc h =>
    obtain ⟨q, hq⟩ := check_rules_bad N R false false hj hc h
    refine ⟨q, ?_⟩
    have hok := (dCall_ev (g := d_check_names) (n := 1) (live := false) (rf := [false]) a1 rfl).trans (call_v (us := [.v false (namesD names)]) rfl rfl (check_names_ok N false h0) rfl)
    have hx := (dCall_ev (g := d_check_rules) (n := 2) (live := false) (rf := [false, false]) a2 rfl).trans (call_x (us := [.v false (namesD names), .v false (rulesD rules)]) rfl rfl hq)
    show retD 1 (b_Book_init 1 Γ μ) = _
    unfold b_Book_init
    rw [seq_nx (Γ1 := Γ) (μ1 := μ) (by
      unfold sExp
      rw [hok]
      rfl)]
    rw [seq_x (sExp_x hx)]
    exact fin _ _ ⟨_, _, rfl⟩
end
end Qk18

set_option Elab.async false
set_option linter.all false
set_option maxRecDepth 100000
set_option maxHeartbeats 4000000
/-! what is caught -/
namespace Qk18
open PySem PySem.Spec PyProof.Rows L2 L3
section
variable {names : List Str} {rules : List (Str × Str × Str)}
theorem make_call (f g : Bool) {r : Ot T} (h : d_Book_init [.m 0, .v false (namesD names), .v false (rulesD rules)] [.obj 0 []] = r) :
    callD d_Book_init false [true, false, false] [.m 0, .v f (namesD names), .v g (rulesD rules)] [.obj 0 []] = back false [0] [.obj 0 []] r := by
  have hfl : (Cell.obj 0 []).flat = true := rfl
  subst h
  rfl
theorem make_ok (N : Told names) (R : ToldR rules) (e1 : ∀ i, i < names.length → nErr names i = none) (e2 : ∀ i, i < rules.length → rErr names rules i = none) (f g : Bool) :
    mkD d_Book_init 0 2 false false [false, false] 0 [.v f (namesD names), .v g (rulesD rules)] [] = some (.ok (.v true (bookD names rules)) []) := by
  have hc := make_call f g (init_ok names rules false false N R e1 e2)
  have hc2 : callD d_Book_init false [true, false, false] [.m 0, .v f (namesD names), .v g (rulesD rules)] [.obj 0 []] = some (.ok (.v true .non) [.obj 0 [.v true (namesD names), .v true (.lst (movesOf names rules))]]) := by
    rw [hc]
    simp [back, ren, setAll, renC]
  have hend : mkEnd false 2 0 0 [.obj 0 [.v true (namesD names), .v true (.lst (movesOf names rules))]] = some (.v true (bookD names rules), []) := by
    simp [mkEnd, pack, bookD]
  simp [mkD, hc2, hend]
theorem make_bad (N : Told names) (R : ToldR rules) {c : Nat} {d : D} (h : Bad names rules c d) (f g : Bool) :
    ∃ q, mkD d_Book_init 0 2 false false [false, false] 0 [.v f (namesD names), .v g (rulesD rules)] [] = some (.exc c (.v q d) [.obj 0 []]) := by
  obtain ⟨q, hq⟩ := init_bad N R false false h
  have hc := make_call f g hq
  have hc2 : callD d_Book_init false [true, false, false] [.m 0, .v f (namesD names), .v g (rulesD rules)] [.obj 0 []] = some (.exc c (.v q d) [.obj 0 []]) := by
    rw [hc]
    simp [back, ren, setAll, renC]
  exact ⟨q, by simp [mkD, hc2]⟩
/-- what an error tells -/
def toldD (c : Nat) (d : D) : D := .lst [.bl (exIs c 1), .bl (exIs c 2), .bl (exIs c 3), .bl (exIs c 4), d]
noncomputable abbrev tryB : Ds := sIf (bOf (d2 (cmpVt .Eq) (dVar 2) (dAtm (.int 0)))) (sExp (dMake d_Book_init 3 0 2 false false [false, false] 0 (aCons (dVar 0) (aCons (dVar 1) aNil)))) (sExp (dMakeK d_Book_init 3 0 2 false false [false, false] 0 [1, 0] 2 (aCons (dVar 1) (aCons (dVar 0) aNil))))
theorem tryB_ev {f g h : Bool} {way : Int} {r : Ot T} {t3 t4 : Option T} (hr : mkD d_Book_init 0 2 false false [false, false] 0 [.v f (namesD names), .v g (rulesD rules)] [] = r) :
    tryB [some (.v f (namesD names)), some (.v g (rulesD rules)), some (.v h (.int way)), t3, t4] [] = Ot.bindS r [some (.v f (namesD names)), some (.v g (rulesD rules)), some (.v h (.int way)), t3, t4] fun _ μ1 => some (.nx [some (.v f (namesD names)), some (.v g (rulesD rules)), some (.v h (.int way)), t3, t4] μ1) := by
  let Γ : Gam := [some (.v f (namesD names)), some (.v g (rulesD rules)), some (.v h (.int way)), t3, t4]
  have hc : bOf (d2 (cmpVt .Eq) (dVar 2) (dAtm (.int 0))) Γ [] = some (.ok (decide (way = 0)) []) := by
    have v2 : ∀ μ, dVar 2 Γ μ = some (.ok (.v h (.int way)) μ) := fun _ => rfl
    simp only [bOf, d2, v2, bind_ok, dAtm, cmpVt, cmpV, eqT_int, Option.map_some, ot_some]
  have h1 : dMake d_Book_init 3 0 2 false false [false, false] 0 (aCons (dVar 0) (aCons (dVar 1) aNil)) Γ [] = r := by
    have ha : aCons (dVar 0) (aCons (dVar 1) aNil) Γ [] = some (.ok [.v f (namesD names), .v g (rulesD rules)] []) := rfl
    unfold dMake
    rw [ha]
    simp only [bind_ok, List.length_cons, List.length_nil]
    exact hr
  have h2 : dMakeK d_Book_init 3 0 2 false false [false, false] 0 [1, 0] 2 (aCons (dVar 1) (aCons (dVar 0) aNil)) Γ [] = r := by
    have ha : aCons (dVar 1) (aCons (dVar 0) aNil) Γ [] = some (.ok [.v g (rulesD rules), .v f (namesD names)] []) := rfl
    unfold dMakeK
    rw [ha]
    have hp : pick [1, 0] [T.v g (rulesD rules), T.v f (namesD names)] = [.v f (namesD names), .v g (rulesD rules)] := rfl
    simp only [bind_ok, List.length_cons, List.length_nil, hp]
    exact hr
  show sIf _ _ _ Γ [] = _
  unfold sIf
  rw [hc]
  simp only [bindS_ok]
  by_cases hz : way = 0
  · rw [decide_eq_true hz, if_pos rfl]
    unfold sExp
    rw [h1]
  · rw [decide_eq_false hz, if_neg Bool.false_ne_true]
    unfold sExp
    rw [h2]
theorem caught_ok (N : Told names) (R : ToldR rules) (e1 : ∀ i, i < names.length → nErr names i = none) (e2 : ∀ i, i < rules.length → rErr names rules i = none) (f g h : Bool) (way : Int) :
    d_law_caught [.v f (namesD names), .v g (rulesD rules), .v h (.int way)] [] = some (.ok (.v true .non) []) := by
  let Γ0 : Gam := [some (.v f (namesD names)), some (.v g (rulesD rules)), some (.v h (.int way)), none, none]
  let Γ : Gam := [some (.v f (namesD names)), some (.v g (rulesD rules)), some (.v h (.int way)), some (.v true .non), none]
  have ht := tryB_ev (h := h) (way := way) (t3 := some (.v true .non)) (t4 := none) (make_ok N R e1 e2 f g)
  show retD 0 (b_law_caught 0 Γ0 []) = _
  unfold b_law_caught
  rw [seq_nx (Γ1 := Γ) (μ1 := []) rfl]
  have hs : ∀ hh, sTry 4 tryB hh Γ [] = some (.nx Γ []) := fun hh => by
    unfold sTry
    rw [ht]
    rfl
  rw [seq_nx (hs _)]
  rfl
theorem try_ex {i c : Nat} {b : Ds} {h : Nat → T → Ds} {Γ Γ1 Γ2 : Gam} {μ μ1 μ2 : Mu} {t : T} (hb : b Γ μ = some (.ex Γ1 c t μ1)) (hl : i < Γ1.length) (hh : h c t (Γ1.set i none) μ1 = some (.nx Γ2 μ2)) : sTry i b h Γ μ = some (.nx (Γ2.set i none) μ2) := by
  unfold sTry
  rw [hb]
  simp only
  rw [if_pos hl, hh]
theorem caught_bad (N : Told names) (R : ToldR rules) {c : Nat} {d : D} (hb : Bad names rules c d) (f g h : Bool) (way : Int) :
    ∃ q, d_law_caught [.v f (namesD names), .v g (rulesD rules), .v h (.int way)] [] = some (.ok (.v q (toldD c d)) []) := by
  let Γ0 : Gam := [some (.v f (namesD names)), some (.v g (rulesD rules)), some (.v h (.int way)), none, none]
  let Γ : Gam := [some (.v f (namesD names)), some (.v g (rulesD rules)), some (.v h (.int way)), some (.v true .non), none]
  obtain ⟨q, hq⟩ := make_bad N R hb f g
  have ht := tryB_ev (h := h) (way := way) (t3 := some (.v true .non)) (t4 := none) hq
  have hh : ∃ q', ∀ μ, (sSeq (sSet 3 (dLst false (aCons (dAtm (.bl (exIs c 1))) (aCons (dAtm (.bl (exIs c 2))) (aCons (dAtm (.bl (exIs c 3))) aNil))))) (sSet 3 (d2 (binV false .Add) (dVar 3) (dLst false (aCons (dAtm (.bl (exIs c 4))) (aCons (dXv (.v q d)) aNil)))))) Γ μ = some (.nx [some (.v f (namesD names)), some (.v g (rulesD rules)), some (.v h (.int way)), some (.v q' (toldD c d)), none] μ) := by
    let Γ3 : Gam := [some (.v f (namesD names)), some (.v g (rulesD rules)), some (.v h (.int way)), some (.v true (.lst [.bl (exIs c 1), .bl (exIs c 2), .bl (exIs c 3)])), none]
    have hp : ∃ q', pack ([.v true (.bl (exIs c 1)), .v true (.bl (exIs c 2)), .v true (.bl (exIs c 3)), .v true (.bl (exIs c 4)), mkT (true && (q && true)) d]) = some (q', [.bl (exIs c 1), .bl (exIs c 2), .bl (exIs c 3), .bl (exIs c 4), d]) := ⟨_, rfl⟩
    obtain ⟨q', hp⟩ := hp
    refine ⟨q', fun μ => ?_⟩
    rw [seq_nx (Γ1 := Γ3) (μ1 := μ) rfl]
    have v3 : ∀ μ, dVar 3 Γ3 μ = some (.ok (.v true (.lst [.bl (exIs c 1), .bl (exIs c 2), .bl (exIs c 3)])) μ) := fun _ => rfl
    have hl : dLst false (aCons (dAtm (.bl (exIs c 4))) (aCons (dXv (.v q d)) aNil)) Γ3 μ = some (.ok (.v (true && (q && true)) (.lst [.bl (exIs c 4), d])) μ) := rfl
    have hbn : binV false .Add μ (.v true (.lst [.bl (exIs c 1), .bl (exIs c 2), .bl (exIs c 3)])) (.v (true && (q && true)) (.lst [.bl (exIs c 4), d])) = some (.v q' (toldD c d), μ) := by
      have i1 : itemsP μ (.v true (.lst [.bl (exIs c 1), .bl (exIs c 2), .bl (exIs c 3)])) = some (true, [D.bl (exIs c 1), .bl (exIs c 2), .bl (exIs c 3)].map (mkT true)) := rfl
      have i2 : itemsP μ (.v (true && (q && true)) (.lst [.bl (exIs c 4), d])) = some (true, [D.bl (exIs c 4), d].map (mkT (true && (q && true)))) := rfl
      show (match itemsP μ (.v true (.lst [.bl (exIs c 1), .bl (exIs c 2), .bl (exIs c 3)])), itemsP μ (.v (true && (q && true)) (.lst [.bl (exIs c 4), d])) with
        | some (true, ts), some (true, us) => if ts.length + us.length ≤ sizeLine then newL false μ (ts ++ us) else none
        | some (false, ts), some (false, us) => if ts ≠ [] ∧ us ≠ [] ∧ ts.length + us.length ≤ sizeLine then newU μ (ts ++ us) else none
        | _, _ => none) = _
      rw [i1, i2]
      simp only
      rw [if_pos (by rw [List.length_map, List.length_map, sizeLine_eq]; show 3 + 2 ≤ 16777216; decide)]
      unfold newL
      rw [if_neg Bool.false_ne_true]
      have hp' : pack ([D.bl (exIs c 1), .bl (exIs c 2), .bl (exIs c 3)].map (mkT true) ++ [D.bl (exIs c 4), d].map (mkT (true && (q && true)))) = some (q', [.bl (exIs c 1), .bl (exIs c 2), .bl (exIs c 3), .bl (exIs c 4), d]) := by
        have mb : ∀ f b, mkT f (D.bl b) = .v true (.bl b) := fun f b => by simp [mkT, D.atom]
        simp only [List.map_cons, List.map_nil, List.cons_append, List.nil_append, mb]
        exact hp
      rw [hp']
      rfl
    unfold sSet d2
    rw [v3]
    simp only [bind_ok, hl, hbn, ot_some, bindS_ok]
    rfl
  obtain ⟨q', hh⟩ := hh
  refine ⟨q', ?_⟩
  show retD 0 (b_law_caught 0 Γ0 []) = _
  unfold b_law_caught
  rw [seq_nx (Γ1 := Γ) (μ1 := []) rfl]
  rw [seq_nx (try_ex (b := tryB) (ht.trans rfl) (by show 4 < 5; decide) (hh _))]
  rfl
end
end Qk18

set_option Elab.async false
set_option linter.all false
set_option maxRecDepth 100000
set_option maxHeartbeats 4000000
/-! what is due: names -/
namespace Qk18
open PySem PySem.Spec PyProof.Rows L2 L3
theorem d2_ev' {g : Mu → T → T → Vt} {ga gb : De} {Γ : Gam} {μ μ1 μ2 : Mu} {ta tb : T} (ha : ga Γ μ = some (.ok ta μ1)) (hb : gb Γ μ1 = some (.ok tb μ2)) : d2 g ga gb Γ μ = (g μ2 ta tb).ot := by
  unfold d2
  rw [ha]
  simp only [bind_ok]
  rw [hb]
  rfl
theorem isEmpty_all (l : List Nat) : (l.filter fun x => !inL x).isEmpty = l.all inL := by
  induction l with
  | nil => rfl
  | cons x l ih =>
    rw [List.filter_cons, List.all_cons]
    cases inL x with
    | true => simpa using ih
    | false => rfl
theorem is_word_ev (s : Str) (hs : PyData.strOk s = true) (hz : s.length ≤ 100) (f : Bool) : d_law_is_word [.v f (.str s)] [] = some (.ok (.v true (.bl (wordB s))) []) := by
  have hsz : s.length ≤ sizeLine := by rw [sizeLine_eq]; omega
  let Γ : Gam := [some (.v f (.str s)), some (.v true (.str "abcdefghijklmnopqrstuvwxyz")), none]
  have hlc := txt_lc (s := s) (ge := dVar 0) (g := f) (j := 2) (m0 := 0) (Γ := Γ) (μ := []) (c := bOf (d2 (cmpVt .NotIn) (dVar 2) (dVar 1))) (e := dVar 2) (P := fun x => !inL x) (E := fun x => .str ⟨#[x]⟩) rfl hsz (Nat.le_refl _) rfl (fun _ _ => rfl)
    (fun x hx acc => ⟨by
      have hin := inL_ev x ([] ++ [Cell.lst acc]) true true
      have v1 : ∀ μ, dVar 1 ((wipeG Γ [2]).set 2 (some (.v true (.str ⟨#[x]⟩)))) μ = some (.ok (.v true (.str "abcdefghijklmnopqrstuvwxyz")) μ) := fun _ => rfl
      have v2 : ∀ μ, dVar 2 ((wipeG Γ [2]).set 2 (some (.v true (.str ⟨#[x]⟩)))) μ = some (.ok (.v true (.str ⟨#[x]⟩)) μ) := fun _ => rfl
      simp only [bOf, d2, v1, v2, bind_ok, cmpVt, cmpV, hin, Option.map_some, ot_some], fun _ => rfl⟩)
  have hmm : (s.cps.toList.filter fun x => !inL x).map (fun x => D.str ⟨#[x]⟩) = ((s.cps.toList.filter fun x => !inL x).map fun x => (⟨#[x]⟩ : Str)).map D.str := by rw [List.map_map]; rfl
  have hlen : lenV [] [.v f (.str s)] = some (.v true (.int s.length), []) := by simp [lenV, hsz]
  have v0 : ∀ μ, dVar 0 Γ μ = some (.ok (.v f (.str s)) μ) := fun _ => rfl
  have hch : dChain .Lt .Lt (dAtm (.int 0)) (dBi lenV (aCons (dVar 0) aNil)) (dAtm (.int 9)) Γ [] = some (.ok (.v true (.bl (decide (1 ≤ s.length ∧ s.length ≤ 8)))) []) := by
    have c1 : cmpV .Lt [] (.v true (.int 0)) (.v true (.int s.length)) = some (decide (1 ≤ s.length)) := by
      show some (decide ((0 : Int) < (s.length : Int))) = _
      congr 1
      exact decide_eq_decide.mpr (by omega)
    have c2 : cmpV .Lt [] (.v true (.int s.length)) (.v true (.int 9)) = some (decide (s.length ≤ 8)) := by
      show some (decide ((s.length : Int) < (9 : Int))) = _
      congr 1
      exact decide_eq_decide.mpr (by omega)
    simp only [dChain, dAtm, dBi, aCons, aNil, v0, bind_ok, hlen, ot_some, c1]
    by_cases h1 : 1 ≤ s.length
    · rw [decide_eq_true h1]
      simp only [bind_ok, cmpVt, c2, Option.map_some, ot_some]
      congr 4
      exact decide_eq_decide.mpr ⟨fun h => ⟨h1, h⟩, fun h => h.2⟩
    · rw [decide_eq_false h1, decide_eq_false (fun h => h1 h.1)]
  have heq : d2 (cmpVt .Eq) (dLc false 0 (iTxt (dVar 0)) (gNm 2) (bOf (d2 (cmpVt .NotIn) (dVar 2) (dVar 1))) (dVar 2) [2]) (dLst false aNil) Γ [] = some (.ok (.v true (.bl (allL s))) []) := by
    have hq := eq_nil_strs (μ := []) (f := true) (g := true) (l := (s.cps.toList.filter fun x => !inL x).map fun x => (⟨#[x]⟩ : Str)) (fun y hy => by
      obtain ⟨x, hx, rfl⟩ := List.mem_map.mp hy
      exact sign_ok (cps_lt hs x (List.mem_filter.mp hx).1))
    rw [hmm] at hlc
    have hd := d2_ev' (g := cmpVt .Eq) (gb := dLst false aNil) (tb := .v true (.lst [])) hlc rfl
    rw [hd]
    have he : (((s.cps.toList.filter fun x => !inL x).map fun x => (⟨#[x]⟩ : Str))).isEmpty = allL s := by
      rw [List.isEmpty_map, isEmpty_all]
      rfl
    rw [he] at hq
    unfold cmpVt cmpV
    rw [hq]
    rfl
  show retD 0 (b_law_is_word 0 [some (.v f (.str s)), none, none] []) = _
  unfold b_law_is_word
  rw [seq_nx (Γ1 := Γ) (μ1 := []) rfl]
  unfold sRet dAnd
  rw [hch]
  simp only [bind_ok]
  unfold wordB
  by_cases h1 : 1 ≤ s.length ∧ s.length ≤ 8
  · rw [decide_eq_true h1, if_pos rfl, heq]
    simp only [bindS_ok, Bool.true_and]
    exact ret_v0 _ _ _
  · rw [decide_eq_false h1, if_neg Bool.false_ne_true, Bool.false_and]
    exact ret_v0 _ _ _
/-- what law_due gives back -/
def dueT (c : Nat) (q : Bool) (d : D) : List T := [.v true (.bl (exIs c 1)), .v true (.bl (exIs c 2)), .v true (.bl (exIs c 3)), .v true (.bl (exIs c 4)), .v q d]
section
variable {names : List Str} {rules : List (Str × Str × Str)}
noncomputable abbrev dueN : Ds := sSeq (sIf (bNot (bTru (dFrz 0 (dCall d_law_is_word 1 false [false] (aCons (dVar 3) aNil))))) (sRet (dLst true (aCons (dAtm (.bl true)) (aCons (dAtm (.bl false)) (aCons (dAtm (.bl false)) (aCons (dAtm (.bl false)) (aCons (dVar 3) aNil))))))) L3.sNil) (sIf (bOf (d2 (cmpVt .In) (dVar 3) (dSl false (dVar 0) none (some (dVar 2))))) (sRet (dLst true (aCons (dAtm (.bl false)) (aCons (dAtm (.bl true)) (aCons (dAtm (.bl false)) (aCons (dAtm (.bl false)) (aCons (dVar 3) aNil))))))) L3.sNil)
theorem dueN_ev (N : Told names) {f : Bool} {t1 t4 t5 : Option T} {i : Nat} (hi : i < names.length) :
    dueN [some (.v f (namesD names)), t1, some (.v true (.int (i : Nat))), some (.v true (.str names[i])), t4, t5] [] = some (match nErr names i with | none => .nx [some (.v f (namesD names)), t1, some (.v true (.int (i : Nat))), some (.v true (.str names[i])), t4, t5] [] | some c => .rt (.m 0) [.lst (dueT c true (.str names[i]))]) := by
  let Γ : Gam := [some (.v f (namesD names)), t1, some (.v true (.int (i : Nat))), some (.v true (.str names[i])), t4, t5]
  have hm := List.getElem_mem hi
  have h1 : bNot (bTru (dFrz 0 (dCall d_law_is_word 1 false [false] (aCons (dVar 3) aNil)))) Γ [] = some (.ok (!wordB names[i]) []) := by
    have hc := frz_v (m0 := 0) ((dCall_ev (g := d_law_is_word) (n := 1) (live := false) (rf := [false]) (da := aCons (dVar 3) aNil) (Γ := Γ) (μ := []) (ts := [.v true (.str names[i])]) rfl rfl).trans (call_v (us := [.v true (.str names[i])]) rfl rfl (is_word_ev names[i] (N.s _ hm) (N.l _ hm) true) rfl)) rfl
    unfold bNot bTru
    rw [hc]
    simp only [bind_ok, truT]
  have h2 := in_cut N (Γ := Γ) (μ := []) (f := f) (i := i) (s := 3) (si := 2) (N.s _ hm) (Nat.le_of_lt hi) (fun _ => rfl) (fun _ => rfl) (fun _ => rfl)
  unfold nErr
  rw [List.getElem?_eq_getElem hi]
  simp only
  show dueN Γ [] = _
  cases hw : wordB names[i] with
  | false =>
    rw [hw] at h1
    unfold dueN sSeq
    unfold sIf
    rw [h1]
    rfl
  | true =>
    rw [hw] at h1
    unfold dueN
    rw [seq_nx (Γ1 := Γ) (μ1 := []) (by
      unfold sIf
      rw [h1]
      rfl)]
    unfold sIf
    rw [h2]
    by_cases hin : names[i] ∈ names.take i
    · rw [decide_eq_true hin]
      simp only [if_pos hin, if_true]
      rfl
    · rw [decide_eq_false hin]
      simp only [if_neg hin, if_true]
      rfl
end
end Qk18

set_option Elab.async false
set_option linter.all false
set_option maxRecDepth 100000
set_option maxHeartbeats 4000000
/-! what is due: rules, and the whole -/
namespace Qk18
open PySem PySem.Spec PyProof.Rows L2 L3
section
variable {names : List Str} {rules : List (Str × Str × Str)}
noncomputable abbrev dueR : Ds := sSeq (sSet 5 (dLc false 0 (iSeq false (dVar 4)) (gNm 3) (bOf (d2 (cmpVt .NotIn) (dVar 3) (dVar 0))) (dVar 3) [3])) (sSeq (sIf (bOr (bOf (d2 (cmpVt .NotEq) (dVar 5) (dLst false aNil))) (bOf (d2 (cmpVt .Eq) (d2 ixV (dVar 4) (dAtm (.int 2))) (d2 ixV (dVar 4) (dAtm (.int 0)))))) (sRet (dLst true (aCons (dAtm (.bl false)) (aCons (dAtm (.bl false)) (aCons (dAtm (.bl true)) (aCons (dAtm (.bl false)) (aCons (dVar 4) aNil))))))) L3.sNil) (sIf (bOf (d2 (cmpVt .In) (dVar 4) (dSl false (dVar 1) none (some (dVar 2))))) (sRet (dLst true (aCons (dAtm (.bl false)) (aCons (dAtm (.bl false)) (aCons (dAtm (.bl false)) (aCons (dAtm (.bl true)) (aCons (dVar 4) aNil))))))) L3.sNil))
theorem seq_rt {a b : Ds} {Γ : Gam} {μ μ1 : Mu} {t : T} (h : a Γ μ = some (.rt t μ1)) : sSeq a b Γ μ = some (.rt t μ1) := by
  unfold sSeq
  rw [h]
theorem bad_filter (x y z : Str) : (!([x, y, z].filter fun s => !decide (s ∈ names)).isEmpty || decide (z = x)) = badR names (x, y, z) := by
  unfold badR
  simp only [List.filter_cons, List.filter_nil]
  by_cases hx : x ∈ names <;> by_cases hy : y ∈ names <;> by_cases hz : z ∈ names <;> simp [hx, hy, hz]
theorem dueR_ev (N : Told names) (R : ToldR rules) {f g : Bool} {t3 t5 : Option T} {i : Nat} (hi : i < rules.length) :
    ∃ t3' t5', dueR [some (.v f (namesD names)), some (.v g (rulesD rules)), some (.v true (.int (i : Nat))), t3, some (.v g (ruleD rules[i])), t5] [] = some (match rErr names rules i with | none => .nx [some (.v f (namesD names)), some (.v g (rulesD rules)), some (.v true (.int (i : Nat))), t3', some (.v g (ruleD rules[i])), t5'] [] | some c => .rt (.m 0) [.lst (dueT c g (ruleD rules[i]))]) := by
  have hm := List.getElem_mem hi
  have hro := R.s _ hm
  unfold rErr
  rw [List.getElem?_eq_getElem hi]
  simp only
  have hin0 := fun (Γ : Gam) v1 v2 v3 => in_cutR R (Γ := Γ) (μ := []) (f := g) (g := g) (i := i) (s := 4) (si := 2) (sr := 1) hro (Nat.le_of_lt hi) v1 v2 v3
  generalize rules[i] = r at hro hin0 ⊢
  obtain ⟨x, y, z⟩ := r
  obtain ⟨o1, o2, o3⟩ := hro
  have os : ∀ s ∈ [x, y, z], PyData.strOk s = true := fun s hs => by
    simp only [List.mem_cons, List.not_mem_nil, or_false] at hs
    rcases hs with rfl | rfl | rfl
    · exact o1
    · exact o2
    · exact o3
  let Γ : Gam := [some (.v f (namesD names)), some (.v g (rulesD rules)), some (.v true (.int (i : Nat))), t3, some (.v g (ruleD (x, y, z))), t5]
  let ss : List Str := [x, y, z].filter fun s => !decide (s ∈ names)
  let Γ2 : Gam := [some (.v f (namesD names)), some (.v g (rulesD rules)), some (.v true (.int (i : Nat))), t3, some (.v g (ruleD (x, y, z))), some (.v true (.lst (ss.map .str)))]
  have hlc := dlc_frz (b := false) (l := [x, y, z]) (Dx := D.str) (ge := dVar 4) (c := bOf (d2 (cmpVt .NotIn) (dVar 3) (dVar 0))) (own := [3]) (s := 3) (m0 := 0) (f := g) (Γ := Γ) (μ := []) (μ1 := [])
    (e := dVar 3) (P := fun s => !decide (s ∈ names)) (E := D.str) rfl (by rw [sizeLine_eq]; show 3 ≤ 16777216; decide) (Nat.le_refl _) rfl (fun s hs acc ha => by
      have e : mkT g (D.str s) = .v true (.str s) := by simp [mkT, D.atom]
      rw [e]
      exact ⟨notin_ev N (Γ := (wipeG Γ [3]).set 3 (some (.v true (.str s)))) (f := f) (os s hs) (fun _ => rfl) (fun _ => rfl), fun _ => rfl⟩)
  have s5 : sSet 5 (dLc false 0 (iSeq false (dVar 4)) (gNm 3) (bOf (d2 (cmpVt .NotIn) (dVar 3) (dVar 0))) (dVar 3) [3]) Γ [] = some (.nx Γ2 []) := by
    unfold sSet
    rw [hlc]
    rfl
  have b1 : bOf (d2 (cmpVt .NotEq) (dVar 5) (dLst false aNil)) Γ2 [] = some (.ok (!ss.isEmpty) []) := by
    have hq := eq_nil_strs (μ := []) (f := true) (g := true) (l := ss) (fun s hs => os s (List.mem_filter.mp hs).1)
    have hd := d2_ev' (g := cmpVt .NotEq) (ga := dVar 5) (gb := dLst false aNil) (Γ := Γ2) (μ := []) (ta := .v true (.lst (ss.map .str))) (tb := .v true (.lst [])) rfl rfl
    unfold bOf
    rw [hd]
    unfold cmpVt cmpV
    rw [hq]
    rfl
  have b2 : bOf (d2 (cmpVt .Eq) (d2 ixV (dVar 4) (dAtm (.int 2))) (d2 ixV (dVar 4) (dAtm (.int 0)))) Γ2 [] = some (.ok (decide (z = x)) []) := by
    have i2 : d2 ixV (dVar 4) (dAtm (.int 2)) Γ2 [] = some (.ok (.v true (.str z)) []) := by
      have e : mkT g (D.str z) = .v true (.str z) := by simp [mkT, D.atom]
      have : d2 ixV (dVar 4) (dAtm (.int 2)) Γ2 [] = some (.ok (mkT g (D.str z)) []) := rfl
      rw [this, e]
    have i0 : d2 ixV (dVar 4) (dAtm (.int 0)) Γ2 [] = some (.ok (.v true (.str x)) []) := by
      have e : mkT g (D.str x) = .v true (.str x) := by simp [mkT, D.atom]
      have : d2 ixV (dVar 4) (dAtm (.int 0)) Γ2 [] = some (.ok (mkT g (D.str x)) []) := rfl
      rw [this, e]
    have hd := d2_ev' (g := cmpVt .Eq) i2 i0
    unfold bOf
    rw [hd]
    simp only [cmpVt, cmpV, eqT_str, Option.map_some, ot_some, bind_ok]
  have hb := bOr_ev b1 b2
  rw [show (!ss.isEmpty || decide (z = x)) = badR names (x, y, z) from bad_filter x y z] at hb
  have h2 := hin0 Γ2 (fun _ => rfl) (fun _ => rfl) (fun _ => rfl)
  refine ⟨t3, some (.v true (.lst (ss.map .str))), ?_⟩
  show dueR Γ [] = _
  unfold dueR
  rw [seq_nx s5]
  cases hbd : badR names (x, y, z) with
  | true =>
    rw [hbd] at hb
    unfold sSeq
    unfold sIf
    rw [hb]
    rfl
  | false =>
    rw [hbd] at hb
    rw [seq_nx (Γ1 := Γ2) (μ1 := []) (by
      unfold sIf
      rw [hb]
      rfl)]
    unfold sIf
    rw [h2]
    by_cases hin : (x, y, z) ∈ rules.take i
    · rw [decide_eq_true hin]
      simp only [if_pos hin, Bool.false_eq_true, if_false]
      rfl
    · rw [decide_eq_false hin]
      simp only [if_neg hin, Bool.false_eq_true, if_false]
      rfl
theorem loopN_ok (N : Told names) {f : Bool} {t1 t2 t3 t4 t5 : Option T} (h : ∀ i, i < names.length → nErr names i = none) :
    ∃ u2 u3, sFor (iEnumD (aCons (dVar 0) aNil)) (gTp 2 (gsCons (gNm 2) (gsCons (gNm 3) gsNil))) dueN [some (.v f (namesD names)), t1, t2, t3, t4, t5] [] = some (.nx [some (.v f (namesD names)), t1, u2, u3, t4, t5] []) := by
  obtain ⟨Γ', μ', e, hJ⟩ := for_inv (v := .enum (.v f (namesD names)) names.length) (n := names.length) (g := gTp 2 (gsCons (gNm 2) (gsCons (gNm 3) gsNil))) (b := dueN)
    (fun i Γ μ => (∃ t u, Γ = [some (.v f (namesD names)), t1, t, u, t4, t5]) ∧ μ = [])
    (fun i Γ μ _ _ => by simp [ItV.ok, itemsN, namesD])
    (fun i Γ μ hi ⟨⟨t, u, hΓ⟩, hμ⟩ => by
      subst hΓ hμ
      have hb := dueN_ev N (f := f) (t1 := t1) (t4 := t4) (t5 := t5) hi
      rw [h i hi] at hb
      exact ⟨_, _, _, _, enum_at hi _, rfl, .inl hb, ⟨_, _, rfl⟩, rfl⟩)
    names.length 0 [some (.v f (namesD names)), t1, t2, t3, t4, t5] [] (by omega) ⟨⟨_, _, rfl⟩, rfl⟩
  obtain ⟨⟨t, u, rfl⟩, rfl⟩ := hJ
  exact ⟨t, u, for_ev (v := .enum (.v f (namesD names)) names.length) (by simp [iEnumD, aCons, aNil, dVar, namesD]) e⟩
theorem due_ok (N : Told names) (R : ToldR rules) (f g : Bool) (h1 : ∀ i, i < names.length → nErr names i = none) (h2 : ∀ i, i < rules.length → rErr names rules i = none) : d_law_due [.v f (namesD names), .v g (rulesD rules)] [] = some (.ok (.v true .non) []) := by
  obtain ⟨u2, u3, eN⟩ := loopN_ok N (f := f) (t1 := some (.v g (rulesD rules))) (t2 := none) (t3 := none) (t4 := none) (t5 := none) h1
  obtain ⟨Γ', μ', e, hJ⟩ := for_inv (v := .enum (.v g (rulesD rules)) rules.length) (n := rules.length) (g := gTp 2 (gsCons (gNm 2) (gsCons (gNm 4) gsNil))) (b := dueR)
    (fun i Γ μ => (∃ t u v w, Γ = [some (.v f (namesD names)), some (.v g (rulesD rules)), t, u, v, w]) ∧ μ = [])
    (fun i Γ μ _ _ => by simp [ItV.ok, itemsN, rulesD])
    (fun i Γ μ hi ⟨⟨t, u, v, w, hΓ⟩, hμ⟩ => by
      subst hΓ hμ
      obtain ⟨t3', t5', hb⟩ := dueR_ev N R (f := f) (g := g) (t3 := u) (t5 := w) hi
      rw [h2 i hi] at hb
      exact ⟨_, _, _, _, enumR_at hi _, rfl, .inl hb, ⟨_, _, _, _, rfl⟩, rfl⟩)
    rules.length 0 [some (.v f (namesD names)), some (.v g (rulesD rules)), u2, u3, none, none] [] (by omega) ⟨⟨_, _, _, _, rfl⟩, rfl⟩
  obtain ⟨⟨t, u, v, w, rfl⟩, rfl⟩ := hJ
  have eR := for_ev (it := iEnumD (aCons (dVar 1) aNil)) (Γ := [some (.v f (namesD names)), some (.v g (rulesD rules)), u2, u3, none, none]) (μ := []) (v := .enum (.v g (rulesD rules)) rules.length) (by simp [iEnumD, aCons, aNil, dVar, rulesD]) e
  show retD 0 (b_law_due 0 [some (.v f (namesD names)), some (.v g (rulesD rules)), none, none, none, none] []) = _
  unfold b_law_due
  rw [seq_nx eN, seq_nx eR]
  rfl
theorem due_bad (N : Told names) (R : ToldR rules) (f g : Bool) {c : Nat} {d : D} (hb : Bad names rules c d) : ∃ q, d_law_due [.v f (namesD names), .v g (rulesD rules)] [] = some (.ok (.m 0) [.lst (dueT c q d)]) := by
  have fin : ∀ q, retD 0 (some (.rt (.m 0) [.lst (dueT c q d)])) = some (.ok (.m 0) [.lst (dueT c q d)]) := fun q => ret_c _
  cases hb with
  | n hj hc h =>
    obtain ⟨r, e, _, rfl⟩ := for_stop (v := .enum (.v f (namesD names)) names.length) (n := names.length) (g := gTp 2 (gsCons (gNm 2) (gsCons (gNm 3) gsNil))) (b := dueN)
      (fun i Γ μ => (∃ t u, Γ = [some (.v f (namesD names)), some (.v g (rulesD rules)), t, u, none, none]) ∧ μ = [])
      (fun r => r = .rt (.m 0) [.lst (dueT c true (.str (names[_]'hj)))]) hj
      (fun i Γ μ _ _ => by simp [ItV.ok, itemsN, namesD])
      (fun i Γ μ hi ⟨⟨t, u, hΓ⟩, hμ⟩ => by
        subst hΓ hμ
        have hi2 : i < names.length := by omega
        have hb := dueN_ev N (f := f) (t1 := some (.v g (rulesD rules))) (t4 := none) (t5 := none) hi2
        rw [h i hi] at hb
        exact ⟨_, _, _, _, enum_at hi2 _, rfl, hb, ⟨_, _, rfl⟩, rfl⟩)
      (fun Γ μ ⟨⟨t, u, hΓ⟩, hμ⟩ => by
        subst hΓ hμ
        have hb := dueN_ev N (f := f) (t1 := some (.v g (rulesD rules))) (t4 := none) (t5 := none) hj
        rw [hc] at hb
        exact ⟨_, _, _, enum_at hj _, rfl, hb, trivial, rfl⟩)
      names.length 0 [some (.v f (namesD names)), some (.v g (rulesD rules)), none, none, none, none] [] (by omega) (Nat.zero_le _) ⟨⟨_, _, rfl⟩, rfl⟩
    refine ⟨true, ?_⟩
    have eN := for_ev (it := iEnumD (aCons (dVar 0) aNil)) (Γ := [some (.v f (namesD names)), some (.v g (rulesD rules)), none, none, none, none]) (μ := []) (v := .enum (.v f (namesD names)) names.length) (by simp [iEnumD, aCons, aNil, dVar, namesD]) e
    show retD 0 (b_law_due 0 [some (.v f (namesD names)), some (.v g (rulesD rules)), none, none, none, none] []) = _
    unfold b_law_due
    rw [seq_rt eN]
    exact fin _
  | r h0 hj hc h =>
    obtain ⟨u2, u3, eN⟩ := loopN_ok N (f := f) (t1 := some (.v g (rulesD rules))) (t2 := none) (t3 := none) (t4 := none) (t5 := none) h0
    obtain ⟨r, e, _, rfl⟩ := for_stop (v := .enum (.v g (rulesD rules)) rules.length) (n := rules.length) (g := gTp 2 (gsCons (gNm 2) (gsCons (gNm 4) gsNil))) (b := dueR)
      (fun i Γ μ => (∃ t u v w, Γ = [some (.v f (namesD names)), some (.v g (rulesD rules)), t, u, v, w]) ∧ μ = [])
      (fun r => r = .rt (.m 0) [.lst (dueT c g (ruleD (rules[_]'hj)))]) hj
      (fun i Γ μ _ _ => by simp [ItV.ok, itemsN, rulesD])
      (fun i Γ μ hi ⟨⟨t, u, v, w, hΓ⟩, hμ⟩ => by
        subst hΓ hμ
        have hi2 : i < rules.length := by omega
        obtain ⟨t3', t5', hb⟩ := dueR_ev N R (f := f) (g := g) (t3 := u) (t5 := w) hi2
        rw [h i hi] at hb
        exact ⟨_, _, _, _, enumR_at hi2 _, rfl, hb, ⟨_, _, _, _, rfl⟩, rfl⟩)
      (fun Γ μ ⟨⟨t, u, v, w, hΓ⟩, hμ⟩ => by
        subst hΓ hμ
        obtain ⟨t3', t5', hb⟩ := dueR_ev N R (f := f) (g := g) (t3 := u) (t5 := w) hj
        rw [hc] at hb
        exact ⟨_, _, _, enumR_at hj _, rfl, hb, trivial, rfl⟩)
      rules.length 0 [some (.v f (namesD names)), some (.v g (rulesD rules)), u2, u3, none, none] [] (by omega) (Nat.zero_le _) ⟨⟨_, _, _, _, rfl⟩, rfl⟩
    refine ⟨g, ?_⟩
    have eR := for_ev (it := iEnumD (aCons (dVar 1) aNil)) (Γ := [some (.v f (namesD names)), some (.v g (rulesD rules)), u2, u3, none, none]) (μ := []) (v := .enum (.v g (rulesD rules)) rules.length) (by simp [iEnumD, aCons, aNil, dVar, rulesD]) e
    show retD 0 (b_law_due 0 [some (.v f (namesD names)), some (.v g (rulesD rules)), none, none, none, none] []) = _
    unfold b_law_due
    rw [seq_nx eN, seq_rt eR]
    exact fin _
end
end Qk18

set_option Elab.async false
set_option linter.all false
set_option maxRecDepth 100000
set_option maxHeartbeats 4000000
/-! one turn's tests -/
namespace Qk18
open PySem PySem.Spec PyProof.Rows L2 L3
structure Shows (e : PyData) (n : Nat) : Prop where
  s : PyData.showable e = true
  d : PyData.depth e ≤ 10
  l : (PyData.shown e).length ≤ n
theorem Shows.list {xs : List PyData} {n k : Nat} (h : ∀ x ∈ xs, Shows x n) (hd : ∀ x ∈ xs, PyData.depth x ≤ 9) (hl : xs.length ≤ k) : Shows (.list xs) (k * (n + 2) + 2) :=
  ⟨L3.showableAll_of fun x hx => (h x hx).s, depth_list hd, Nat.le_trans (shown_list fun x hx => (h x hx).l) (Nat.add_le_add_right (Nat.mul_le_mul_right _ hl) 2)⟩
theorem Shows.repr {xs : List PyData} {n : Nat} (h : Shows (.list xs) n) (hn : n ≤ 100000) : reprS (.list xs) = some (PyData.shown (.list xs)) := by
  unfold reprS
  exact if_pos ⟨h.s, Nat.le_trans h.d (by decide), Nat.le_trans h.l (by rw [sizeLine_eq]; omega)⟩
theorem Shows.up {e : PyData} {n k : Nat} (h : Shows e n) (hn : n ≤ k) : Shows e k := ⟨h.s, h.d, Nat.le_trans h.l hn⟩
theorem shows_text {s : Str} (h : PyData.strOk s = true) (hl : s.length ≤ 40) : Shows (.str s) 402 := by
  refine ⟨by simp [PyData.showable], by simp [PyData.depth], ?_⟩
  have e : PyData.shown (.str s) = reprText s := by simp [PyData.shown]
  rw [e]
  have := PySem.StrLaws.reprText_len s (fun c hc => Nat.lt_trans (cps_lt h c hc) (by decide))
  omega
structure Short (names : List Str) (rules : List (Str × Str × Str)) : Prop where
  N : Told names
  R : ToldR rules
  n8 : names.length ≤ 8
  r8 : rules.length ≤ 8
  nl : ∀ s ∈ names, s.length ≤ 40
  rl : ∀ r ∈ rules, r.1.length ≤ 40 ∧ r.2.1.length ≤ 40 ∧ r.2.2.length ≤ 40
section
variable {names : List Str} {rules : List (Str × Str × Str)}
theorem shows_rule (S : Short names rules) {r : Str × Str × Str} (h : r ∈ rules) : Shows (rulePy r) 1212 := by
  obtain ⟨a, b, c⟩ := S.rl r h
  obtain ⟨a', b', c'⟩ := S.R.s r h
  exact ⟨by simp [rulePy, PyData.showable, PyData.showableAll], by simp [rulePy, PyData.depth, PyData.depthAll], shown_triple (shows_text a' a).l (shows_text b' b).l (shows_text c' c).l⟩
theorem bad_py (S : Short names rules) {c : Nat} {d : D} (hb : Bad names rules c d) : ∃ e, d.py = some e ∧ Shows e 1212 ∧ PyData.depth e ≤ 9 := by
  cases hb with
  | n hj hc h => exact ⟨_, by simp [D.py], (shows_text (S.N.s _ (List.getElem_mem hj)) (S.nl _ (List.getElem_mem hj))).up (by decide), by simp [PyData.depth]⟩
  | r h0 hj hc h => exact ⟨rulePy _, by simp [ruleD, rulePy, D.py, D.pys], shows_rule S (List.getElem_mem hj), by simp [rulePy, PyData.depth, PyData.depthAll]⟩
def toldP (c : Nat) (e : PyData) : PyData := .list [.bool (exIs c 1), .bool (exIs c 2), .bool (exIs c 3), .bool (exIs c 4), e]
theorem told_py {c : Nat} {d : D} {e : PyData} (h : d.py = some e) : D.py (toldD c d) = some (toldP c e) := by simp [toldD, D.py, D.pys, h, toldP]
theorem told_repr {c : Nat} {e : PyData} (h : Shows e 1212) (hd : PyData.depth e ≤ 9) : reprS (toldP c e) = some (PyData.shown (toldP c e)) := by
  have hb : ∀ b, Shows (.bool b) 1212 := fun b => ⟨by simp [PyData.showable], by simp [PyData.depth], by cases b <;> decide +kernel⟩
  have sh : Shows (toldP c e) (5 * (1212 + 2) + 2) := Shows.list (fun y hy => by
    simp only [List.mem_cons, List.not_mem_nil, or_false] at hy
    rcases hy with rfl | rfl | rfl | rfl | rfl
    · exact hb _
    · exact hb _
    · exact hb _
    · exact hb _
    · exact h) (fun y hy => by
    simp only [List.mem_cons, List.not_mem_nil, or_false] at hy
    rcases hy with rfl | rfl | rfl | rfl | rfl
    · simp [PyData.depth]
    · simp [PyData.depth]
    · simp [PyData.depth]
    · simp [PyData.depth]
    · exact hd) (Nat.le_refl 5)
  exact sh.repr (by decide)
/-- a list that a call gives back -/
theorem call_c {g : List T → Mu → Ot T} {rf : List Bool} {ts us cs : List T} {μ : Mu} (hrf : refsOf rf ts = []) (ha : argsIn μ false rf ts 0 = some us) (h : g us [] = some (.ok (.m 0) [.lst cs])) (hcs : cs.map (ren [] μ.length) = cs) :
    callD g false rf ts μ = some (.ok (.m μ.length) (μ ++ [.lst cs])) := by
  unfold callD
  rw [hrf, show (if false = true then hide μ [] else μ) = μ from rfl, ha]
  simp only [List.nodup_nil, if_true, cellsAt, h, back, Bool.not_false, Bool.true_or, setAll, List.length_nil, List.take_zero, List.drop_zero, List.map_nil, List.map_cons, renC, hcs]
  rfl
theorem frz_c {g : De} {Γ : Gam} {μ : Mu} {cs : List T} {ds : List D} {m0 : Nat} {q : Bool} (h : g Γ μ = some (.ok (.m μ.length) (μ ++ [.lst cs]))) (hp : pack cs = some (q, ds)) (hm : m0 ≤ μ.length) (hl : μ.all (Cell.low μ.length) = true) : dFrz m0 g Γ μ = some (.ok (.v q (.lst ds)) μ) := by
  unfold dFrz
  rw [h]
  have e : (μ ++ [Cell.lst cs])[μ.length]? = some (.lst cs) := by simp
  simp [Ot.bind, frzV, e, hp, hm, hl, Vt.ot]
section
variable {Γ : Gam} {μ : Mu} {f g h : Bool} {da : Da}
/-- what is caught and what is due are told by one text -/
theorem both_ev (S : Short names rules) : ∃ z : Str, (∀ (Γ : Gam) (μ : Mu) (f g : Bool) (da : Da), 1 ≤ μ.length → μ.all (Cell.low μ.length) = true → da Γ μ = some (.ok [.v f (namesD names), .v g (rulesD rules)] μ) → dBi reprV (aCons (dFrz 1 (dCall d_law_due 2 false [false, false] da)) aNil) Γ μ = some (.ok (.v true (.str z)) μ)) ∧
    (∀ (Γ : Gam) (μ : Mu) (f g h : Bool) (way : Int) (da : Da), 1 ≤ μ.length → μ.all (Cell.low μ.length) = true → da Γ μ = some (.ok [.v f (namesD names), .v g (rulesD rules), .v h (.int way)] μ) → dBi reprV (aCons (dFrz 1 (dCall d_law_caught 3 false [false, false, false] da)) aNil) Γ μ = some (.ok (.v true (.str z)) μ)) := by
  have bi : ∀ {Γ : Gam} {μ : Mu} {ge : De} {q : Bool} {d : D} {e : PyData} {z : Str}, ge Γ μ = some (.ok (.v q d) μ) → d.py = some e → reprS e = some z → dBi reprV (aCons ge aNil) Γ μ = some (.ok (.v true (.str z)) μ) := fun {Γ μ ge q d e z} h hp hz => by
    have hd : deep DEEP μ (.v q d) = some d := by unfold deep; rfl
    have q1 := repr_ev (μ := μ) (t := .v q d) hd hp hz
    simp only [dBi, aCons, aNil, h, bind_ok, q1, ot_some]
  rcases good_or_bad names rules with ⟨h1, h2⟩ | ⟨c, d, hb⟩
  · have hz : reprS PyData.none = some "None" := rfl
    have hp : D.py .non = some PyData.none := by simp [D.py]
    refine ⟨_, fun Γ μ f g da hm hl hda => bi (frz_v ((dCall_ev hda rfl).trans (call_v (us := [.v false (namesD names), .v false (rulesD rules)]) rfl rfl (due_ok S.N S.R false false h1 h2) rfl)) hl) hp hz,
      fun Γ μ f g h way da hm hl hda => bi (frz_v ((dCall_ev hda rfl).trans (call_v (us := [.v false (namesD names), .v false (rulesD rules), .v true (.int way)]) rfl rfl (caught_ok S.N S.R h1 h2 false false true way) rfl)) hl) hp hz⟩
  · obtain ⟨e, he, hs, hd⟩ := bad_py S hb
    have hp := told_py (c := c) he
    have hz := told_repr (c := c) hs hd
    obtain ⟨q1, e1⟩ := due_bad S.N S.R false false hb
    have hpk : ∃ q, pack (dueT c q1 d) = some (q, [.bl (exIs c 1), .bl (exIs c 2), .bl (exIs c 3), .bl (exIs c 4), d]) := ⟨_, rfl⟩
    obtain ⟨q3, hpk⟩ := hpk
    refine ⟨_, fun Γ μ f g da hm hl hda => bi (frz_c ((dCall_ev hda rfl).trans (call_c (us := [.v false (namesD names), .v false (rulesD rules)]) rfl rfl e1 rfl)) hpk hm hl) hp hz,
      fun Γ μ f g h way da hm hl hda => ?_⟩
    obtain ⟨q2, e2⟩ := caught_bad S.N S.R hb false false true way
    exact bi (frz_v ((dCall_ev hda rfl).trans (call_v (us := [.v false (namesD names), .v false (rulesD rules), .v true (.int way)]) rfl rfl e2 rfl)) hl) hp hz
end
end
end Qk18

set_option Elab.async false
set_option linter.all false
set_option maxRecDepth 100000
set_option maxHeartbeats 4000000
/-! texts cut and put together -/
namespace Qk18
open PySem PySem.Spec PyProof.Rows L2 L3
theorem ok_of {s : Str} (h : ∀ c ∈ s.cps.toList, c < 0x110000) : PyData.strOk s = true := by
  show s.cps.all (· < 0x110000) = true
  rw [Array.all_eq_true']
  intro c hc
  simpa using h c (Array.mem_toList_iff.mpr hc)
/-- a text of at most n signs -/
structure Txt (n : Nat) (s : Str) : Prop where
  ok : PyData.strOk s = true
  le : s.length ≤ n
theorem Txt.up {n m : Nat} {s : Str} (h : Txt n s) (e : n ≤ m) : Txt m s := ⟨h.ok, Nat.le_trans h.le e⟩
theorem len_eq (s : Str) : s.length = s.cps.toList.length := by
  rw [Array.length_toList]
  rfl
theorem txt_take {z : Str} (h : PyData.strOk z = true) (k : Nat) : Txt (min k z.length) (cutS z none (some (k : Int))) := by
  have h1 : HT.sIx z.length 0 none = 0 := HT.sIx_none _ _
  have h2 : HT.sIx z.length z.length (some (k : Int)) = min k z.length := HT.sIx_nat _ _ _
  refine ⟨ok_of fun c hc => ?_, ?_⟩
  · have hc : c ∈ ((z.cps.toList.drop (HT.sIx z.length 0 none)).take (HT.sIx z.length z.length (some (k : Int)) - HT.sIx z.length 0 none)) := hc
    exact cps_lt h c (List.mem_of_mem_drop (List.mem_of_mem_take hc))
  · rw [len_eq]
    show ((z.cps.toList.drop (HT.sIx z.length 0 none)).take (HT.sIx z.length z.length (some (k : Int)) - HT.sIx z.length 0 none)).length ≤ _
    rw [h1, h2, List.length_take]
    omega
theorem txt_drop {z : Str} (h : PyData.strOk z = true) (k : Nat) : Txt (z.length - min k z.length) (cutS z (some (k : Int)) none) := by
  have h1 : HT.sIx z.length 0 (some (k : Int)) = min k z.length := HT.sIx_nat _ _ _
  have h2 : HT.sIx z.length z.length none = z.length := HT.sIx_none _ _
  refine ⟨ok_of fun c hc => ?_, ?_⟩
  · have hc : c ∈ ((z.cps.toList.drop (HT.sIx z.length 0 (some (k : Int)))).take (HT.sIx z.length z.length none - HT.sIx z.length 0 (some (k : Int)))) := hc
    exact cps_lt h c (List.mem_of_mem_drop (List.mem_of_mem_take hc))
  · rw [len_eq]
    show ((z.cps.toList.drop (HT.sIx z.length 0 (some (k : Int)))).take (HT.sIx z.length z.length none - HT.sIx z.length 0 (some (k : Int)))).length ≤ _
    rw [h1, h2, List.length_take]
    omega
theorem txt_app {n m : Nat} {x y : Str} (hx : Txt n x) (hy : Txt m y) : Txt (n + m) (x ++ y) := by
  refine ⟨ok_of fun c hc => ?_, ?_⟩
  · have hc : c ∈ (x.cps ++ y.cps).toList := hc
    rw [Array.toList_append] at hc
    rcases List.mem_append.mp hc with h | h
    · exact cps_lt hx.ok c h
    · exact cps_lt hy.ok c h
  · show (x.cps ++ y.cps).size ≤ n + m
    rw [Array.size_append]
    exact Nat.add_le_add hx.le hy.le
theorem fold_mem (a : Array Nat) : ∀ (k : Nat) (b : Array Nat), ∀ c ∈ ((List.replicate k a).foldl (· ++ ·) b).toList, c ∈ b.toList ∨ c ∈ a.toList
  | 0, b => fun c hc => .inl hc
  | k + 1, b => fun c hc => by
    rw [List.replicate_succ, List.foldl_cons] at hc
    rcases fold_mem a k (b ++ a) c hc with h | h
    · rw [Array.toList_append] at h
      exact List.mem_append.mp h
    · exact .inr h
theorem ok_mul {x : Str} (h : PyData.strOk x = true) (n : Int) : PyData.strOk (mulS x n) = true := by
  unfold mulS
  split
  · exact h
  · refine ok_of fun c hc => ?_
    rcases fold_mem x.cps n.toNat #[] c hc with q | q
    · simp at q
    · exact cps_lt h c q
theorem len_mul {x : Str} {n : Int} (h1 : 1 ≤ n) : (mulS x n).length ≤ x.length * n.toNat := by
  unfold mulS
  split
  · have : 1 ≤ n.toNat := by omega
    exact Nat.le_mul_of_pos_right _ this
  · show ((List.replicate n.toNat x.cps).foldl (· ++ ·) #[]).size ≤ _
    rw [fold_size]
    have e : x.cps.size = x.length := rfl
    rw [e, Nat.mul_comm]
    simp
theorem sign_txt {z : Str} (h : PyData.strOk z = true) {c : Nat} (hc : c ∈ z.cps.toList) : Txt 1 (⟨#[c]⟩ : Str) := ⟨sign_ok (cps_lt h c hc), Nat.le_refl 1⟩
/-- a sign of a text, by its place -/
theorem ix_txt {μ : Mu} {f g : Bool} {z : Str} {k : Int} (h : PyData.strOk z = true) (hz : z.length ≤ sizeLine) (h0 : 0 ≤ k) (h1 : k < (z.length : Int)) : ∃ s, Txt 1 s ∧ ixV μ (.v f (.str z)) (.v g (.int k)) = some (.v true (.str s), μ) := by
  have hk : k.toNat < z.cps.toList.length := by rw [← len_eq]; omega
  refine ⟨⟨#[z.cps.toList[k.toNat]]⟩, sign_txt h (List.getElem_mem hk), ?_⟩
  have ha : atI z.cps.toList k = some z.cps.toList[k.toNat] := by
    unfold atI ixN
    rw [← len_eq]
    rw [if_pos h0, if_pos h1]
    exact List.getElem?_eq_getElem hk
  show (if z.length ≤ sizeLine then (match atI z.cps.toList k with | some c => (some (T.v true (D.str ⟨#[c]⟩), μ) : Vt) | none => none) else none) = _
  rw [if_pos hz, ha]
end Qk18

set_option Elab.async false
set_option linter.all false
set_option maxRecDepth 100000
set_option maxHeartbeats 4000000
/-! a text that is no name -/
namespace Qk18
open PySem PySem.Spec PyProof.Rows L2 L3
section
variable {names : List Str}
theorem bits128 {n : Nat} (h : n ≤ 128) : bitsI (n : Int) < 9000 := by
  have : bitsI (n : Int) ≤ bitsI 128 := bits_le (by omega) (by omega)
  have e : bitsI 128 = 7 := by decide
  omega
theorem getD_mem {k : Nat} (hk : k < names.length) : names.getD k "" ∈ names := by
  rw [List.getD_eq_getElem?_getD, List.getElem?_eq_getElem hk, Option.getD_some]
  exact List.getElem_mem hk
theorem names_at {μ : Mu} {f g : Bool} {k : Int} (h0 : 0 ≤ k) (hk : k.toNat < names.length) : ixV μ (.v f (namesD names)) (.v g (.int k)) = some (.v true (.str (names.getD k.toNat "")), μ) := by
  have e : ixV μ (.v f (namesD names)) (.v g (.int k)) = match items μ (.v f (.lst (names.map D.str))) with
      | some (_, ts) => match atI ts k with
        | some t => some (t, μ)
        | none => none
      | none => none := rfl
  rw [e, items_lst]
  have ha : atI ((names.map D.str).map (mkT f)) k = some (.v true (.str (names.getD k.toNat ""))) := by
    unfold atI ixN
    rw [if_pos h0, if_pos (by rw [List.length_map, List.length_map]; omega)]
    show ((names.map D.str).map (mkT f))[k.toNat]? = _
    rw [List.getElem?_map, List.getElem?_map, List.getElem?_eq_getElem hk, List.getD_eq_getElem?_getD, List.getElem?_eq_getElem hk]
    simp [mkT, D.atom]
  simp only
  rw [ha]
theorem grind_at {Γ : Gam} {a b : Int} {gn : De} {n : Nat} {fn : Bool} (v0 : ∀ μ, dVar 0 Γ μ = some (.ok (.m 0) μ)) (hgn : ∀ μ, gn Γ μ = some (.ok (.v fn (.int (n : Nat))) μ)) (ok : MillOk a b) (h1 : 1 ≤ n) (h2 : n ≤ 128) :
    ∃ k a' b', dCall d_law_grind 2 false [true, false] (aCons (dVar 0) (aCons gn aNil)) Γ [Mill a b] = some (.ok (.v true (.int k)) [Mill a' b']) ∧ MillOk a' b' ∧ 0 ≤ k ∧ k < (n : Int) := by
  obtain ⟨k, a', b', hg, ok', k0, k1⟩ := call_grind (μ := [Mill a b]) (j := 0) (a := a) (b := b) (n : Int) fn rfl ok (by omega) (bits128 h2)
  refine ⟨k, a', b', ?_, ok', k0, k1⟩
  exact (dCall_ev (ts := [.m 0, .v fn (.int (n : Nat))]) (by simp only [aCons, aNil, v0, hgn, bind_ok]) rfl).trans hg
def signsZ : Str := " !#$&'()*+,-./0123456789:;<=>?\x40[]^_`{|}~\"\\ABCDEFGHIJKLMNOPQRSTUVWXYZ"
theorem signs_ok : PyData.strOk signsZ = true ∧ 1 ≤ signsZ.length ∧ signsZ.length ≤ 128 := by decide +kernel
theorem txt_a : PyData.strOk "a" = true ∧ Str.length "a" = 1 := by decide +kernel
theorem txt_0 : PyData.strOk "" = true ∧ Str.length "" = 0 := by decide +kernel
theorem lt_line {n : Nat} (h : n ≤ 1000) : n ≤ sizeLine := by
  rw [sizeLine_eq]
  omega
theorem add_txt {μ : Mu} {f g : Bool} {x y : Str} {n m : Nat} (hx : Txt n x) (hy : Txt m y) (h : n + m ≤ 1000) : binV false .Add μ (.v f (.str x)) (.v g (.str y)) = some (.v true (.str (x ++ y)), μ) := by
  show (if x.length + y.length ≤ sizeLine then some (T.v true (D.str (x ++ y)), μ) else none) = _
  rw [if_pos (lt_line (Nat.le_trans (Nat.add_le_add hx.le hy.le) h))]
theorem len_txt {μ : Mu} {f : Bool} {x : Str} (h : x.length ≤ 1000) : lenV μ [.v f (.str x)] = some (.v true (.int (x.length : Nat)), μ) := by
  simp [lenV, lt_line h]
theorem mul_ev {μ : Mu} {f g : Bool} {x : Str} {n : Int} (h : 1 ≤ n ∧ n ≤ 1000 ∧ x.length ≤ 1000) : mulSV μ (.v f (.str x)) (.v g (.int n)) = some (.v true (.str (mulS x n)), μ) := if_pos h
theorem no_name_ev {L : Nat} (hn : ∀ s ∈ names, Txt L s) (h20 : 20 ≤ L) (h35 : L ≤ 60) (h1 : 1 ≤ names.length) (h8 : names.length ≤ 8) {a b : Int} (ok : MillOk a b) (f : Bool) :
    ∃ a' b' s, d_law_no_name [.m 0, .v f (namesD names)] [Mill a b] = some (.ok (.v true (.str s)) [Mill a' b']) ∧ MillOk a' b' ∧ Txt (L + 1) s := by
  let Γ2 : Gam := [some (.m 0), some (.v f (namesD names)), some (.v true (.str signsZ)), none, none, none, none]
  have hlenN : ∀ μ, lenV μ [.v f (namesD names)] = some (.v true (.int (names.length : Nat)), μ) := fun μ => by simp [lenV, namesD]
  obtain ⟨k3, a3, b3, g3, ok3, p3, q3⟩ := grind_at (Γ := Γ2) (gn := dBi lenV (aCons (dVar 1) aNil)) (n := names.length) (fn := true) (fun _ => rfl) (fun μ => by
    have v1 : ∀ μ, dVar 1 Γ2 μ = some (.ok (.v f (namesD names)) μ) := fun _ => rfl
    simp only [dBi, aCons, aNil, v1, bind_ok, hlenN, ot_some]) ok h1 (by omega)
  have hk3 : k3.toNat < names.length := by omega
  have hmem := getD_mem hk3
  have i3 : d2 ixV (dVar 1) (dCall d_law_grind 2 false [true, false] (aCons (dVar 0) (aCons (dBi lenV (aCons (dVar 1) aNil)) aNil))) Γ2 [Mill a b] = some (.ok (.v true (.str (names.getD k3.toNat ""))) [Mill a3 b3]) := by
    have := d2_ev' (g := ixV) (ga := dVar 1) (ta := .v f (namesD names)) (Γ := Γ2) (μ := [Mill a b]) rfl g3
    rw [this, names_at p3 hk3]
    rfl
  have T3 := hn _ hmem
  generalize names.getD k3.toNat "" = label at i3 T3
  have hll : label.length ≤ 1000 := Nat.le_trans T3.le (by omega)
  let Γ3 : Gam := [some (.m 0), some (.v f (namesD names)), some (.v true (.str signsZ)), some (.v true (.str label)), none, none, none]
  have s3 : sSet 3 (d2 ixV (dVar 1) (dCall d_law_grind 2 false [true, false] (aCons (dVar 0) (aCons (dBi lenV (aCons (dVar 1) aNil)) aNil)))) Γ2 [Mill a b] = some (.nx Γ3 [Mill a3 b3]) := by
    unfold sSet
    rw [i3]
    rfl
  obtain ⟨k4, a4, b4, g4, ok4, p4, q4⟩ := grind_at (Γ := Γ3) (gn := d2 (binV false .Add) (dBi lenV (aCons (dVar 3) aNil)) (dAtm (.int 1))) (n := label.length + 1) (fn := true) (fun _ => rfl) (fun μ => by
    have v3 : ∀ μ, dVar 3 Γ3 μ = some (.ok (.v true (.str label)) μ) := fun _ => rfl
    simp only [d2, dBi, aCons, aNil, v3, bind_ok, len_txt hll, ot_some, dAtm]
    rfl) ok3 (by omega) (by have := T3.le; omega)
  obtain ⟨at4, rfl⟩ : ∃ n : Nat, k4 = (n : Int) := ⟨k4.toNat, by omega⟩
  let Γ4 : Gam := [some (.m 0), some (.v f (namesD names)), some (.v true (.str signsZ)), some (.v true (.str label)), some (.v true (.int (at4 : Nat))), none, none]
  have s4 : sSet 4 (dCall d_law_grind 2 false [true, false] (aCons (dVar 0) (aCons (d2 (binV false .Add) (dBi lenV (aCons (dVar 3) aNil)) (dAtm (.int 1))) aNil))) Γ3 [Mill a3 b3] = some (.nx Γ4 [Mill a4 b4]) := by
    unfold sSet
    rw [g4]
    rfl
  obtain ⟨k5, a5, b5, g5, ok5, p5, q5⟩ := grind_at (Γ := Γ4) (gn := dBi lenV (aCons (dVar 2) aNil)) (n := signsZ.length) (fn := true) (fun _ => rfl) (fun μ => by
    have v2 : ∀ μ, dVar 2 Γ4 μ = some (.ok (.v true (.str signsZ)) μ) := fun _ => rfl
    simp only [dBi, aCons, aNil, v2, bind_ok, len_txt (Nat.le_trans signs_ok.2.2 (by decide)), ot_some]) ok4 signs_ok.2.1 signs_ok.2.2
  obtain ⟨sg, Tsg, hsg⟩ := ix_txt (μ := [Mill a5 b5]) (f := true) (g := true) signs_ok.1 (lt_line (Nat.le_trans signs_ok.2.2 (by decide))) p5 q5
  have Tt := txt_take T3.ok at4
  have Td := txt_drop T3.ok at4
  have hT := T3.le
  have hM : min at4 label.length ≤ label.length := Nat.min_le_right _ _
  let odd : Str := (cutS label none (some (at4 : Int)) ++ sg) ++ cutS label (some (at4 : Int)) none
  have To : Txt (L + 1) odd := (txt_app (txt_app Tt Tsg) Td).up (by omega)
  have s5 : sSet 5 (d2 (binV false .Add) (d2 (binV false .Add) (dSl false (dVar 3) none (some (dVar 4))) (d2 ixV (dVar 2) (dCall d_law_grind 2 false [true, false] (aCons (dVar 0) (aCons (dBi lenV (aCons (dVar 2) aNil)) aNil))))) (dSl false (dVar 3) (some (dVar 4)) none)) Γ4 [Mill a4 b4] = some (.nx [some (.m 0), some (.v f (namesD names)), some (.v true (.str signsZ)), some (.v true (.str label)), some (.v true (.int (at4 : Nat))), some (.v true (.str odd)), none] [Mill a5 b5]) := by
    have v3 : ∀ μ, dVar 3 Γ4 μ = some (.ok (.v true (.str label)) μ) := fun _ => rfl
    have v4 : ∀ μ, dVar 4 Γ4 μ = some (.ok (.v true (.int (at4 : Nat))) μ) := fun _ => rfl
    have hs1 : ∀ μ, slV false μ (.v true (.str label)) none (some (at4 : Int)) = some (.v true (.str (cutS label none (some (at4 : Int)))), μ) := fun μ => if_pos (lt_line hll)
    have hs2 : ∀ μ, slV false μ (.v true (.str label)) (some (at4 : Int)) none = some (.v true (.str (cutS label (some (at4 : Int)) none)), μ) := fun μ => if_pos (lt_line hll)
    have x1 : ∀ μ, dSl false (dVar 3) none (some (dVar 4)) Γ4 μ = some (.ok (.v true (.str (cutS label none (some (at4 : Int))))) μ) := fun μ => by simp only [dSl, dPart, v3, v4, bind_ok, hs1, ot_some]
    have x2 : ∀ μ, dSl false (dVar 3) (some (dVar 4)) none Γ4 μ = some (.ok (.v true (.str (cutS label (some (at4 : Int)) none))) μ) := fun μ => by simp only [dSl, dPart, v3, v4, bind_ok, hs2, ot_some]
    have x3 : d2 ixV (dVar 2) (dCall d_law_grind 2 false [true, false] (aCons (dVar 0) (aCons (dBi lenV (aCons (dVar 2) aNil)) aNil))) Γ4 [Mill a4 b4] = some (.ok (.v true (.str sg)) [Mill a5 b5]) := by
      have := d2_ev' (g := ixV) (ga := dVar 2) (ta := .v true (.str signsZ)) (Γ := Γ4) (μ := [Mill a4 b4]) rfl g5
      rw [this, hsg]
      rfl
    have y1 := d2_ev' (g := binV false .Add) (x1 _) x3
    rw [add_txt Tt Tsg (by omega)] at y1
    have y2 := d2_ev' (g := binV false .Add) (y1.trans rfl) (x2 _)
    rw [add_txt (txt_app Tt Tsg) Td (by omega)] at y2
    unfold sSet
    rw [y2]
    rfl
  let Γ5 : Gam := [some (.m 0), some (.v f (namesD names)), some (.v true (.str signsZ)), some (.v true (.str label)), some (.v true (.int (at4 : Nat))), some (.v true (.str odd)), none]
  obtain ⟨k6, a6, b6, g6, ok6, p6, q6⟩ := grind_at (Γ := Γ5) (gn := dAtm (.int 12)) (n := 12) (fn := true) (fun _ => rfl) (fun μ => rfl) ok5 (by decide) (by decide)
  obtain ⟨n6, rfl⟩ : ∃ n : Nat, k6 = (n : Int) := ⟨k6.toNat, by omega⟩
  have Tm1 : Txt (label.length * 9) (mulS label 9) := ⟨ok_mul T3.ok 9, len_mul (by decide)⟩
  have Tm2 : Txt 9 (mulS "a" 9) := ⟨ok_mul txt_a.1 9, by
    have := len_mul (x := "a") (n := 9) (by decide)
    rw [txt_a.2] at this
    exact this⟩
  have Tm := txt_app Tm1 Tm2
  have Tc := txt_take Tm.ok (9 + n6)
  let long : Str := cutS (mulS label 9 ++ mulS "a" 9) none (some ((9 + n6 : Nat) : Int))
  have Tl : Txt (L + 1) long := Tc.up (by
    have : min (9 + n6) (mulS label 9 ++ mulS "a" 9).length ≤ 9 + n6 := Nat.min_le_left _ _
    omega)
  let Γ6 : Gam := [some (.m 0), some (.v f (namesD names)), some (.v true (.str signsZ)), some (.v true (.str label)), some (.v true (.int (at4 : Nat))), some (.v true (.str odd)), some (.v true (.lst [.str "", .str long, .str odd]))]
  have s6 : sSet 6 (dLst false (aCons (dAtm (.str "")) (aCons (dSl false (d2 (binV false .Add) (d2 mulSV (dVar 3) (dAtm (.int 9))) (d2 mulSV (dAtm (.str "a")) (dAtm (.int 9)))) none (some (d2 (binV false .Add) (dAtm (.int 9)) (dCall d_law_grind 2 false [true, false] (aCons (dVar 0) (aCons (dAtm (.int 12)) aNil)))))) (aCons (dVar 5) aNil)))) Γ5 [Mill a5 b5] = some (.nx Γ6 [Mill a6 b6]) := by
    have m1 : ∀ μ, d2 mulSV (dVar 3) (dAtm (.int 9)) Γ5 μ = some (.ok (.v true (.str (mulS label 9))) μ) := fun μ => by
      have := d2_ev' (g := mulSV) (ga := dVar 3) (gb := dAtm (.int 9)) (Γ := Γ5) (μ := μ) (ta := .v true (.str label)) (tb := .v true (.int 9)) rfl rfl
      rw [this]
      have e : mulSV μ (.v true (.str label)) (.v true (.int 9)) = some (.v true (.str (mulS label 9)), μ) := if_pos ⟨by decide, by decide, hll⟩
      rw [e]
      rfl
    have m2 : ∀ μ, d2 mulSV (dAtm (.str "a")) (dAtm (.int 9)) Γ5 μ = some (.ok (.v true (.str (mulS "a" 9))) μ) := fun μ => by
      have := d2_ev' (g := mulSV) (ga := dAtm (.str "a")) (gb := dAtm (.int 9)) (Γ := Γ5) (μ := μ) (ta := .v true (.str "a")) (tb := .v true (.int 9)) rfl rfl
      rw [this]
      have e : mulSV μ (.v true (.str "a")) (.v true (.int 9)) = some (.v true (.str (mulS "a" 9)), μ) := mul_ev ⟨by decide, by decide, by rw [txt_a.2]; decide⟩
      rw [e]
      rfl
    have m3 := d2_ev' (g := binV false .Add) (m1 [Mill a5 b5]) (m2 _)
    rw [add_txt Tm1 Tm2 (by omega)] at m3
    have m4 := d2_ev' (g := binV false .Add) (ga := dAtm (.int 9)) (Γ := Γ5) (μ := [Mill a5 b5]) (ta := .v true (.int 9)) rfl g6
    have hs : slV false [Mill a6 b6] (.v true (.str (mulS label 9 ++ mulS "a" 9))) none (some ((9 + n6 : Nat) : Int)) = some (.v true (.str long), [Mill a6 b6]) := if_pos (lt_line (Nat.le_trans Tm.le (by omega)))
    have m5 : dSl false (d2 (binV false .Add) (d2 mulSV (dVar 3) (dAtm (.int 9))) (d2 mulSV (dAtm (.str "a")) (dAtm (.int 9)))) none (some (d2 (binV false .Add) (dAtm (.int 9)) (dCall d_law_grind 2 false [true, false] (aCons (dVar 0) (aCons (dAtm (.int 12)) aNil))))) Γ5 [Mill a5 b5] = some (.ok (.v true (.str long)) [Mill a6 b6]) := by
      have m4' : d2 (binV false .Add) (dAtm (.int 9)) (dCall d_law_grind 2 false [true, false] (aCons (dVar 0) (aCons (dAtm (.int 12)) aNil))) Γ5 [Mill a5 b5] = some (.ok (.v true (.int ((9 + n6 : Nat) : Int))) [Mill a6 b6]) := m4
      generalize d2 (binV false .Add) (dAtm (.int 9)) (dCall d_law_grind 2 false [true, false] (aCons (dVar 0) (aCons (dAtm (.int 12)) aNil))) = g4 at m4' ⊢
      generalize d2 (binV false .Add) (d2 mulSV (dVar 3) (dAtm (.int 9))) (d2 mulSV (dAtm (.str "a")) (dAtm (.int 9))) = g3 at m3 ⊢
      have m3' : g3 Γ5 [Mill a5 b5] = some (.ok (.v true (.str (mulS label 9 ++ mulS "a" 9))) [Mill a5 b5]) := m3
      simp only [dSl, m3', bind_ok, dPart, m4', hs, ot_some]
    generalize dSl false (d2 (binV false .Add) (d2 mulSV (dVar 3) (dAtm (.int 9))) (d2 mulSV (dAtm (.str "a")) (dAtm (.int 9)))) none (some (d2 (binV false .Add) (dAtm (.int 9)) (dCall d_law_grind 2 false [true, false] (aCons (dVar 0) (aCons (dAtm (.int 12)) aNil))))) = gm at m5 ⊢
    have v5 : ∀ μ, dVar 5 Γ5 μ = some (.ok (.v true (.str odd)) μ) := fun _ => rfl
    simp only [sSet, dLst, aCons, aNil, dAtm, m5, v5, bind_ok, newL, pack, bindS_ok]
    rfl
  obtain ⟨k7, a7, b7, g7, ok7, p7, q7⟩ := grind_at (Γ := Γ6) (gn := dAtm (.int 5)) (n := 5) (fn := true) (fun _ => rfl) (fun μ => rfl) ok6 (by decide) (by decide)
  have hret : ∃ s, Txt (L + 1) s ∧ sRet (d2 ixV (dVar 6) (dBi min2V (aCons (dAtm (.int 2)) (aCons (dCall d_law_grind 2 false [true, false] (aCons (dVar 0) (aCons (dAtm (.int 5)) aNil))) aNil)))) Γ6 [Mill a6 b6] = some (.rt (.v true (.str s)) [Mill a7 b7]) := by
    have hmin : ∃ j : Int, (j = 0 ∨ j = 1 ∨ j = 2) ∧ min2V [Mill a7 b7] [.v true (.int 2), .v true (.int k7)] = some (.v true (.int j), [Mill a7 b7]) := by
      have : k7 = 0 ∨ k7 = 1 ∨ k7 = 2 ∨ k7 = 3 ∨ k7 = 4 := by omega
      rcases this with rfl | rfl | rfl | rfl | rfl
      · exact ⟨0, .inl rfl, rfl⟩
      · exact ⟨1, .inr (.inl rfl), rfl⟩
      · exact ⟨2, .inr (.inr rfl), rfl⟩
      · exact ⟨2, .inr (.inr rfl), rfl⟩
      · exact ⟨2, .inr (.inr rfl), rfl⟩
    obtain ⟨j, hj, hmin⟩ := hmin
    have hb : dBi min2V (aCons (dAtm (.int 2)) (aCons (dCall d_law_grind 2 false [true, false] (aCons (dVar 0) (aCons (dAtm (.int 5)) aNil))) aNil)) Γ6 [Mill a6 b6] = some (.ok (.v true (.int j)) [Mill a7 b7]) := by
      generalize dCall d_law_grind 2 false [true, false] (aCons (dVar 0) (aCons (dAtm (.int 5)) aNil)) = gd at g7 ⊢
      simp only [dBi, aCons, aNil, dAtm, g7, bind_ok, hmin, ot_some]
    have hd := d2_ev' (g := ixV) (ga := dVar 6) (Γ := Γ6) (μ := [Mill a6 b6]) (ta := .v true (.lst [.str "", .str long, .str odd])) rfl hb
    unfold sRet
    rw [hd]
    rcases hj with rfl | rfl | rfl
    · exact ⟨"", ⟨txt_0.1, by rw [txt_0.2]; omega⟩, rfl⟩
    · exact ⟨long, Tl, rfl⟩
    · exact ⟨odd, To, rfl⟩
  obtain ⟨s, Ts, hret⟩ := hret
  refine ⟨a7, b7, s, ?_, ok7, Ts⟩
  show retD 1 (b_law_no_name 1 [some (.m 0), some (.v f (namesD names)), none, none, none, none, none] [Mill a b]) = _
  unfold b_law_no_name
  rw [seq_nx (Γ1 := Γ2) (μ1 := [Mill a b]) rfl, seq_nx s3, seq_nx s4, seq_nx s5, seq_nx s6, hret]
  exact ret_v (.str s) true [Mill a7 b7] rfl
end
end Qk18

set_option Elab.async false
set_option linter.all false
set_option maxRecDepth 100000
set_option maxHeartbeats 4000000
/-! lists cut and put together, for good -/
namespace Qk18
open PySem PySem.Spec PyProof.Rows L2 L3
theorem pack_app {xs ys : List T} {ds es : List D} {p q : Bool} (hx : pack xs = some (p, ds)) (hy : pack ys = some (q, es)) : ∃ r, pack (xs ++ ys) = some (r, ds ++ es) := by
  induction xs generalizing ds p with
  | nil =>
    have e : pack [] = some (true, []) := rfl
    rw [e] at hx
    cases hx
    exact ⟨q, hy⟩
  | cons x xs ih =>
    cases x with
    | m j => simp [pack] at hx
    | v f d =>
      unfold pack at hx
      cases hp : pack xs with
      | none => rw [hp] at hx; simp at hx
      | some r =>
        obtain ⟨p', ds'⟩ := r
        rw [hp] at hx
        simp only [Option.some.injEq, Prod.mk.injEq] at hx
        obtain ⟨r, hr⟩ := ih hp
        refine ⟨f && r, ?_⟩
        rw [List.cons_append, pack, hr, ← hx.2]
        rfl
theorem pack_mk (f : Bool) : ∀ ds : List D, ∃ q, pack (ds.map (mkT f)) = some (q, ds)
  | [] => ⟨true, rfl⟩
  | d :: ds => by
    obtain ⟨q, h⟩ := pack_mk f ds
    exact ⟨(f || d.atom) && q, by rw [List.map_cons, mkT, pack, h]⟩
theorem cut_drop (ts : List T) (k : Nat) (h : k ≤ ts.length) : cutT ts (some (k : Int)) none = ts.drop k := by
  have h1 : HT.sIx ts.length 0 (some (k : Int)) = k := by rw [HT.sIx_nat]; omega
  have h2 : HT.sIx ts.length ts.length none = ts.length := HT.sIx_none _ _
  unfold cutT
  rw [h1, h2]
  exact List.take_of_length_le (by rw [List.length_drop]; omega)
theorem sl_take {μ : Mu} {f : Bool} {ds : List D} {k : Nat} (h : k ≤ ds.length) : ∃ q, slV false μ (.v f (.lst ds)) none (some (k : Int)) = some (.v q (.lst (ds.take k)), μ) := by
  obtain ⟨q, hq⟩ := pack_mk f (ds.take k)
  refine ⟨q, ?_⟩
  show (match items μ (.v f (.lst ds)) with
    | some (true, ts) => newL false μ (cutT ts none (some (k : Int)))
    | _ => none) = _
  rw [items_lst]
  simp only [newL]
  rw [cut_take _ _ (by rw [List.length_map]; exact h), ← List.map_take, hq]
  rfl
theorem sl_drop {μ : Mu} {f : Bool} {ds : List D} {k : Nat} (h : k ≤ ds.length) : ∃ q, slV false μ (.v f (.lst ds)) (some (k : Int)) none = some (.v q (.lst (ds.drop k)), μ) := by
  obtain ⟨q, hq⟩ := pack_mk f (ds.drop k)
  refine ⟨q, ?_⟩
  show (match items μ (.v f (.lst ds)) with
    | some (true, ts) => newL false μ (cutT ts (some (k : Int)) none)
    | _ => none) = _
  rw [items_lst]
  simp only [newL]
  rw [cut_drop _ _ (by rw [List.length_map]; exact h), ← List.map_drop, hq]
  rfl
theorem add_lst {μ : Mu} {f g : Bool} {xs ys : List D} (h : xs.length + ys.length ≤ 1000) : ∃ q, binV false .Add μ (.v f (.lst xs)) (.v g (.lst ys)) = some (.v q (.lst (xs ++ ys)), μ) := by
  obtain ⟨p, hp⟩ := pack_mk f xs
  obtain ⟨q, hq⟩ := pack_mk g ys
  obtain ⟨r, hr⟩ := pack_app hp hq
  refine ⟨r, ?_⟩
  have i1 : itemsP μ (.v f (.lst xs)) = some (true, xs.map (mkT f)) := rfl
  have i2 : itemsP μ (.v g (.lst ys)) = some (true, ys.map (mkT g)) := rfl
  show (match itemsP μ (.v f (.lst xs)), itemsP μ (.v g (.lst ys)) with
    | some (true, ts), some (true, us) => if ts.length + us.length ≤ sizeLine then newL false μ (ts ++ us) else none
    | some (false, ts), some (false, us) => if ts ≠ [] ∧ us ≠ [] ∧ ts.length + us.length ≤ sizeLine then newU μ (ts ++ us) else none
    | _, _ => none) = _
  rw [i1, i2]
  simp only
  rw [if_pos (by rw [List.length_map, List.length_map]; exact lt_line h)]
  unfold newL
  rw [if_neg Bool.false_ne_true, hr]
/-- one thing put into a list -/
theorem ins_ev {Γ : Gam} {μ μ1 : Mu} {s si : Nat} {f g : Bool} {ds : List D} {d : D} {k : Nat} {gy : De} (hk : k ≤ ds.length) (hz : ds.length ≤ 100) (vs : ∀ μ, dVar s Γ μ = some (.ok (.v f (.lst ds)) μ)) (vi : ∀ μ, dVar si Γ μ = some (.ok (.v true (.int (k : Nat))) μ)) (hy : gy Γ μ = some (.ok (.v g d) μ1)) :
    ∃ q, d2 (binV false .Add) (d2 (binV false .Add) (dSl false (dVar s) none (some (dVar si))) (dLst false (aCons gy aNil))) (dSl false (dVar s) (some (dVar si)) none) Γ μ = some (.ok (.v q (.lst (ds.take k ++ d :: ds.drop k))) μ1) := by
  obtain ⟨q1, h1⟩ := sl_take (μ := μ) (f := f) hk
  obtain ⟨q2, h2⟩ := sl_drop (μ := μ1) (f := f) hk
  have x1 : dSl false (dVar s) none (some (dVar si)) Γ μ = some (.ok (.v q1 (.lst (ds.take k))) μ) := by simp only [dSl, dPart, vs, vi, bind_ok, h1, ot_some]
  have x2 : dSl false (dVar s) (some (dVar si)) none Γ μ1 = some (.ok (.v q2 (.lst (ds.drop k))) μ1) := by simp only [dSl, dPart, vs, vi, bind_ok, h2, ot_some]
  have x3 : ∃ q, dLst false (aCons gy aNil) Γ μ = some (.ok (.v q (.lst [d])) μ1) := ⟨g && true, by
    simp only [dLst, aCons, aNil, hy, bind_ok, newL, pack]
    rfl⟩
  obtain ⟨q3, x3⟩ := x3
  obtain ⟨q4, h4⟩ := add_lst (μ := μ1) (f := q1) (g := q3) (xs := ds.take k) (ys := [d]) (by rw [List.length_take, List.length_singleton]; omega)
  have y1 := d2_ev' (g := binV false .Add) x1 x3
  rw [h4] at y1
  obtain ⟨q5, h5⟩ := add_lst (μ := μ1) (f := q4) (g := q2) (xs := ds.take k ++ [d]) (ys := ds.drop k) (by rw [List.length_append, List.length_take, List.length_singleton, List.length_drop]; omega)
  have y2 := d2_ev' (g := binV false .Add) (y1.trans rfl) x2
  rw [h5] at y2
  refine ⟨q5, ?_⟩
  rw [y2, List.append_assoc]
  rfl
end Qk18

set_option Elab.async false
set_option linter.all false
set_option maxRecDepth 100000
set_option maxHeartbeats 4000000
/-! a triple with one of its names replaced -/
namespace Qk18
open PySem PySem.Spec PyProof.Rows L2 L3
theorem cut_takeA (ts : List T) (k : Nat) : cutT ts none (some (k : Int)) = ts.take k := by
  have h1 : HT.sIx ts.length 0 none = 0 := HT.sIx_none _ _
  have h2 : HT.sIx ts.length ts.length (some (k : Int)) = min k ts.length := HT.sIx_nat _ _ _
  unfold cutT
  rw [h1, h2, List.drop_zero, Nat.sub_zero]
  by_cases h : k ≤ ts.length
  · rw [Nat.min_eq_left h]
  · rw [Nat.min_eq_right (by omega), List.take_of_length_le (Nat.le_refl _), List.take_of_length_le (by omega)]
theorem sl_takeA {μ : Mu} {f : Bool} {ds : List D} (k : Nat) : ∃ q, slV false μ (.v f (.lst ds)) none (some (k : Int)) = some (.v q (.lst (ds.take k)), μ) := by
  obtain ⟨q, hq⟩ := pack_mk f (ds.take k)
  refine ⟨q, ?_⟩
  show (match items μ (.v f (.lst ds)) with
    | some (true, ts) => newL false μ (cutT ts none (some (k : Int)))
    | _ => none) = _
  rw [items_lst]
  simp only [newL]
  rw [cut_takeA, ← List.map_take, hq]
  rfl
/-- the triple with the name at a place replaced -/
def putAt (r : Str × Str × Str) (p : Int) (o : Str) : Str × Str × Str := if p = 0 then (o, r.2.1, r.2.2) else if p = 1 then (r.1, o, r.2.2) else (r.1, r.2.1, o)
theorem put_ev {Γ : Gam} {μ : Mu} {s sp so : Nat} {g : Bool} {r : Str × Str × Str} {p : Int} {o : Str} (hp : p = 0 ∨ p = 1 ∨ p = 2) (vs : ∀ μ, dVar s Γ μ = some (.ok (.v g (ruleD r)) μ)) (vp : ∀ μ, dVar sp Γ μ = some (.ok (.v true (.int p)) μ)) (vo : ∀ μ, dVar so Γ μ = some (.ok (.v true (.str o)) μ)) :
    ∃ q, d2 catTV (d2 catTV (dSlT (dVar s) none (some (dVar sp))) (dTup (aCons (dVar so) aNil))) (dSlT (dVar s) (some (d2 (binV false .Add) (dVar sp) (dAtm (.int 1)))) none) Γ μ = some (.ok (.v q (ruleD (putAt r p o))) μ) := by
  obtain ⟨x, y, z⟩ := r
  have t1 : dTup (aCons (dVar so) aNil) Γ μ = some (.ok (.v true (.tup [.str o])) μ) := by
    simp only [dTup, aCons, aNil, vo, bind_ok, newU, pack]
    rfl
  have e : ∀ s : Str, mkT g (D.str s) = .v true (.str s) := fun s => by simp [mkT, D.atom]
  have hz : ∀ n : Nat, n ≤ 10 → n ≤ sizeLine := fun n hn => by rw [sizeLine_eq]; omega
  have it : items μ (.v g (ruleD (x, y, z))) = some (false, [.v true (.str x), .v true (.str y), .v true (.str z)]) := by
    show some (false, [mkT g (.str x), mkT g (.str y), mkT g (.str z)]) = _
    rw [e, e, e]
  have p1 : ∀ k : Int, binV false .Add μ (.v true (.int k)) (.v true (.int 1)) = some (.v true (.int (k + 1)), μ) := fun k => rfl
  have add1 : d2 (binV false .Add) (dVar sp) (dAtm (.int 1)) Γ μ = some (.ok (.v true (.int (p + 1))) μ) := by
    have := d2_ev' (g := binV false .Add) (gb := dAtm (.int 1)) (tb := .v true (.int 1)) (vp μ) rfl
    rw [this, p1]
    rfl
  rcases hp with rfl | rfl | rfl
  · have a1 : slTV μ (.v g (ruleD (x, y, z))) none (some 0) = some (.v true (.tup []), μ) := by unfold slTV; rw [it]; rfl
    have a2 : slTV μ (.v g (ruleD (x, y, z))) (some (0 + 1)) none = some (.v true (.tup [.str y, .str z]), μ) := by unfold slTV; rw [it]; rfl
    have x1 : dSlT (dVar s) none (some (dVar sp)) Γ μ = some (.ok (.v true (.tup [])) μ) := by simp only [dSlT, dPart, vs, vp, bind_ok, a1, ot_some]
    have x2 : dSlT (dVar s) (some (d2 (binV false .Add) (dVar sp) (dAtm (.int 1)))) none Γ μ = some (.ok (.v true (.tup [.str y, .str z])) μ) := by simp only [dSlT, dPart, vs, add1, bind_ok, a2, ot_some]
    have b1 : catTV μ (.v true (.tup [])) (.v true (.tup [.str o])) = some (.v true (.tup [.str o]), μ) := by
      show (if 0 + 1 ≤ sizeLine then some (T.v true (.tup [.str o]), μ) else none) = _
      rw [if_pos (hz _ (by decide))]
    have b2 : catTV μ (.v true (.tup [.str o])) (.v true (.tup [.str y, .str z])) = some (.v true (.tup [.str o, .str y, .str z]), μ) := by
      show (if 1 + 2 ≤ sizeLine then some (T.v true (.tup [.str o, .str y, .str z]), μ) else none) = _
      rw [if_pos (hz _ (by decide))]
    have y1 := d2_ev' (g := catTV) x1 t1
    rw [b1] at y1
    have y2 := d2_ev' (g := catTV) (y1.trans rfl) x2
    rw [b2] at y2
    exact ⟨true, y2⟩
  · have a1 : slTV μ (.v g (ruleD (x, y, z))) none (some 1) = some (.v true (.tup [.str x]), μ) := by unfold slTV; rw [it]; rfl
    have a2 : slTV μ (.v g (ruleD (x, y, z))) (some (1 + 1)) none = some (.v true (.tup [.str z]), μ) := by unfold slTV; rw [it]; rfl
    have x1 : dSlT (dVar s) none (some (dVar sp)) Γ μ = some (.ok (.v true (.tup [.str x])) μ) := by simp only [dSlT, dPart, vs, vp, bind_ok, a1, ot_some]
    have x2 : dSlT (dVar s) (some (d2 (binV false .Add) (dVar sp) (dAtm (.int 1)))) none Γ μ = some (.ok (.v true (.tup [.str z])) μ) := by simp only [dSlT, dPart, vs, add1, bind_ok, a2, ot_some]
    have b1 : catTV μ (.v true (.tup [.str x])) (.v true (.tup [.str o])) = some (.v true (.tup [.str x, .str o]), μ) := by
      show (if 1 + 1 ≤ sizeLine then some (T.v true (.tup [.str x, .str o]), μ) else none) = _
      rw [if_pos (hz _ (by decide))]
    have b2 : catTV μ (.v true (.tup [.str x, .str o])) (.v true (.tup [.str z])) = some (.v true (.tup [.str x, .str o, .str z]), μ) := by
      show (if 2 + 1 ≤ sizeLine then some (T.v true (.tup [.str x, .str o, .str z]), μ) else none) = _
      rw [if_pos (hz _ (by decide))]
    have y1 := d2_ev' (g := catTV) x1 t1
    rw [b1] at y1
    have y2 := d2_ev' (g := catTV) (y1.trans rfl) x2
    rw [b2] at y2
    exact ⟨true, y2⟩
  · have a1 : slTV μ (.v g (ruleD (x, y, z))) none (some 2) = some (.v true (.tup [.str x, .str y]), μ) := by unfold slTV; rw [it]; rfl
    have a2 : slTV μ (.v g (ruleD (x, y, z))) (some (2 + 1)) none = some (.v true (.tup []), μ) := by unfold slTV; rw [it]; rfl
    have x1 : dSlT (dVar s) none (some (dVar sp)) Γ μ = some (.ok (.v true (.tup [.str x, .str y])) μ) := by simp only [dSlT, dPart, vs, vp, bind_ok, a1, ot_some]
    have x2 : dSlT (dVar s) (some (d2 (binV false .Add) (dVar sp) (dAtm (.int 1)))) none Γ μ = some (.ok (.v true (.tup [])) μ) := by simp only [dSlT, dPart, vs, add1, bind_ok, a2, ot_some]
    have b1 : catTV μ (.v true (.tup [.str x, .str y])) (.v true (.tup [.str o])) = some (.v true (.tup [.str x, .str y, .str o]), μ) := by
      show (if 2 + 1 ≤ sizeLine then some (T.v true (.tup [.str x, .str y, .str o]), μ) else none) = _
      rw [if_pos (hz _ (by decide))]
    have b2 : catTV μ (.v true (.tup [.str x, .str y, .str o])) (.v true (.tup [])) = some (.v true (.tup [.str x, .str y, .str o]), μ) := by
      show (if 3 + 0 ≤ sizeLine then some (T.v true (.tup [.str x, .str y, .str o]), μ) else none) = _
      rw [if_pos (hz _ (by decide))]
    have y1 := d2_ev' (g := catTV) x1 t1
    rw [b1] at y1
    have y2 := d2_ev' (g := catTV) (y1.trans rfl) x2
    rw [b2] at y2
    exact ⟨true, y2⟩
end Qk18

set_option Elab.async false
set_option linter.all false
set_option maxRecDepth 100000
set_option maxHeartbeats 4000000
/-! a plan spoilt: its names -/
namespace Qk18
open PySem PySem.Spec PyProof.Rows L2 L3
/-- what a plan keeps, turn after turn -/
structure Plan (L : Nat) (names : List Str) (rules : List (Str × Str × Str)) : Prop where
  n : ∀ s ∈ names, Txt L s
  r : ∀ r ∈ rules, Txt L r.1 ∧ Txt L r.2.1 ∧ Txt L r.2.2
  n1 : 1 ≤ names.length
  n9 : names.length ≤ 9
  r9 : rules.length ≤ 9
section
variable {names : List Str} {rules : List (Str × Str × Str)} {L : Nat}
theorem Plan.up (P : Plan L names rules) {M : Nat} (h : L ≤ M) : Plan M names rules := ⟨fun s hs => (P.n s hs).up h, fun r hr => ⟨(P.r r hr).1.up h, (P.r r hr).2.1.up h, (P.r r hr).2.2.up h⟩, P.n1, P.n9, P.r9⟩
theorem Plan.short (P : Plan L names rules) (h8 : names.length ≤ 8) (g8 : rules.length ≤ 8) (h : L ≤ 40) : Short names rules :=
  ⟨⟨fun s hs => (P.n s hs).ok, fun s hs => Nat.le_trans (P.n s hs).le (by omega), by omega⟩, ⟨fun r hr => ⟨(P.r r hr).1.ok, (P.r r hr).2.1.ok, (P.r r hr).2.2.ok⟩, by omega⟩, h8, g8, fun s hs => Nat.le_trans (P.n s hs).le h, fun r hr => ⟨Nat.le_trans (P.r r hr).1.le h, Nat.le_trans (P.r r hr).2.1.le h, Nat.le_trans (P.r r hr).2.2.le h⟩⟩
theorem Plan.take (P : Plan L names rules) : Plan L (names.take 8) (rules.take 8) :=
  ⟨fun s hs => P.n s (List.mem_of_mem_take hs), fun r hr => P.r r (List.mem_of_mem_take hr), by
    have := P.n1
    rw [List.length_take]
    omega, by rw [List.length_take]; omega, by rw [List.length_take]; omega⟩
theorem Plan.insN (P : Plan L names rules) (h8 : names.length ≤ 8) {y : Str} (hy : Txt L y) (k : Nat) : Plan L (names.take k ++ y :: names.drop k) rules := by
  refine ⟨fun s hs => ?_, P.r, ?_, ?_, P.r9⟩
  · rcases List.mem_append.mp hs with h | h
    · exact P.n s (List.mem_of_mem_take h)
    · rcases List.mem_cons.mp h with rfl | h
      · exact hy
      · exact P.n s (List.mem_of_mem_drop h)
  · rw [List.length_append, List.length_cons]
    omega
  · rw [List.length_append, List.length_cons, List.length_take, List.length_drop]
    omega
theorem Plan.insR (P : Plan L names rules) (h8 : rules.length ≤ 8) {y : Str × Str × Str} (hy : Txt L y.1 ∧ Txt L y.2.1 ∧ Txt L y.2.2) (k : Nat) : Plan L names (rules.take k ++ y :: rules.drop k) := by
  refine ⟨P.n, fun s hs => ?_, P.n1, P.n9, ?_⟩
  · rcases List.mem_append.mp hs with h | h
    · exact P.r s (List.mem_of_mem_take h)
    · rcases List.mem_cons.mp h with rfl | h
      · exact hy
      · exact P.r s (List.mem_of_mem_drop h)
  · rw [List.length_append, List.length_cons, List.length_take, List.length_drop]
    omega
theorem insN_map (k : Nat) (y : Str) : (names.map D.str).take k ++ D.str y :: (names.map D.str).drop k = (names.take k ++ y :: names.drop k).map D.str := by
  rw [List.map_append, List.map_cons, List.map_take, List.map_drop]
theorem insR_map (k : Nat) (y : Str × Str × Str) : (rules.map ruleD).take k ++ ruleD y :: (rules.map ruleD).drop k = (rules.take k ++ y :: rules.drop k).map ruleD := by
  rw [List.map_append, List.map_cons, List.map_take, List.map_drop]
theorem putAt_txt {r : Str × Str × Str} (h : Txt L r.1 ∧ Txt L r.2.1 ∧ Txt L r.2.2) {o : Str} (ho : Txt L o) (p : Int) : Txt L (putAt r p o).1 ∧ Txt L (putAt r p o).2.1 ∧ Txt L (putAt r p o).2.2 := by
  unfold putAt
  split
  · exact ⟨ho, h.2.1, h.2.2⟩
  · split
    · exact ⟨h.1, ho, h.2.2⟩
    · exact ⟨h.1, h.2.1, ho⟩
/-- the last row: at most eight of each -/
theorem last_row {Γ : Gam} {μ : Mu} {p q : Bool} (v3 : ∀ μ, dVar 3 Γ μ = some (.ok (.v p (namesD names)) μ)) (v4 : ∀ μ, dVar 4 Γ μ = some (.ok (.v q (rulesD rules)) μ)) :
    ∃ r, sRet (dTup (aCons (dSl false (dVar 3) none (some (dAtm (.int 8)))) (aCons (dSl false (dVar 4) none (some (dAtm (.int 8)))) aNil))) Γ μ = some (.rt (.v r (.tup [namesD (names.take 8), rulesD (rules.take 8)])) μ) := by
  obtain ⟨q1, h1⟩ := sl_takeA (μ := μ) (f := p) (ds := names.map D.str) 8
  obtain ⟨q2, h2⟩ := sl_takeA (μ := μ) (f := q) (ds := rules.map ruleD) 8
  rw [← List.map_take] at h1 h2
  have h1' : slV false μ (.v p (namesD names)) none (some 8) = some (.v q1 (namesD (names.take 8)), μ) := h1
  have h2' : slV false μ (.v q (rulesD rules)) none (some 8) = some (.v q2 (rulesD (rules.take 8)), μ) := h2
  have x1 : dSl false (dVar 3) none (some (dAtm (.int 8))) Γ μ = some (.ok (.v q1 (namesD (names.take 8))) μ) := by simp only [dSl, dPart, v3, dAtm, bind_ok, h1', ot_some]
  have x2 : dSl false (dVar 4) none (some (dAtm (.int 8))) Γ μ = some (.ok (.v q2 (rulesD (rules.take 8))) μ) := by simp only [dSl, dPart, v4, dAtm, bind_ok, h2', ot_some]
  refine ⟨q1 && (q2 && true), ?_⟩
  simp only [sRet, dTup, aCons, aNil, x1, x2, bind_ok, newU, pack]
  rfl
end
end Qk18

set_option Elab.async false
set_option linter.all false
set_option maxRecDepth 100000
set_option maxHeartbeats 4000000
/-! a plan spoilt: a name put in -/
namespace Qk18
open PySem PySem.Spec PyProof.Rows L2 L3
theorem call_r1v {g : List T → Mu → Ot T} {rf : List Bool} {ts us : List T} {μ : Mu} {j : Nat} {c c' : Cell} {f : Bool} {d : D} (hrf : refsOf rf ts = [j]) (ha : argsIn μ false rf ts 0 = some us) (hc : μ[j]? = some c) (hfl : c.flat = true) (h : g us [c] = some (.ok (.v f d) [c'])) (hc' : ∀ b, renC [j] b c' = c') :
    callD g false rf ts μ = some (.ok (.v f d) (μ.set j c')) := by
  unfold callD
  rw [hrf, show (if false = true then hide μ [j] else μ) = μ from rfl, ha]
  simp only [List.nodup_cons, List.not_mem_nil, not_false_eq_true, List.nodup_nil, and_self, if_true, cellsAt, hc, hfl, h, back, Bool.not_false, Bool.true_or]
  simp only [ren, List.length_cons, List.length_nil, List.take_succ_cons, List.take_zero, List.map_cons, List.map_nil, setAll, hc', List.drop_succ_cons, List.drop_zero, List.append_nil]
section
variable {names : List Str} {rules : List (Str × Str × Str)} {L : Nat}
theorem no_name_call (P : Plan L names rules) (h20 : 20 ≤ L) (h35 : L ≤ 60) (h8 : names.length ≤ 8) {Γ : Gam} {a b : Int} {f : Bool} (ok : MillOk a b) (v0 : ∀ μ, dVar 0 Γ μ = some (.ok (.m 0) μ)) (v1 : ∀ μ, dVar 1 Γ μ = some (.ok (.v f (namesD names)) μ)) :
    ∃ a' b' s, dFrz 1 (dCall d_law_no_name 2 false [true, false] (aCons (dVar 0) (aCons (dVar 1) aNil))) Γ [Mill a b] = some (.ok (.v true (.str s)) [Mill a' b']) ∧ MillOk a' b' ∧ Txt (L + 1) s := by
  obtain ⟨a', b', s, h, ok', T⟩ := no_name_ev (L := L) P.n h20 h35 P.n1 h8 ok false
  have hc := call_r1v (g := d_law_no_name) (rf := [true, false]) (ts := [.m 0, .v f (namesD names)]) (us := [.m 0, .v false (namesD names)]) (μ := [Mill a b]) (j := 0) (c := Mill a b) (c' := Mill a' b') rfl rfl rfl rfl h (fun _ => rfl)
  have hd := (dCall_ev (g := d_law_no_name) (n := 2) (live := false) (rf := [true, false]) (da := aCons (dVar 0) (aCons (dVar 1) aNil)) (Γ := Γ) (μ := [Mill a b]) (ts := [.m 0, .v f (namesD names)]) (by simp only [aCons, aNil, v0, v1, bind_ok]) rfl).trans hc
  refine ⟨a', b', s, ?_, ok', T⟩
  unfold dFrz
  rw [hd]
  rfl
theorem row0_ev (P : Plan L names rules) (h20 : 20 ≤ L) (h35 : L ≤ 60) (h8 : names.length ≤ 8) {Γ : Gam} {a b : Int} {f p : Bool} {k : Nat} (hk : k ≤ names.length) (ok : MillOk a b) (v0 : ∀ μ, dVar 0 Γ μ = some (.ok (.m 0) μ)) (v1 : ∀ μ, dVar 1 Γ μ = some (.ok (.v f (namesD names)) μ)) (v3 : ∀ μ, dVar 3 Γ μ = some (.ok (.v p (namesD names)) μ)) (v6 : ∀ μ, dVar 6 Γ μ = some (.ok (.v true (.int (k : Nat))) μ)) :
    ∃ a' b' q ns, (sSet 3 (d2 (binV false .Add) (d2 (binV false .Add) (dSl false (dVar 3) none (some (dVar 6))) (dLst false (aCons (dFrz 1 (dCall d_law_no_name 2 false [true, false] (aCons (dVar 0) (aCons (dVar 1) aNil)))) aNil))) (dSl false (dVar 3) (some (dVar 6)) none))) Γ [Mill a b] = some (.nx (Γ.set 3 (some (.v q (namesD ns)))) [Mill a' b']) ∧ MillOk a' b' ∧ Plan (L + 1) ns rules := by
  obtain ⟨a', b', s, h, ok', T⟩ := no_name_call P h20 h35 h8 ok v0 v1
  obtain ⟨q, hq⟩ := ins_ev (s := 3) (si := 6) (ds := names.map D.str) (d := .str s) (k := k) (by rw [List.length_map]; exact hk) (by rw [List.length_map]; omega) v3 v6 h
  rw [insN_map] at hq
  refine ⟨a', b', q, names.take k ++ s :: names.drop k, ?_, ok', (P.up (Nat.le_succ L)).insN h8 T k⟩
  unfold sSet
  rw [hq]
  rfl
theorem row1_ev (P : Plan L names rules) (h8 : names.length ≤ 8) {Γ : Gam} {a b : Int} {f p : Bool} {k : Nat} (hk : k ≤ names.length) (ok : MillOk a b) (v0 : ∀ μ, dVar 0 Γ μ = some (.ok (.m 0) μ)) (v1 : ∀ μ, dVar 1 Γ μ = some (.ok (.v f (namesD names)) μ)) (v3 : ∀ μ, dVar 3 Γ μ = some (.ok (.v p (namesD names)) μ)) (v6 : ∀ μ, dVar 6 Γ μ = some (.ok (.v true (.int (k : Nat))) μ)) :
    ∃ a' b' q ns, (sSet 3 (d2 (binV false .Add) (d2 (binV false .Add) (dSl false (dVar 3) none (some (dVar 6))) (dLst false (aCons (d2 ixV (dVar 1) (dCall d_law_grind 2 false [true, false] (aCons (dVar 0) (aCons (dBi lenV (aCons (dVar 1) aNil)) aNil)))) aNil))) (dSl false (dVar 3) (some (dVar 6)) none))) Γ [Mill a b] = some (.nx (Γ.set 3 (some (.v q (namesD ns)))) [Mill a' b']) ∧ MillOk a' b' ∧ Plan (L + 1) ns rules := by
  have hlenN : ∀ μ, lenV μ [.v f (namesD names)] = some (.v true (.int (names.length : Nat)), μ) := fun μ => by simp [lenV, namesD]
  obtain ⟨j, a', b', g, ok', p0, q0⟩ := grind_at (Γ := Γ) (gn := dBi lenV (aCons (dVar 1) aNil)) (n := names.length) (fn := true) v0 (fun μ => by
    simp only [dBi, aCons, aNil, v1, bind_ok, hlenN, ot_some]) ok P.n1 (by omega)
  have hj : j.toNat < names.length := by omega
  have hx : d2 ixV (dVar 1) (dCall d_law_grind 2 false [true, false] (aCons (dVar 0) (aCons (dBi lenV (aCons (dVar 1) aNil)) aNil))) Γ [Mill a b] = some (.ok (.v true (.str (names.getD j.toNat ""))) [Mill a' b']) := by
    have := d2_ev' (g := ixV) (v1 [Mill a b]) g
    rw [this, names_at p0 hj]
    rfl
  obtain ⟨q, hq⟩ := ins_ev (s := 3) (si := 6) (ds := names.map D.str) (d := .str (names.getD j.toNat "")) (k := k) (by rw [List.length_map]; exact hk) (by rw [List.length_map]; omega) v3 v6 hx
  rw [insN_map] at hq
  refine ⟨a', b', q, _, ?_, ok', (P.up (Nat.le_succ L)).insN h8 ((P.n _ (getD_mem hj)).up (Nat.le_succ L)) k⟩
  unfold sSet
  rw [hq]
  rfl
end
end Qk18

set_option Elab.async false
set_option linter.all false
set_option maxRecDepth 100000
set_option maxHeartbeats 4000000
/-! a plan spoilt: a rule put in -/
namespace Qk18
open PySem PySem.Spec PyProof.Rows L2 L3
section
variable {names : List Str} {rules : List (Str × Str × Str)} {L : Nat}
theorem txt_zz : Txt 2 "zz" ∧ Txt 2 "" ∧ Txt 2 "A" ∧ Txt 1 "q" := ⟨⟨by decide +kernel, by decide +kernel⟩, ⟨by decide +kernel, by decide +kernel⟩, ⟨by decide +kernel, by decide +kernel⟩, ⟨by decide +kernel, by decide +kernel⟩⟩
/-- way 2: one name of the rule replaced -/
theorem way2_ev (P : Plan L names rules) (h20 : 20 ≤ L) (h35 : L ≤ 60) {a b : Int} {f g p q h : Bool} {way : Int} {r : Str × Str × Str} {t2 t3 t4 t6 t7 t9 t10 : Option T} (hr : Txt L r.1 ∧ Txt L r.2.1 ∧ Txt L r.2.2) (ok : MillOk a b) :
    ∃ a' b' q' r' u9 u10, (Txt (L + 1) r'.1 ∧ Txt (L + 1) r'.2.1 ∧ Txt (L + 1) r'.2.2) ∧ MillOk a' b' ∧ sSeq (sPar 9 10 (aCons (dCall d_law_grind 2 false [true, false] (aCons (dVar 0) (aCons (dAtm (.int 3)) aNil))) (aCons (d2 ixV (dLst false (aCons (dAtm (.str "zz")) (aCons (dAtm (.str "")) (aCons (dAtm (.str "A")) (aCons (d2 (binV false .Add) (d2 ixV (dVar 1) (dAtm (.int 0))) (dAtm (.str "q"))) aNil))))) (dCall d_law_grind 2 false [true, false] (aCons (dVar 0) (aCons (dAtm (.int 4)) aNil)))) aNil))) (sSet 8 (d2 catTV (d2 catTV (dSlT (dVar 8) none (some (dVar 9))) (dTup (aCons (dVar 10) aNil))) (dSlT (dVar 8) (some (d2 (binV false .Add) (dVar 9) (dAtm (.int 1)))) none))) [some (.m 0), some (.v f (namesD names)), t2, t3, t4, some (.v h (.int way)), t6, t7, some (.v g (ruleD r)), t9, t10] [Mill a b] = some (.nx [some (.m 0), some (.v f (namesD names)), t2, t3, t4, some (.v h (.int way)), t6, t7, some (.v q' (ruleD r')), u9, u10] [Mill a' b']) := by
  let Γ : Gam := [some (.m 0), some (.v f (namesD names)), t2, t3, t4, some (.v h (.int way)), t6, t7, some (.v g (ruleD r)), t9, t10]
  obtain ⟨k1, a1, b1, g1, ok1, p1, q1⟩ := grind_at (Γ := Γ) (gn := dAtm (.int 3)) (n := 3) (fn := true) (fun _ => rfl) (fun μ => rfl) ok (by decide) (by decide)
  obtain ⟨k2, a2, b2, g2, ok2, p2, q2⟩ := grind_at (Γ := Γ) (gn := dAtm (.int 4)) (n := 4) (fn := true) (fun _ => rfl) (fun μ => rfl) ok1 (by decide) (by decide)
  have n0 : (0 : Int).toNat < names.length := P.n1
  have T0 := P.n _ (getD_mem n0)
  have hn0 : ∀ μ, d2 ixV (dVar 1) (dAtm (.int 0)) Γ μ = some (.ok (.v true (.str (names.getD (0 : Int).toNat ""))) μ) := fun μ => by
    have := d2_ev' (g := ixV) (ga := dVar 1) (gb := dAtm (.int 0)) (Γ := Γ) (μ := μ) (ta := .v f (namesD names)) (tb := .v true (.int 0)) rfl rfl
    rw [this, names_at (Int.le_refl 0) n0]
    rfl
  generalize names.getD (0 : Int).toNat "" = nm at hn0 T0
  have hq : ∀ μ, d2 (binV false .Add) (d2 ixV (dVar 1) (dAtm (.int 0))) (dAtm (.str "q")) Γ μ = some (.ok (.v true (.str (nm ++ "q"))) μ) := fun μ => by
    have := d2_ev' (g := binV false .Add) (gb := dAtm (.str "q")) (tb := .v true (.str "q")) (hn0 μ) rfl
    rw [this, add_txt T0 txt_zz.2.2.2 (by omega)]
    rfl
  have hl : ∀ μ, dLst false (aCons (dAtm (.str "zz")) (aCons (dAtm (.str "")) (aCons (dAtm (.str "A")) (aCons (d2 (binV false .Add) (d2 ixV (dVar 1) (dAtm (.int 0))) (dAtm (.str "q"))) aNil)))) Γ μ = some (.ok (.v true (.lst [.str "zz", .str "", .str "A", .str (nm ++ "q")])) μ) := fun μ => by
    have hqq := hq μ
    generalize d2 (binV false .Add) (d2 ixV (dVar 1) (dAtm (.int 0))) (dAtm (.str "q")) = gq at hqq ⊢
    simp only [dLst, aCons, aNil, dAtm, hqq, bind_ok, newL, pack]
    rfl
  have ho : ∃ o, Txt (L + 1) o ∧ ixV [Mill a2 b2] (.v true (.lst [.str "zz", .str "", .str "A", .str (nm ++ "q")])) (.v true (.int k2)) = some (.v true (.str o), [Mill a2 b2]) := by
    have : k2 = 0 ∨ k2 = 1 ∨ k2 = 2 ∨ k2 = 3 := by omega
    rcases this with rfl | rfl | rfl | rfl
    · exact ⟨"zz", txt_zz.1.up (by omega), rfl⟩
    · exact ⟨"", txt_zz.2.1.up (by omega), rfl⟩
    · exact ⟨"A", txt_zz.2.2.1.up (by omega), rfl⟩
    · exact ⟨nm ++ "q", txt_app T0 txt_zz.2.2.2, rfl⟩
  obtain ⟨o, To, ho⟩ := ho
  have hx := d2_ev' (g := ixV) (hl [Mill a1 b1]) g2
  rw [ho] at hx
  let Γ2 : Gam := [some (.m 0), some (.v f (namesD names)), t2, t3, t4, some (.v h (.int way)), t6, t7, some (.v g (ruleD r)), some (.v true (.int k1)), some (.v true (.str o))]
  have hp : (sPar 9 10 (aCons (dCall d_law_grind 2 false [true, false] (aCons (dVar 0) (aCons (dAtm (.int 3)) aNil))) (aCons (d2 ixV (dLst false (aCons (dAtm (.str "zz")) (aCons (dAtm (.str "")) (aCons (dAtm (.str "A")) (aCons (d2 (binV false .Add) (d2 ixV (dVar 1) (dAtm (.int 0))) (dAtm (.str "q"))) aNil))))) (dCall d_law_grind 2 false [true, false] (aCons (dVar 0) (aCons (dAtm (.int 4)) aNil)))) aNil))) Γ [Mill a b] = some (.nx Γ2 [Mill a2 b2]) := by
    have hx' := hx.trans (ot_some _ _)
    generalize d2 ixV (dLst false (aCons (dAtm (.str "zz")) (aCons (dAtm (.str "")) (aCons (dAtm (.str "A")) (aCons (d2 (binV false .Add) (d2 ixV (dVar 1) (dAtm (.int 0))) (dAtm (.str "q"))) aNil))))) (dCall d_law_grind 2 false [true, false] (aCons (dVar 0) (aCons (dAtm (.int 4)) aNil))) = gx at hx' ⊢
    generalize dCall d_law_grind 2 false [true, false] (aCons (dVar 0) (aCons (dAtm (.int 3)) aNil)) = g3 at g1 ⊢
    simp only [sPar, aCons, aNil, g1, hx', bind_ok, bindS_ok]
    rfl
  obtain ⟨q', hput⟩ := put_ev (Γ := Γ2) (μ := [Mill a2 b2]) (s := 8) (sp := 9) (so := 10) (g := g) (r := r) (p := k1) (o := o) (by omega) (fun _ => rfl) (fun _ => rfl) (fun _ => rfl)
  refine ⟨a2, b2, q', putAt r k1 o, some (.v true (.int k1)), some (.v true (.str o)), putAt_txt ⟨hr.1.up (Nat.le_succ L), hr.2.1.up (Nat.le_succ L), hr.2.2.up (Nat.le_succ L)⟩ To k1, ok2, ?_⟩
  show sSeq _ _ Γ _ = _
  rw [seq_nx hp]
  unfold sSet
  rw [hput]
  rfl
end
end Qk18

set_option Elab.async false
set_option linter.all false
set_option maxRecDepth 100000
set_option maxHeartbeats 4000000
/-! a plan spoilt: a rule put in, whole -/
namespace Qk18
open PySem PySem.Spec PyProof.Rows L2 L3
section
variable {names : List Str} {rules : List (Str × Str × Str)} {L : Nat}
theorem wayIs {Γ : Gam} {μ : Mu} {h : Bool} {way n : Int} (v5 : ∀ μ, dVar 5 Γ μ = some (.ok (.v h (.int way)) μ)) : bOf (d2 (cmpVt .Eq) (dVar 5) (dAtm (.int n))) Γ μ = some (.ok (decide (way = n)) μ) := by
  simp only [bOf, d2, v5, bind_ok, dAtm, cmpVt, cmpV, eqT_int, Option.map_some, ot_some]
theorem rules_ix {μ : Mu} {q g : Bool} {k : Int} (h0 : 0 ≤ k) (hk : k.toNat < rules.length) : ixV μ (.v q (rulesD rules)) (.v g (.int k)) = some (.v q (ruleD rules[k.toNat]), μ) := by
  have e : ixV μ (.v q (rulesD rules)) (.v g (.int k)) = match items μ (.v q (.lst (rules.map ruleD))) with
      | some (_, ts) => match atI ts k with
        | some t => some (t, μ)
        | none => none
      | none => none := rfl
  rw [e, items_lst]
  have ha : atI ((rules.map ruleD).map (mkT q)) k = some (.v q (ruleD rules[k.toNat])) := by
    unfold atI ixN
    rw [if_pos h0, if_pos (by rw [List.length_map, List.length_map]; omega)]
    show ((rules.map ruleD).map (mkT q))[k.toNat]? = _
    rw [List.getElem?_map, List.getElem?_map, List.getElem?_eq_getElem hk]
    simp [mkR]
  simp only
  rw [ha]
theorem rows_ev (P : Plan L names rules) (h20 : 20 ≤ L) (h35 : L ≤ 60) (g8 : rules.length ≤ 8) (hne : 1 ≤ rules.length) {a b : Int} {f g p q h : Bool} {way : Int} {t6 t7 t8 t9 t10 : Option T} (ok : MillOk a b) :
    ∃ a' b' q' rs u6 u7 u8 u9 u10, (sSeq (sSet 7 (dCall d_law_grind 2 false [true, false] (aCons (dVar 0) (aCons (dBi lenV (aCons (dVar 4) aNil)) aNil)))) (sSeq (sPar 8 6 (aCons (d2 ixV (dVar 4) (dVar 7)) (aCons (dCall d_law_grind 2 false [true, false] (aCons (dVar 0) (aCons (d2 (binV false .Add) (dBi lenV (aCons (dVar 4) aNil)) (dAtm (.int 1))) aNil))) aNil))) (sSeq (sIf (bOf (d2 (cmpVt .Eq) (dVar 5) (dAtm (.int 2)))) (sSeq (sPar 9 10 (aCons (dCall d_law_grind 2 false [true, false] (aCons (dVar 0) (aCons (dAtm (.int 3)) aNil))) (aCons (d2 ixV (dLst false (aCons (dAtm (.str "zz")) (aCons (dAtm (.str "")) (aCons (dAtm (.str "A")) (aCons (d2 (binV false .Add) (d2 ixV (dVar 1) (dAtm (.int 0))) (dAtm (.str "q"))) aNil))))) (dCall d_law_grind 2 false [true, false] (aCons (dVar 0) (aCons (dAtm (.int 4)) aNil)))) aNil))) (sSet 8 (d2 catTV (d2 catTV (dSlT (dVar 8) none (some (dVar 9))) (dTup (aCons (dVar 10) aNil))) (dSlT (dVar 8) (some (d2 (binV false .Add) (dVar 9) (dAtm (.int 1)))) none)))) L3.sNil) (sSeq (sIf (bOf (d2 (cmpVt .Eq) (dVar 5) (dAtm (.int 3)))) (sSet 8 (dTup (aCons (d2 ixV (dVar 8) (dAtm (.int 0))) (aCons (d2 ixV (dVar 8) (dAtm (.int 1))) (aCons (d2 ixV (dVar 8) (dAtm (.int 0))) aNil))))) L3.sNil) (sSet 4 (d2 (binV false .Add) (d2 (binV false .Add) (dSl false (dVar 4) none (some (dVar 6))) (dLst false (aCons (dVar 8) aNil))) (dSl false (dVar 4) (some (dVar 6)) none))))))) [some (.m 0), some (.v f (namesD names)), some (.v g (rulesD rules)), some (.v p (namesD names)), some (.v q (rulesD rules)), some (.v h (.int way)), t6, t7, t8, t9, t10] [Mill a b] = some (.nx [some (.m 0), some (.v f (namesD names)), some (.v g (rulesD rules)), some (.v p (namesD names)), some (.v q' (rulesD rs)), some (.v h (.int way)), u6, u7, u8, u9, u10] [Mill a' b']) ∧ MillOk a' b' ∧ Plan (L + 1) names rs := by
  let Γ : Gam := [some (.m 0), some (.v f (namesD names)), some (.v g (rulesD rules)), some (.v p (namesD names)), some (.v q (rulesD rules)), some (.v h (.int way)), t6, t7, t8, t9, t10]
  have hlen : ∀ μ, lenV μ [.v q (rulesD rules)] = some (.v true (.int (rules.length : Nat)), μ) := fun μ => by simp [lenV, rulesD]
  obtain ⟨k7, a1, b1, g1, ok1, p1, q1⟩ := grind_at (Γ := Γ) (gn := dBi lenV (aCons (dVar 4) aNil)) (n := rules.length) (fn := true) (fun _ => rfl) (fun μ => by
    have v4 : ∀ μ, dVar 4 Γ μ = some (.ok (.v q (rulesD rules)) μ) := fun _ => rfl
    simp only [dBi, aCons, aNil, v4, bind_ok, hlen, ot_some]) ok hne (by omega)
  let Γ1 : Gam := [some (.m 0), some (.v f (namesD names)), some (.v g (rulesD rules)), some (.v p (namesD names)), some (.v q (rulesD rules)), some (.v h (.int way)), t6, some (.v true (.int k7)), t8, t9, t10]
  have s7 : (sSet 7 (dCall d_law_grind 2 false [true, false] (aCons (dVar 0) (aCons (dBi lenV (aCons (dVar 4) aNil)) aNil)))) Γ [Mill a b] = some (.nx Γ1 [Mill a1 b1]) := by
    unfold sSet
    rw [g1]
    rfl
  have hk7 : k7.toNat < rules.length := by omega
  have hr := P.r _ (List.getElem_mem hk7)
  have hix : ∀ μ, d2 ixV (dVar 4) (dVar 7) Γ1 μ = some (.ok (.v q (ruleD rules[k7.toNat])) μ) := fun μ => by
    have := d2_ev' (g := ixV) (ga := dVar 4) (gb := dVar 7) (Γ := Γ1) (μ := μ) (ta := .v q (rulesD rules)) (tb := .v true (.int k7)) rfl rfl
    rw [this, rules_ix p1 hk7]
    rfl
  generalize rules[k7.toNat] = r at hr hix
  obtain ⟨k6, a2, b2, g2, ok2, p2, q2⟩ := grind_at (Γ := Γ1) (gn := d2 (binV false .Add) (dBi lenV (aCons (dVar 4) aNil)) (dAtm (.int 1))) (n := rules.length + 1) (fn := true) (fun _ => rfl) (fun μ => by
    have v4 : ∀ μ, dVar 4 Γ1 μ = some (.ok (.v q (rulesD rules)) μ) := fun _ => rfl
    simp only [d2, dBi, aCons, aNil, v4, bind_ok, hlen, ot_some, dAtm]
    rfl) ok1 (by omega) (by omega)
  obtain ⟨n6, rfl⟩ : ∃ n : Nat, k6 = (n : Int) := ⟨k6.toNat, by omega⟩
  let Γ2 : Gam := [some (.m 0), some (.v f (namesD names)), some (.v g (rulesD rules)), some (.v p (namesD names)), some (.v q (rulesD rules)), some (.v h (.int way)), some (.v true (.int (n6 : Nat))), some (.v true (.int k7)), some (.v q (ruleD r)), t9, t10]
  have s86 : (sPar 8 6 (aCons (d2 ixV (dVar 4) (dVar 7)) (aCons (dCall d_law_grind 2 false [true, false] (aCons (dVar 0) (aCons (d2 (binV false .Add) (dBi lenV (aCons (dVar 4) aNil)) (dAtm (.int 1))) aNil))) aNil))) Γ1 [Mill a1 b1] = some (.nx Γ2 [Mill a2 b2]) := by
    have hi := hix [Mill a1 b1]
    generalize d2 ixV (dVar 4) (dVar 7) = gi at hi ⊢
    generalize dCall d_law_grind 2 false [true, false] (aCons (dVar 0) (aCons (d2 (binV false .Add) (dBi lenV (aCons (dVar 4) aNil)) (dAtm (.int 1))) aNil)) = gg at g2 ⊢
    simp only [sPar, aCons, aNil, hi, g2, bind_ok, bindS_ok]
    rfl
  have hw2 : ∃ a3 b3 q3 r3 u9 u10, (Txt (L + 1) r3.1 ∧ Txt (L + 1) r3.2.1 ∧ Txt (L + 1) r3.2.2) ∧ MillOk a3 b3 ∧ (sIf (bOf (d2 (cmpVt .Eq) (dVar 5) (dAtm (.int 2)))) (sSeq (sPar 9 10 (aCons (dCall d_law_grind 2 false [true, false] (aCons (dVar 0) (aCons (dAtm (.int 3)) aNil))) (aCons (d2 ixV (dLst false (aCons (dAtm (.str "zz")) (aCons (dAtm (.str "")) (aCons (dAtm (.str "A")) (aCons (d2 (binV false .Add) (d2 ixV (dVar 1) (dAtm (.int 0))) (dAtm (.str "q"))) aNil))))) (dCall d_law_grind 2 false [true, false] (aCons (dVar 0) (aCons (dAtm (.int 4)) aNil)))) aNil))) (sSet 8 (d2 catTV (d2 catTV (dSlT (dVar 8) none (some (dVar 9))) (dTup (aCons (dVar 10) aNil))) (dSlT (dVar 8) (some (d2 (binV false .Add) (dVar 9) (dAtm (.int 1)))) none)))) L3.sNil) Γ2 [Mill a2 b2] = some (.nx [some (.m 0), some (.v f (namesD names)), some (.v g (rulesD rules)), some (.v p (namesD names)), some (.v q (rulesD rules)), some (.v h (.int way)), some (.v true (.int (n6 : Nat))), some (.v true (.int k7)), some (.v q3 (ruleD r3)), u9, u10] [Mill a3 b3]) := by
    have hc := wayIs (Γ := Γ2) (μ := [Mill a2 b2]) (h := h) (way := way) (n := 2) (fun _ => rfl)
    by_cases hz : way = 2
    · obtain ⟨a3, b3, q3, r3, u9, u10, T3, ok3, e⟩ := way2_ev (f := f) (g := q) (p := p) (q := q) (h := h) (way := way) (t2 := some (.v g (rulesD rules))) (t3 := some (.v p (namesD names))) (t4 := some (.v q (rulesD rules))) (t6 := some (.v true (.int (n6 : Nat)))) (t7 := some (.v true (.int k7))) (t9 := t9) (t10 := t10) P h20 h35 hr ok2
      refine ⟨a3, b3, q3, r3, u9, u10, T3, ok3, ?_⟩
      unfold sIf
      rw [hc, decide_eq_true hz]
      exact e
    · refine ⟨a2, b2, q, r, t9, t10, ⟨hr.1.up (Nat.le_succ L), hr.2.1.up (Nat.le_succ L), hr.2.2.up (Nat.le_succ L)⟩, ok2, ?_⟩
      unfold sIf
      rw [hc, decide_eq_false hz]
      rfl
  obtain ⟨a3, b3, q3, r3, u9, u10, T3, ok3, e2⟩ := hw2
  have hw3 : ∃ q4 r4, (Txt (L + 1) r4.1 ∧ Txt (L + 1) r4.2.1 ∧ Txt (L + 1) r4.2.2) ∧ (sIf (bOf (d2 (cmpVt .Eq) (dVar 5) (dAtm (.int 3)))) (sSet 8 (dTup (aCons (d2 ixV (dVar 8) (dAtm (.int 0))) (aCons (d2 ixV (dVar 8) (dAtm (.int 1))) (aCons (d2 ixV (dVar 8) (dAtm (.int 0))) aNil))))) L3.sNil) [some (.m 0), some (.v f (namesD names)), some (.v g (rulesD rules)), some (.v p (namesD names)), some (.v q (rulesD rules)), some (.v h (.int way)), some (.v true (.int (n6 : Nat))), some (.v true (.int k7)), some (.v q3 (ruleD r3)), u9, u10] [Mill a3 b3] = some (.nx [some (.m 0), some (.v f (namesD names)), some (.v g (rulesD rules)), some (.v p (namesD names)), some (.v q (rulesD rules)), some (.v h (.int way)), some (.v true (.int (n6 : Nat))), some (.v true (.int k7)), some (.v q4 (ruleD r4)), u9, u10] [Mill a3 b3]) := by
    let Γ3 : Gam := [some (.m 0), some (.v f (namesD names)), some (.v g (rulesD rules)), some (.v p (namesD names)), some (.v q (rulesD rules)), some (.v h (.int way)), some (.v true (.int (n6 : Nat))), some (.v true (.int k7)), some (.v q3 (ruleD r3)), u9, u10]
    have hc := wayIs (Γ := Γ3) (μ := [Mill a3 b3]) (h := h) (way := way) (n := 3) (fun _ => rfl)
    by_cases hz : way = 3
    · refine ⟨true, (r3.1, r3.2.1, r3.1), ⟨T3.1, T3.2.1, T3.1⟩, ?_⟩
      have mk : ∀ s : Str, mkT q3 (D.str s) = .v true (.str s) := fun s => by simp [mkT, D.atom]
      have i0 : ∀ μ, d2 ixV (dVar 8) (dAtm (.int 0)) Γ3 μ = some (.ok (.v true (.str r3.1)) μ) := fun μ => by
        rw [← mk]
        rfl
      have i1 : ∀ μ, d2 ixV (dVar 8) (dAtm (.int 1)) Γ3 μ = some (.ok (.v true (.str r3.2.1)) μ) := fun μ => by
        rw [← mk]
        rfl
      unfold sIf
      show Ot.bindS (bOf _ Γ3 _) Γ3 _ = _
      rw [hc, decide_eq_true hz]
      simp only [bindS_ok, if_true]
      show sSet 8 _ Γ3 _ = _
      generalize d2 ixV (dVar 8) (dAtm (.int 0)) = ga at i0 ⊢
      generalize d2 ixV (dVar 8) (dAtm (.int 1)) = gb at i1 ⊢
      simp only [sSet, dTup, aCons, aNil, i0, i1, bind_ok, newU, pack, Bool.and_self]
      rfl
    · refine ⟨q3, r3, T3, ?_⟩
      unfold sIf
      show Ot.bindS (bOf _ Γ3 _) Γ3 _ = _
      rw [hc, decide_eq_false hz]
      rfl
  obtain ⟨q4, r4, T4, e3⟩ := hw3
  let Γ4 : Gam := [some (.m 0), some (.v f (namesD names)), some (.v g (rulesD rules)), some (.v p (namesD names)), some (.v q (rulesD rules)), some (.v h (.int way)), some (.v true (.int (n6 : Nat))), some (.v true (.int k7)), some (.v q4 (ruleD r4)), u9, u10]
  obtain ⟨q5, h5⟩ := ins_ev (Γ := Γ4) (μ := [Mill a3 b3]) (μ1 := [Mill a3 b3]) (s := 4) (si := 6) (f := q) (g := q4) (ds := rules.map ruleD) (d := ruleD r4) (k := n6) (gy := dVar 8) (by rw [List.length_map]; omega) (by rw [List.length_map]; omega) (fun _ => rfl) (fun _ => rfl) rfl
  rw [insR_map] at h5
  refine ⟨a3, b3, q5, rules.take n6 ++ r4 :: rules.drop n6, some (.v true (.int (n6 : Nat))), some (.v true (.int k7)), some (.v q4 (ruleD r4)), u9, u10, ?_, ok3, (P.up (Nat.le_succ L)).insR g8 T4 n6⟩
  rw [seq_nx s7, seq_nx s86, seq_nx e2, seq_nx e3]
  show sSet 4 _ Γ4 _ = _
  unfold sSet
  rw [h5]
  rfl
end
end Qk18

set_option Elab.async false
set_option linter.all false
set_option maxRecDepth 100000
set_option maxHeartbeats 4000000
/-! a plan spoilt, whole -/
namespace Qk18
open PySem PySem.Spec PyProof.Rows L2 L3
theorem list_names {μ : Mu} (f : Bool) (names : List Str) : listV false μ [.v f (namesD names)] = some (.v true (namesD names), μ) := by
  have hp1 : pack ((names.map D.str).map (mkT f)) = some (true, names.map D.str) := by
    have := pack_map names D.str
    simp only [List.map_map]
    rw [show (mkT f ∘ D.str) = fun x => T.v true (D.str x) from funext fun x => by simp]
    exact this
  simp only [listV, namesD, items_lst, newL, hp1]
  rfl
theorem list_rules {μ : Mu} (f : Bool) (rules : List (Str × Str × Str)) : ∃ q, listV false μ [.v f (rulesD rules)] = some (.v q (rulesD rules), μ) := by
  have mkR : ∀ r, mkT f (ruleD r) = .v f (ruleD r) := fun r => by simp [mkT, ruleD, D.atom]
  have hp : ∃ q, pack ((rules.map ruleD).map (mkT f)) = some (q, rules.map ruleD) := by
    induction rules with
    | nil => exact ⟨true, rfl⟩
    | cons x l ih =>
      obtain ⟨q, hq⟩ := ih
      exact ⟨f && q, by simp only [List.map_cons, mkR, pack, hq]⟩
  obtain ⟨q, hp⟩ := hp
  refine ⟨q, ?_⟩
  simp only [listV, rulesD, items_lst, newL, hp]
  rfl

section
variable {names : List Str} {rules : List (Str × Str × Str)} {L : Nat}
theorem if_then {c : Db} {x y : Ds} {Γ : Gam} {μ : Mu} (h : c Γ μ = some (.ok true μ)) : sIf c x y Γ μ = x Γ μ := by
  unfold sIf
  rw [h]
  rfl
theorem if_else {c : Db} {x y : Ds} {Γ : Gam} {μ : Mu} (h : c Γ μ = some (.ok false μ)) : sIf c x y Γ μ = y Γ μ := by
  unfold sIf
  rw [h]
  rfl
theorem eq_nil_rules {μ : Mu} {f g : Bool} (hl : ∀ r ∈ rules, RuleOk r) : L3.eqT μ (.v f (rulesD rules)) (.v g (.lst [])) = some rules.isEmpty := by
  have h3 : D.py (.lst (rules.map ruleD)) = some (.list (rules.map rulePy)) := by simp [D.py, pys_rules]
  have h4 : D.py (.lst []) = some (.list []) := by simp [D.py, D.pys]
  have s1 : SeqAt.shaped (.list (rules.map rulePy)) = true := by
    have := depth_rules rules
    simp [SeqAt.shaped, PyData.canLay0, lay_rules rules hl, PyData.depth]
    omega
  have s2 : SeqAt.shaped (.list []) = true := by simp [SeqAt.shaped, PyData.canLay0, PyData.canLayAll0, PyData.depth, PyData.depthAll]
  show L3.eqD (.lst (rules.map ruleD)) _ = _
  simp only [L3.eqD, h3, h4, s1, s2, Bool.and_self, if_true]
  cases rules with
  | nil => rfl
  | cons x r => simp [PyData.eqv, PyData.eqvAll]
theorem spoilt_ev (P : Plan L names rules) (h20 : 20 ≤ L) (h35 : L ≤ 60) (h8 : names.length ≤ 8) (g8 : rules.length ≤ 8) {a b : Int} {f g : Bool} (ok : MillOk a b) :
    ∃ a' b' q ns rs, d_law_spoilt [.m 0, .v f (namesD names), .v g (rulesD rules)] [Mill a b] = some (.ok (.v q (.tup [namesD ns, rulesD rs])) [Mill a' b']) ∧ MillOk a' b' ∧ Plan (L + 1) ns rs ∧ ns.length ≤ 8 ∧ rs.length ≤ 8 := by
  let Γ0 : Gam := [some (.m 0), some (.v f (namesD names)), some (.v g (rulesD rules)), none, none, none, none, none, none, none, none]
  obtain ⟨q4, hq4⟩ := list_rules (μ := [Mill a b]) g rules
  have hn3 := list_names (μ := [Mill a b]) f names
  obtain ⟨way, a1, b1, g1, ok1, p1, q1⟩ := grind_at (Γ := Γ0) (gn := dAtm (.int 5)) (n := 5) (fn := true) (fun _ => rfl) (fun μ => rfl) ok (by decide) (by decide)
  let Γ1 : Gam := [some (.m 0), some (.v f (namesD names)), some (.v g (rulesD rules)), some (.v true (namesD names)), some (.v q4 (rulesD rules)), some (.v true (.int way)), none, none, none, none, none]
  have s1 : (sPar3 3 4 5 (aCons (dBi (listV false) (aCons (dVar 1) aNil)) (aCons (dBi (listV false) (aCons (dVar 2) aNil)) (aCons (dCall d_law_grind 2 false [true, false] (aCons (dVar 0) (aCons (dAtm (.int 5)) aNil))) aNil)))) Γ0 [Mill a b] = some (.nx Γ1 [Mill a1 b1]) := by
    have v1 : ∀ μ, dVar 1 Γ0 μ = some (.ok (.v f (namesD names)) μ) := fun _ => rfl
    have v2 : ∀ μ, dVar 2 Γ0 μ = some (.ok (.v g (rulesD rules)) μ) := fun _ => rfl
    generalize dCall d_law_grind 2 false [true, false] (aCons (dVar 0) (aCons (dAtm (.int 5)) aNil)) = gg at g1 ⊢
    simp only [sPar3, aCons, aNil, dBi, v1, v2, bind_ok, hn3, hq4, ot_some, g1, bindS_ok]
    rfl
  have hlen : ∀ μ, lenV μ [.v true (namesD names)] = some (.v true (.int (names.length : Nat)), μ) := fun μ => by simp [lenV, namesD]
  obtain ⟨k6, a2, b2, g2, ok2, p2, q2⟩ := grind_at (Γ := Γ1) (gn := d2 (binV false .Add) (dBi lenV (aCons (dVar 3) aNil)) (dAtm (.int 1))) (n := names.length + 1) (fn := true) (fun _ => rfl) (fun μ => by
    have v3 : ∀ μ, dVar 3 Γ1 μ = some (.ok (.v true (namesD names)) μ) := fun _ => rfl
    simp only [d2, dBi, aCons, aNil, v3, bind_ok, hlen, ot_some, dAtm]
    rfl) ok1 (by omega) (by omega)
  obtain ⟨n6, rfl⟩ : ∃ n : Nat, k6 = (n : Int) := ⟨k6.toNat, by omega⟩
  let Γ2 : Gam := [some (.m 0), some (.v f (namesD names)), some (.v g (rulesD rules)), some (.v true (namesD names)), some (.v q4 (rulesD rules)), some (.v true (.int way)), some (.v true (.int (n6 : Nat))), none, none, none, none]
  have s2 : (sSet 6 (dCall d_law_grind 2 false [true, false] (aCons (dVar 0) (aCons (d2 (binV false .Add) (dBi lenV (aCons (dVar 3) aNil)) (dAtm (.int 1))) aNil)))) Γ1 [Mill a1 b1] = some (.nx Γ2 [Mill a2 b2]) := by
    unfold sSet
    rw [g2]
    rfl
  have hk : n6 ≤ names.length := by omega
  have hmid : ∃ a3 b3 p3 q3 ns rs Γ3, (sIf (bOf (d2 (cmpVt .Eq) (dVar 5) (dAtm (.int 0)))) (sSet 3 (d2 (binV false .Add) (d2 (binV false .Add) (dSl false (dVar 3) none (some (dVar 6))) (dLst false (aCons (dFrz 1 (dCall d_law_no_name 2 false [true, false] (aCons (dVar 0) (aCons (dVar 1) aNil)))) aNil))) (dSl false (dVar 3) (some (dVar 6)) none))) (sIf (bOf (d2 (cmpVt .Eq) (dVar 5) (dAtm (.int 1)))) (sSet 3 (d2 (binV false .Add) (d2 (binV false .Add) (dSl false (dVar 3) none (some (dVar 6))) (dLst false (aCons (d2 ixV (dVar 1) (dCall d_law_grind 2 false [true, false] (aCons (dVar 0) (aCons (dBi lenV (aCons (dVar 1) aNil)) aNil)))) aNil))) (dSl false (dVar 3) (some (dVar 6)) none))) (sIf (bOf (d2 (cmpVt .NotEq) (dVar 4) (dLst false aNil))) (sSeq (sSet 7 (dCall d_law_grind 2 false [true, false] (aCons (dVar 0) (aCons (dBi lenV (aCons (dVar 4) aNil)) aNil)))) (sSeq (sPar 8 6 (aCons (d2 ixV (dVar 4) (dVar 7)) (aCons (dCall d_law_grind 2 false [true, false] (aCons (dVar 0) (aCons (d2 (binV false .Add) (dBi lenV (aCons (dVar 4) aNil)) (dAtm (.int 1))) aNil))) aNil))) (sSeq (sIf (bOf (d2 (cmpVt .Eq) (dVar 5) (dAtm (.int 2)))) (sSeq (sPar 9 10 (aCons (dCall d_law_grind 2 false [true, false] (aCons (dVar 0) (aCons (dAtm (.int 3)) aNil))) (aCons (d2 ixV (dLst false (aCons (dAtm (.str "zz")) (aCons (dAtm (.str "")) (aCons (dAtm (.str "A")) (aCons (d2 (binV false .Add) (d2 ixV (dVar 1) (dAtm (.int 0))) (dAtm (.str "q"))) aNil))))) (dCall d_law_grind 2 false [true, false] (aCons (dVar 0) (aCons (dAtm (.int 4)) aNil)))) aNil))) (sSet 8 (d2 catTV (d2 catTV (dSlT (dVar 8) none (some (dVar 9))) (dTup (aCons (dVar 10) aNil))) (dSlT (dVar 8) (some (d2 (binV false .Add) (dVar 9) (dAtm (.int 1)))) none)))) L3.sNil) (sSeq (sIf (bOf (d2 (cmpVt .Eq) (dVar 5) (dAtm (.int 3)))) (sSet 8 (dTup (aCons (d2 ixV (dVar 8) (dAtm (.int 0))) (aCons (d2 ixV (dVar 8) (dAtm (.int 1))) (aCons (d2 ixV (dVar 8) (dAtm (.int 0))) aNil))))) L3.sNil) (sSet 4 (d2 (binV false .Add) (d2 (binV false .Add) (dSl false (dVar 4) none (some (dVar 6))) (dLst false (aCons (dVar 8) aNil))) (dSl false (dVar 4) (some (dVar 6)) none))))))) L3.sNil))) Γ2 [Mill a2 b2] = some (.nx Γ3 [Mill a3 b3]) ∧ MillOk a3 b3 ∧ (∀ μ, dVar 3 Γ3 μ = some (.ok (.v p3 (namesD ns)) μ)) ∧ (∀ μ, dVar 4 Γ3 μ = some (.ok (.v q3 (rulesD rs)) μ)) ∧ Plan (L + 1) ns rs := by
    have c0 := wayIs (Γ := Γ2) (μ := [Mill a2 b2]) (h := true) (way := way) (n := 0) (fun _ => rfl)
    have c1 := wayIs (Γ := Γ2) (μ := [Mill a2 b2]) (h := true) (way := way) (n := 1) (fun _ => rfl)
    by_cases hz0 : way = 0
    · obtain ⟨a3, b3, q3, ns, e, ok3, P3⟩ := row0_ev P h20 h35 h8 (Γ := Γ2) (f := f) (p := true) hk ok2 (fun _ => rfl) (fun _ => rfl) (fun _ => rfl) (fun _ => rfl)
      refine ⟨a3, b3, q3, q4, ns, rules, Γ2.set 3 (some (.v q3 (namesD ns))), ?_, ok3, fun _ => rfl, fun _ => rfl, P3⟩
      rw [decide_eq_true hz0] at c0
      unfold sIf
      rw [c0]
      exact e
    · rw [decide_eq_false hz0] at c0
      by_cases hz1 : way = 1
      · obtain ⟨a3, b3, q3, ns, e, ok3, P3⟩ := row1_ev P h8 (Γ := Γ2) (f := f) (p := true) hk ok2 (fun _ => rfl) (fun _ => rfl) (fun _ => rfl) (fun _ => rfl)
        refine ⟨a3, b3, q3, q4, ns, rules, Γ2.set 3 (some (.v q3 (namesD ns))), ?_, ok3, fun _ => rfl, fun _ => rfl, P3⟩
        rw [decide_eq_true hz1] at c1
        rw [if_else c0, if_then c1]
        exact e
      · rw [decide_eq_false hz1] at c1
        have ce : bOf (d2 (cmpVt .NotEq) (dVar 4) (dLst false aNil)) Γ2 [Mill a2 b2] = some (.ok (!rules.isEmpty) [Mill a2 b2]) := by
          have hq := eq_nil_rules (μ := [Mill a2 b2]) (f := q4) (g := true) (rules := rules) (fun r hr => ⟨(P.r r hr).1.ok, (P.r r hr).2.1.ok, (P.r r hr).2.2.ok⟩)
          have hd := d2_ev' (g := cmpVt .NotEq) (ga := dVar 4) (gb := dLst false aNil) (Γ := Γ2) (μ := [Mill a2 b2]) (ta := .v q4 (rulesD rules)) (tb := .v true (.lst [])) rfl rfl
          unfold bOf
          rw [hd]
          unfold cmpVt cmpV
          rw [hq]
          rfl
        by_cases hne : 1 ≤ rules.length
        · obtain ⟨a3, b3, q3, rs, u6, u7, u8, u9, u10, e, ok3, P3⟩ := rows_ev P h20 h35 g8 hne (f := f) (g := g) (p := true) (q := q4) (h := true) (way := way) (t6 := some (.v true (.int (n6 : Nat)))) (t7 := none) (t8 := none) (t9 := none) (t10 := none) ok2
          refine ⟨a3, b3, true, q3, names, rs, [some (.m 0), some (.v f (namesD names)), some (.v g (rulesD rules)), some (.v true (namesD names)), some (.v q3 (rulesD rs)), some (.v true (.int way)), u6, u7, u8, u9, u10], ?_, ok3, fun _ => rfl, fun _ => rfl, P3⟩
          have he : rules.isEmpty = false := by
            cases rules with
            | nil => simp at hne
            | cons _ _ => rfl
          rw [he] at ce
          rw [if_else c0, if_else c1, if_then ce]
          exact e
        · refine ⟨a2, b2, true, q4, names, rules, Γ2, ?_, ok2, fun _ => rfl, fun _ => rfl, P.up (Nat.le_succ L)⟩
          have he : rules.isEmpty = true := by
            cases rules with
            | nil => rfl
            | cons _ _ => simp at hne
          rw [he] at ce
          rw [if_else c0, if_else c1, if_else ce]
          rfl
  obtain ⟨a3, b3, p3, q3, ns, rs, Γ3, e3, ok3, v3, v4, P3⟩ := hmid
  obtain ⟨r, er⟩ := last_row (μ := [Mill a3 b3]) v3 v4
  refine ⟨a3, b3, r, ns.take 8, rs.take 8, ?_, ok3, P3.take, by rw [List.length_take]; omega, by rw [List.length_take]; omega⟩
  show retD 1 (b_law_spoilt 1 Γ0 [Mill a b]) = _
  unfold b_law_spoilt
  rw [seq_nx s1, seq_nx s2, seq_nx e3, er]
  exact ret_v _ r [Mill a3 b3] rfl
end
end Qk18

set_option Elab.async false
set_option linter.all false
set_option maxRecDepth 100000
set_option maxHeartbeats 4000000
/-! a shown text is a text -/
namespace Qk18
open PySem PySem.Spec PyProof.Rows L2 L3
theorem char_lt (c : Char) : c.toNat < 0x110000 := by
  have h := c.valid
  have e : c.toNat = c.val.toNat := rfl
  rcases h with h | h
  · rw [e]
    exact Nat.lt_trans h (by decide)
  · rw [e]
    exact h.2
theorem hex_ok (n w : Nat) : ∀ d ∈ List.replicate (w - ((Nat.toDigits 16 n).map Char.toNat).length) 48 ++ (Nat.toDigits 16 n).map Char.toNat, d < 0x110000 := fun d hd => by
  rcases List.mem_append.mp hd with h | h
  · rw [(List.mem_replicate.mp h).2]
    decide
  · obtain ⟨c, _, rfl⟩ := List.mem_map.mp h
    exact char_lt c
theorem reprChar_ok (q c : Nat) (hc : c < 0x110000) : ∀ d ∈ Builtin.Str.reprChar q c, d < 0x110000 := by
  have h8 := hex_ok c 8
  have h4 := hex_ok c 4
  have h2 := hex_ok c 2
  unfold Builtin.Str.reprChar
  dsimp only
  repeat' split
  all_goals intro d hd
  all_goals first
    | (simp only [List.mem_cons, List.not_mem_nil, or_false] at hd
       rcases hd with rfl | rfl <;> omega)
    | (simp only [List.mem_cons, List.not_mem_nil, or_false] at hd
       subst hd
       omega)
    | (rcases List.mem_append.mp hd with h | h
       · simp only [List.mem_cons, List.not_mem_nil, or_false] at h
         rcases h with rfl | rfl <;> omega
       · first
         | exact h2 d h
         | exact h4 d h
         | exact h8 d h)
    | (rcases List.mem_cons.mp hd with rfl | hd
       · omega
       · rcases List.mem_cons.mp hd with rfl | h
         · omega
         · first
           | exact h2 d h
           | exact h4 d h
           | exact h8 d h)
theorem fold_repr_ok (q : Nat) : ∀ (l : List Nat) (acc : Array Nat), (∀ c ∈ l, c < 0x110000) → (∀ c ∈ acc.toList, c < 0x110000) → ∀ c ∈ (l.foldl (fun out c => out ++ (Builtin.Str.reprChar q c).toArray) acc).toList, c < 0x110000
  | [], acc, _, ha => ha
  | d :: r, acc, hl, ha => by
    rw [List.foldl_cons]
    refine fold_repr_ok q r _ (fun c hc => hl c (List.mem_cons_of_mem _ hc)) fun c hc => ?_
    rw [Array.toList_append] at hc
    rcases List.mem_append.mp hc with h | h
    · exact ha c h
    · exact reprChar_ok q d (hl d List.mem_cons_self) c (by simpa using h)
theorem quote_lt (x : Str) : reprQuote x < 0x110000 := by
  unfold reprQuote
  split <;> decide
theorem reprText_ok {x : Str} (h : PyData.strOk x = true) : PyData.strOk (reprText x) = true := by
  refine ok_of fun c hc => ?_
  have hc : c ∈ ((x.cps.foldl (fun out c => out ++ (Builtin.Str.reprChar (reprQuote x) c).toArray) #[reprQuote x]).push (reprQuote x)).toList := hc
  rw [Array.toList_push, ← Array.foldl_toList] at hc
  rcases List.mem_append.mp hc with h1 | h1
  · exact fold_repr_ok _ x.cps.toList #[reprQuote x] (cps_lt h) (fun d hd => by
      have : d = reprQuote x := by simpa using hd
      rw [this]
      exact quote_lt x) c h1
  · have : c = reprQuote x := by simpa using h1
    rw [this]
    exact quote_lt x
end Qk18

set_option Elab.async false
set_option linter.all false
set_option maxRecDepth 100000
set_option maxHeartbeats 4000000
/-! what is shown is a text: lists, rules; what is caught and what is due, once more -/
namespace Qk18
open PySem PySem.Spec PyProof.Rows L2 L3
theorem app_ok {x y : Str} (hx : PyData.strOk x = true) (hy : PyData.strOk y = true) : PyData.strOk (x ++ y) = true := (txt_app ⟨hx, Nat.le_refl _⟩ ⟨hy, Nat.le_refl _⟩).ok
theorem bits_ok : PyData.strOk (Str.ofString "[") = true ∧ PyData.strOk (Str.ofString "]") = true ∧ PyData.strOk (Str.ofString "(") = true ∧ PyData.strOk (Str.ofString ")") = true ∧ PyData.strOk (Str.ofString ", ") = true ∧ PyData.strOk (Str.ofString "") = true := by decide +kernel
theorem textFrom_ok : ∀ (ts : List Str) (k : Nat) (acc : Str), PyData.strOk acc = true → (∀ t ∈ ts, PyData.strOk t = true) → PyData.strOk (textFrom k acc ts) = true
  | [], k, acc, ha, _ => by rw [textFrom.eq_1]; exact ha
  | t :: ts, k, acc, ha, h => by
    rw [textFrom.eq_2]
    refine textFrom_ok ts (k + 1) _ (app_ok (app_ok ha ?_) (h t List.mem_cons_self)) fun x hx => h x (List.mem_cons_of_mem _ hx)
    split
    · exact bits_ok.2.2.2.2.1
    · exact bits_ok.2.2.2.2.2
theorem listText_ok {ts : List Str} (h : ∀ t ∈ ts, PyData.strOk t = true) : PyData.strOk (listText ts) = true := by
  show PyData.strOk (textFrom 0 (Str.ofString "[") ts ++ Str.ofString "]") = true
  exact app_ok (textFrom_ok ts 0 _ bits_ok.1 h) bits_ok.2.1
theorem shown_list_ok {xs : List PyData} (h : ∀ x ∈ xs, PyData.strOk (PyData.shown x) = true) : PyData.strOk (PyData.shown (.list xs)) = true := by
  rw [PyData.shown.eq_5]
  have m : ∀ (l : List PyData) (t : Str), t ∈ PyData.shownAll l → ∃ x ∈ l, t = PyData.shown x := fun l => by
    induction l with
    | nil => intro t ht; exact absurd ht (by show t ∉ ([] : List Str); simp)
    | cons x r ih =>
      intro t ht
      have ht : t ∈ PyData.shown x :: PyData.shownAll r := ht
      rcases List.mem_cons.mp ht with rfl | h
      · exact ⟨x, List.mem_cons_self, rfl⟩
      · obtain ⟨y, hy, e⟩ := ih t h
        exact ⟨y, List.mem_cons_of_mem _ hy, e⟩
  exact listText_ok fun t ht => by
    obtain ⟨x, hx, rfl⟩ := m xs t ht
    exact h x hx
theorem shown_triple_ok {a b c : PyData} (h1 : PyData.strOk (PyData.shown a) = true) (h2 : PyData.strOk (PyData.shown b) = true) (h3 : PyData.strOk (PyData.shown c) = true) : PyData.strOk (PyData.shown (.tuple [a, b, c])) = true := by
  rw [PyData.shown.eq_6]
  have e : tupleText (PyData.shownAll [a, b, c]) = Str.ofString "(" ++ (Str.ofString ", ").join [PyData.shown a, PyData.shown b, PyData.shown c] ++ Str.ofString ")" := rfl
  have j : (Str.ofString ", ").join [PyData.shown a, PyData.shown b, PyData.shown c] = PyData.shown a ++ Str.ofString ", " ++ (PyData.shown b ++ Str.ofString ", " ++ PyData.shown c) := rfl
  rw [e, j]
  exact app_ok (app_ok bits_ok.2.2.1 (app_ok (app_ok h1 bits_ok.2.2.2.2.1) (app_ok (app_ok h2 bits_ok.2.2.2.2.1) h3))) bits_ok.2.2.2.1
theorem shown_str_ok {s : Str} (h : PyData.strOk s = true) : PyData.strOk (PyData.shown (.str s)) = true := by
  have e : PyData.shown (.str s) = reprText s := by simp [PyData.shown]
  rw [e]
  exact reprText_ok h
theorem shown_bool_ok (b : Bool) : PyData.strOk (PyData.shown (.bool b)) = true := by cases b <;> decide +kernel
theorem shown_none_ok : PyData.strOk (PyData.shown .none) = true := by decide +kernel
theorem told_shown_ok {c : Nat} {e : PyData} (h : PyData.strOk (PyData.shown e) = true) : PyData.strOk (PyData.shown (toldP c e)) = true := by
  unfold toldP
  refine shown_list_ok fun x hx => ?_
  simp only [List.mem_cons, List.not_mem_nil, or_false] at hx
  rcases hx with rfl | rfl | rfl | rfl | rfl
  · exact shown_bool_ok _
  · exact shown_bool_ok _
  · exact shown_bool_ok _
  · exact shown_bool_ok _
  · exact h
section
variable {names : List Str} {rules : List (Str × Str × Str)}
theorem bad_py_ok (S : Short names rules) {c : Nat} {d : D} (hb : Bad names rules c d) : ∃ e, d.py = some e ∧ Shows e 1212 ∧ PyData.depth e ≤ 9 ∧ PyData.strOk (PyData.shown e) = true := by
  cases hb with
  | n hj hc h => exact ⟨_, by simp [D.py], (shows_text (S.N.s _ (List.getElem_mem hj)) (S.nl _ (List.getElem_mem hj))).up (by decide), by simp [PyData.depth], shown_str_ok (S.N.s _ (List.getElem_mem hj))⟩
  | r h0 hj hc h =>
    obtain ⟨o1, o2, o3⟩ := S.R.s _ (List.getElem_mem hj)
    exact ⟨rulePy _, by simp [ruleD, rulePy, D.py, D.pys], shows_rule S (List.getElem_mem hj), by simp [rulePy, PyData.depth, PyData.depthAll], shown_triple_ok (shown_str_ok o1) (shown_str_ok o2) (shown_str_ok o3)⟩
/-- what is caught and what is due are told by one text -/
theorem both_ok (S : Short names rules) : ∃ z : Str, PyData.strOk z = true ∧ (∀ (Γ : Gam) (μ : Mu) (f g : Bool) (da : Da), 1 ≤ μ.length → μ.all (Cell.low μ.length) = true → da Γ μ = some (.ok [.v f (namesD names), .v g (rulesD rules)] μ) → dBi reprV (aCons (dFrz 1 (dCall d_law_due 2 false [false, false] da)) aNil) Γ μ = some (.ok (.v true (.str z)) μ)) ∧
    (∀ (Γ : Gam) (μ : Mu) (f g h : Bool) (way : Int) (da : Da), 1 ≤ μ.length → μ.all (Cell.low μ.length) = true → da Γ μ = some (.ok [.v f (namesD names), .v g (rulesD rules), .v h (.int way)] μ) → dBi reprV (aCons (dFrz 1 (dCall d_law_caught 3 false [false, false, false] da)) aNil) Γ μ = some (.ok (.v true (.str z)) μ)) := by
  have bi : ∀ {Γ : Gam} {μ : Mu} {ge : De} {q : Bool} {d : D} {e : PyData} {z : Str}, ge Γ μ = some (.ok (.v q d) μ) → d.py = some e → reprS e = some z → dBi reprV (aCons ge aNil) Γ μ = some (.ok (.v true (.str z)) μ) := fun {Γ μ ge q d e z} h hp hz => by
    have hd : deep DEEP μ (.v q d) = some d := by unfold deep; rfl
    have q1 := repr_ev (μ := μ) (t := .v q d) hd hp hz
    simp only [dBi, aCons, aNil, h, bind_ok, q1, ot_some]
  rcases good_or_bad names rules with ⟨h1, h2⟩ | ⟨c, d, hb⟩
  · have hz : reprS PyData.none = some (PyData.shown .none) := rfl
    have hp : D.py .non = some PyData.none := by simp [D.py]
    refine ⟨_, shown_none_ok, fun Γ μ f g da hm hl hda => bi (frz_v ((dCall_ev hda rfl).trans (call_v (us := [.v false (namesD names), .v false (rulesD rules)]) rfl rfl (due_ok S.N S.R false false h1 h2) rfl)) hl) hp hz,
      fun Γ μ f g h way da hm hl hda => bi (frz_v ((dCall_ev hda rfl).trans (call_v (us := [.v false (namesD names), .v false (rulesD rules), .v true (.int way)]) rfl rfl (caught_ok S.N S.R h1 h2 false false true way) rfl)) hl) hp hz⟩
  · obtain ⟨e, he, hs, hd, hok⟩ := bad_py_ok S hb
    have hp := told_py (c := c) he
    have hz := told_repr (c := c) hs hd
    obtain ⟨q1, e1⟩ := due_bad S.N S.R false false hb
    have hpk : ∃ q, pack (dueT c q1 d) = some (q, [.bl (exIs c 1), .bl (exIs c 2), .bl (exIs c 3), .bl (exIs c 4), d]) := ⟨_, rfl⟩
    obtain ⟨q3, hpk⟩ := hpk
    refine ⟨_, told_shown_ok hok, fun Γ μ f g da hm hl hda => bi (frz_c ((dCall_ev hda rfl).trans (call_c (us := [.v false (namesD names), .v false (rulesD rules)]) rfl rfl e1 rfl)) hpk hm hl) hp hz,
      fun Γ μ f g h way da hm hl hda => ?_⟩
    obtain ⟨q2, e2⟩ := caught_bad S.N S.R hb false false true way
    exact bi (frz_v ((dCall_ev hda rfl).trans (call_v (us := [.v false (namesD names), .v false (rulesD rules), .v true (.int way)]) rfl rfl e2 rfl)) hl) hp hz
/-- a plan as it is shown -/
theorem plan_repr (S : Short names rules) {Γ : Gam} {μ : Mu} {f g : Bool} (v2 : dVar 2 Γ μ = some (.ok (.v f (namesD names)) μ)) (v3 : dVar 3 Γ μ = some (.ok (.v g (rulesD rules)) μ)) : dBi reprV (aCons (dLst false (aCons (dVar 2) (aCons (dVar 3) aNil))) aNil) Γ μ = some (.ok (.v true (.str (PyData.shown (.list [.list (names.map .str), .list (rules.map rulePy)])))) μ) := by
  have hp : D.py (.lst [namesD names, rulesD rules]) = some (.list [.list (names.map .str), .list (rules.map rulePy)]) := by simp [namesD, rulesD, D.py, D.pys, pys_strs, pys_rules]
  have sn : Shows (.list (names.map .str)) 3234 := (Shows.list (n := 402) (k := 8) (fun x hx => by
    obtain ⟨s, hs, rfl⟩ := List.mem_map.mp hx
    exact shows_text (S.N.s s hs) (S.nl s hs)) (fun x hx => by
    obtain ⟨s, hs, rfl⟩ := List.mem_map.mp hx
    simp [PyData.depth]) (by rw [List.length_map]; exact S.n8))
  have sr : Shows (.list (rules.map rulePy)) 9714 := (Shows.list (n := 1212) (k := 8) (fun x hx => by
    obtain ⟨s, hs, rfl⟩ := List.mem_map.mp hx
    exact shows_rule S hs) (fun x hx => by
    obtain ⟨s, hs, rfl⟩ := List.mem_map.mp hx
    simp [rulePy, PyData.depth, PyData.depthAll]) (by rw [List.length_map]; exact S.r8))
  have dn : PyData.depth (.list (names.map .str)) ≤ 9 := depth_list (n := 8) fun x hx => by
    obtain ⟨s, hs, rfl⟩ := List.mem_map.mp hx
    simp [PyData.depth]
  have dr : PyData.depth (.list (rules.map rulePy)) ≤ 9 := depth_list (n := 8) fun x hx => by
    obtain ⟨s, hs, rfl⟩ := List.mem_map.mp hx
    simp [rulePy, PyData.depth, PyData.depthAll]
  have sb : Shows (.list [.list (names.map .str), .list (rules.map rulePy)]) (2 * (9714 + 2) + 2) := Shows.list (fun x hx => by
    simp only [List.mem_cons, List.not_mem_nil, or_false] at hx
    rcases hx with rfl | rfl
    · exact sn.up (by decide)
    · exact sr) (fun x hx => by
    simp only [List.mem_cons, List.not_mem_nil, or_false] at hx
    rcases hx with rfl | rfl
    · exact dn
    · exact dr) (Nat.le_refl 2)
  have hz := sb.repr (by decide)
  have hl : dLst false (aCons (dVar 2) (aCons (dVar 3) aNil)) Γ μ = some (.ok (.v (f && (g && true)) (.lst [namesD names, rulesD rules])) μ) := by
    simp only [dLst, aCons, aNil, v2, v3, bind_ok, newL, pack]
    rfl
  have q1 := repr_ev (μ := μ) (t := .v (f && (g && true)) (.lst [namesD names, rulesD rules])) (by unfold deep; rfl) hp hz
  generalize dLst false (aCons (dVar 2) (aCons (dVar 3) aNil)) = gl at hl ⊢
  simp only [dBi, aCons, aNil, hl, bind_ok, q1, ot_some]
end
end Qk18

set_option Elab.async false
set_option linter.all false
set_option maxRecDepth 100000
set_option maxHeartbeats 4000000
/-! the law, whole -/
namespace Qk18
open PySem PySem.Spec PyProof.Rows L2 L3
theorem rows_low8 : ∀ s ∈ row1 ++ row2 ++ row3, s.length ≤ 8 := by decide +kernel
theorem NamesOk.l8 {names : List Str} (h : NamesOk names) : ∀ x ∈ names, x.length ≤ 8 := fun x hx => by
  obtain ⟨row, rest, hr, hp⟩ := h
  have hx' := hp.subset (List.mem_append_right _ hx)
  refine rows_low8 x ?_
  rcases hr with rfl | rfl | rfl
  · exact List.mem_append_left _ (List.mem_append_left _ hx')
  · exact List.mem_append_left _ (List.mem_append_right _ hx')
  · exact List.mem_append_right _ hx'
section
variable {names : List Str} {rules : List (Str × Str × Str)}
theorem plan0 (P : PlanOk names rules) (h5 : rules.length ≤ 9) : Plan 20 names rules := by
  have t : ∀ s ∈ names, Txt 20 s := fun s hs => ⟨P.nm.str s hs, Nat.le_trans (P.nm.l8 s hs) (by decide)⟩
  exact ⟨t, fun r hr => ⟨t _ (P.mem r hr).1, t _ (P.mem r hr).2.1, t _ (P.mem r hr).2.2.1⟩, P.n1, Nat.le_trans P.n8 (by decide), h5⟩
noncomputable abbrev turnB : Ds := (sSeq (sPar 5 6 (aCons (dBi reprV (aCons (dLst false (aCons (dVar 2) (aCons (dVar 3) aNil))) aNil)) (aCons (dBi reprV (aCons (dFrz 1 (dCall d_law_due 2 false [false, false] (aCons (dVar 2) (aCons (dVar 3) aNil)))) aNil)) aNil))) (sSeq (sIf (bOf (d2 (cmpVt .NotEq) (dLc false 1 (iSeq false (dTup (aCons (dAtm (.int 0)) (aCons (dAtm (.int 1)) aNil)))) (gNm 7) bYes (dBi reprV (aCons (dFrz 1 (dCall d_law_caught 3 false [false, false, false] (aCons (dVar 2) (aCons (dVar 3) (aCons (dVar 7) aNil))))) aNil)) [7]) (dLst false (aCons (dVar 6) (aCons (dVar 6) aNil))))) (sRet (dAtm (.bl false))) L3.sNil) (sSeq (sIf (bOf (d2 (cmpVt .NotEq) (dBi reprV (aCons (dLst false (aCons (dVar 2) (aCons (dVar 3) aNil))) aNil)) (dVar 5))) (sRet (dAtm (.bl false))) L3.sNil) (sAsg (dFrz 1 (dCall d_law_spoilt 3 false [true, false, false] (aCons (dVar 0) (aCons (dVar 2) (aCons (dVar 3) aNil))))) (gTp 2 (gsCons (gNm 2) (gsCons (gNm 3) gsNil)))))))
theorem turn_ev {L : Nat} (P : Plan L names rules) (hL : 20 ≤ L) (hL2 : L ≤ 40) (h8 : names.length ≤ 8) (g8 : rules.length ≤ 8) {a b : Int} (ok : MillOk a b) {f g : Bool} {t1 t4 t5 t6 t7 : Option T} :
    ∃ a' b' f' g' ns rs u5 u6, turnB [some (.m 0), t1, some (.v f (namesD names)), some (.v g (rulesD rules)), t4, t5, t6, t7] [Mill a b] = some (.nx [some (.m 0), t1, some (.v f' (namesD ns)), some (.v g' (rulesD rs)), t4, u5, u6, t7] [Mill a' b']) ∧ MillOk a' b' ∧ Plan (L + 1) ns rs ∧ ns.length ≤ 8 ∧ rs.length ≤ 8 := by
  have S := P.short h8 g8 (by omega)
  obtain ⟨z, hz, hdue, hcaught⟩ := both_ok S
  let w : Str := PyData.shown (.list [.list (names.map .str), .list (rules.map rulePy)])
  let Γ0 : Gam := [some (.m 0), t1, some (.v f (namesD names)), some (.v g (rulesD rules)), t4, t5, t6, t7]
  let Γ1 : Gam := [some (.m 0), t1, some (.v f (namesD names)), some (.v g (rulesD rules)), t4, some (.v true (.str w)), some (.v true (.str z)), t7]
  have s1 : (sPar 5 6 (aCons (dBi reprV (aCons (dLst false (aCons (dVar 2) (aCons (dVar 3) aNil))) aNil)) (aCons (dBi reprV (aCons (dFrz 1 (dCall d_law_due 2 false [false, false] (aCons (dVar 2) (aCons (dVar 3) aNil)))) aNil)) aNil))) Γ0 [Mill a b] = some (.nx Γ1 [Mill a b]) := by
    have e1 := plan_repr S (Γ := Γ0) (μ := [Mill a b]) (f := f) (g := g) rfl rfl
    have e2 := hdue Γ0 [Mill a b] f g (aCons (dVar 2) (aCons (dVar 3) aNil)) (Nat.le_refl 1) rfl rfl
    generalize (dBi reprV (aCons (dLst false (aCons (dVar 2) (aCons (dVar 3) aNil))) aNil)) = g1 at e1 ⊢
    generalize (dBi reprV (aCons (dFrz 1 (dCall d_law_due 2 false [false, false] (aCons (dVar 2) (aCons (dVar 3) aNil)))) aNil)) = g2 at e2 ⊢
    simp only [sPar, aCons, aNil, e1, e2, bind_ok, bindS_ok]
    rfl
  have s2 : (sIf (bOf (d2 (cmpVt .NotEq) (dLc false 1 (iSeq false (dTup (aCons (dAtm (.int 0)) (aCons (dAtm (.int 1)) aNil)))) (gNm 7) bYes (dBi reprV (aCons (dFrz 1 (dCall d_law_caught 3 false [false, false, false] (aCons (dVar 2) (aCons (dVar 3) (aCons (dVar 7) aNil))))) aNil)) [7]) (dLst false (aCons (dVar 6) (aCons (dVar 6) aNil))))) (sRet (dAtm (.bl false))) L3.sNil) Γ1 [Mill a b] = some (.nx Γ1 [Mill a b]) := by
    have hlc := dlc_frz (b := false) (l := [(0 : Int), 1]) (Dx := D.int) (ge := (dTup (aCons (dAtm (.int 0)) (aCons (dAtm (.int 1)) aNil)))) (c := bYes) (own := [7]) (s := 7) (m0 := 1) (f := true) (Γ := Γ1) (μ := [Mill a b]) (μ1 := [Mill a b])
      (e := (dBi reprV (aCons (dFrz 1 (dCall d_law_caught 3 false [false, false, false] (aCons (dVar 2) (aCons (dVar 3) (aCons (dVar 7) aNil))))) aNil))) (P := fun _ => true) (E := fun _ => D.str z) rfl (by rw [sizeLine_eq]; decide) (Nat.le_refl _) rfl (fun x hx acc ha => ⟨rfl, fun _ => by
        have hlow : ([Mill a b] ++ [Cell.lst acc]).all (Cell.low ([Mill a b] ++ [Cell.lst acc]).length) = true := low_app rfl ha
        exact hcaught _ _ f g true x _ (by simp) hlow rfl⟩)
    have e2 : dLst false (aCons (dVar 6) (aCons (dVar 6) aNil)) Γ1 [Mill a b] = some (.ok (.v true (.lst [.str z, .str z])) [Mill a b]) := rfl
    have hq := eqT_self (μ := [Mill a b]) (a := .v true (.lst [D.str z, D.str z])) (b := .v true (.lst [D.str z, D.str z])) (d := .lst [D.str z, D.str z]) (e := .list ([z, z].map PyData.str)) (by unfold deep; rfl) (by unfold deep; rfl) (by simp [D.py, D.pys]) (sh_strs (fun x hx => by
      simp only [List.mem_cons, List.not_mem_nil, or_false] at hx
      rcases hx with rfl | rfl <;> exact hz))
    have hd := d2_ev' (g := cmpVt .NotEq) hlc e2
    refine if_else ?_ |>.trans rfl
    unfold bOf
    rw [hd]
    have hq' : L3.eqT [Mill a b] (.v true (.lst (([(0 : Int), 1].filter fun _ => true).map fun _ => D.str z))) (.v true (.lst [D.str z, D.str z])) = some true := hq
    unfold cmpVt cmpV
    rw [hq']
    rfl
  have s3 : (sIf (bOf (d2 (cmpVt .NotEq) (dBi reprV (aCons (dLst false (aCons (dVar 2) (aCons (dVar 3) aNil))) aNil)) (dVar 5))) (sRet (dAtm (.bl false))) L3.sNil) Γ1 [Mill a b] = some (.nx Γ1 [Mill a b]) := by
    have e1 := plan_repr S (Γ := Γ1) (μ := [Mill a b]) (f := f) (g := g) rfl rfl
    have hd := d2_ev' (g := cmpVt .NotEq) (gb := dVar 5) (tb := .v true (.str w)) e1 rfl
    refine if_else ?_ |>.trans rfl
    unfold bOf
    rw [hd]
    simp only [cmpVt, cmpV, eqT_str, Option.map_some, ot_some, bind_ok]
    simp [w]
  obtain ⟨a', b', q, ns, rs, hsp, ok', P', n8, r8⟩ := spoilt_ev P hL (by omega) h8 g8 (f := false) (g := false) ok
  have hcm := call_r1v (g := d_law_spoilt) (rf := [true, false, false]) (ts := [.m 0, .v f (namesD names), .v g (rulesD rules)]) (us := [.m 0, .v false (namesD names), .v false (rulesD rules)]) (μ := [Mill a b]) (j := 0) (c := Mill a b) (c' := Mill a' b') (f := q) rfl rfl rfl rfl hsp (fun _ => rfl)
  have hf : (dFrz 1 (dCall d_law_spoilt 3 false [true, false, false] (aCons (dVar 0) (aCons (dVar 2) (aCons (dVar 3) aNil))))) Γ1 [Mill a b] = some (.ok (.v q (.tup [namesD ns, rulesD rs])) [Mill a' b']) := by
    have hcall := (dCall_ev2 (g := d_law_spoilt) (n := 3) (live := false) (rf := [true, false, false]) (Γ := Γ1) (μ := [Mill a b]) (da := aCons (dVar 0) (aCons (dVar 2) (aCons (dVar 3) aNil))) rfl rfl).trans hcm
    unfold dFrz
    rw [hcall]
    rfl
  refine ⟨a', b', q || (namesD ns).atom, q || (rulesD rs).atom, ns, rs, some (.v true (.str w)), some (.v true (.str z)), ?_, ok', P', n8, r8⟩
  show turnB Γ0 [Mill a b] = _
  unfold turnB
  rw [seq_nx s1, seq_nx s2, seq_nx s3]
  unfold sAsg
  rw [hf]
  rfl

theorem right_ev (a b : Int) (ok : MillOk a b) : ∃ a' b', d_law_right [.m 0] [Mill a b] = some (.ok (.v true (.bl true)) [Mill a' b']) := by
  obtain ⟨a2, b2, names, rules, hm, ok2, hP, hn, hrl⟩ := manual_ev a b true true 5 5 ok (by decide) (by decide) (by decide) (by decide)
  have P0 := plan0 hP (by omega)
  have hcm := call_r1v (g := d_law_manual) (rf := [true, false, false]) (ts := [.m 0, .v true (.int 5), .v true (.int 5)]) (us := [.m 0, .v true (.int 5), .v true (.int 5)]) (μ := [Mill a b]) (j := 0) (c := Mill a b) (c' := Mill a2 b2) (f := true) (d := .tup [namesD names, rulesD rules]) rfl rfl rfl rfl hm (fun _ => rfl)
  let Γ0 : Gam := [some (.m 0), none, none, none, none, none, none, none]
  let Γ1 : Gam := [some (.m 0), some (planT names rules), none, none, none, none, none, none]
  let Γ2 : Gam := [some (.m 0), some (planT names rules), some (.v true (namesD names)), some (.v true (rulesD rules)), none, none, none, none]
  show ∃ a' b', retD 1 (b_law_right 1 Γ0 [Mill a b]) = some (.ok (.v true (.bl true)) [Mill a' b'])
  unfold b_law_right
  have s1 : (sSet 1 (dFrz 1 (dCall d_law_manual 3 false [true, false, false] (aCons (dVar 0) (aCons (dAtm (.int 5)) (aCons (dAtm (.int 5)) aNil)))))) Γ0 [Mill a b] = some (.nx Γ1 [Mill a2 b2]) := by
    have hcall := (dCall_ev2 (g := d_law_manual) (n := 3) (live := false) (rf := [true, false, false]) (Γ := Γ0) (μ := [Mill a b]) (da := aCons (dVar 0) (aCons (dAtm (.int 5)) (aCons (dAtm (.int 5)) aNil))) rfl rfl).trans hcm
    unfold sSet dFrz
    rw [hcall]
    rfl
  have s2 : (sAsg (dVar 1) (gTp 2 (gsCons (gNm 2) (gsCons (gNm 3) gsNil)))) Γ1 [Mill a2 b2] = some (.nx Γ2 [Mill a2 b2]) := rfl
  obtain ⟨Γ', μ', hf, hJ⟩ := for_rng (lo := 0) (n := 4) (g := gNm 4) (b := turnB)
    (fun i Γ μ => ∃ f g ns rs u4 u5 u6 u7 x y, Γ = [some (.m 0), some (planT names rules), some (.v f (namesD ns)), some (.v g (rulesD rs)), u4, u5, u6, u7] ∧ μ = [Mill x y] ∧ MillOk x y ∧ Plan (20 + i) ns rs ∧ ns.length ≤ 8 ∧ rs.length ≤ 8)
    (fun i Γ μ hi ⟨f, g, ns, rs, u4, u5, u6, u7, x, y, hΓ, hμ, okx, PP, n8, r8⟩ => by
      subst hΓ hμ
      obtain ⟨a', b', f', g', ns', rs', w5, w6, e, ok', P', n8', r8'⟩ := turn_ev PP (by omega) (by omega) n8 r8 okx (f := f) (g := g) (t1 := some (planT names rules)) (t4 := some (.v true (.int (0 + (i : Int))))) (t5 := u5) (t6 := u6) (t7 := u7)
      exact ⟨_, _, _, rfl, .inl e, f', g', ns', rs', _, _, _, _, a', b', rfl, rfl, ok', P', n8', r8'⟩)
    4 0 Γ2 [Mill a2 b2] (by omega) ⟨true, true, names, rules, none, none, none, none, a2, b2, rfl, rfl, ok2, P0, hP.n8, by omega⟩
  obtain ⟨f, g, ns, rs, u4, u5, u6, u7, x, y, hΓ, hμ, okx, PP, n8, r8⟩ := hJ
  subst hΓ hμ
  have s3 : (sFor (iRng1D (aCons (dAtm (.int 4)) aNil)) (gNm 4) (sSeq (sPar 5 6 (aCons (dBi reprV (aCons (dLst false (aCons (dVar 2) (aCons (dVar 3) aNil))) aNil)) (aCons (dBi reprV (aCons (dFrz 1 (dCall d_law_due 2 false [false, false] (aCons (dVar 2) (aCons (dVar 3) aNil)))) aNil)) aNil))) (sSeq (sIf (bOf (d2 (cmpVt .NotEq) (dLc false 1 (iSeq false (dTup (aCons (dAtm (.int 0)) (aCons (dAtm (.int 1)) aNil)))) (gNm 7) bYes (dBi reprV (aCons (dFrz 1 (dCall d_law_caught 3 false [false, false, false] (aCons (dVar 2) (aCons (dVar 3) (aCons (dVar 7) aNil))))) aNil)) [7]) (dLst false (aCons (dVar 6) (aCons (dVar 6) aNil))))) (sRet (dAtm (.bl false))) L3.sNil) (sSeq (sIf (bOf (d2 (cmpVt .NotEq) (dBi reprV (aCons (dLst false (aCons (dVar 2) (aCons (dVar 3) aNil))) aNil)) (dVar 5))) (sRet (dAtm (.bl false))) L3.sNil) (sAsg (dFrz 1 (dCall d_law_spoilt 3 false [true, false, false] (aCons (dVar 0) (aCons (dVar 2) (aCons (dVar 3) aNil))))) (gTp 2 (gsCons (gNm 2) (gsCons (gNm 3) gsNil)))))))) Γ2 [Mill a2 b2] = some (.nx [some (.m 0), some (planT names rules), some (.v f (namesD ns)), some (.v g (rulesD rs)), u4, u5, u6, u7] [Mill x y]) := for_ev (v := .rng 0 4) rfl hf
  obtain ⟨z, hz, hdue, hcaught⟩ := both_ok (PP.short n8 r8 (by omega))
  have e1 := hcaught [some (.m 0), some (planT names rules), some (.v f (namesD ns)), some (.v g (rulesD rs)), u4, u5, u6, u7] [Mill x y] f g true 0 (aCons (dVar 2) (aCons (dVar 3) (aCons (dAtm (.int 0)) aNil))) (Nat.le_refl 1) rfl rfl
  have e2 := hdue [some (.m 0), some (planT names rules), some (.v f (namesD ns)), some (.v g (rulesD rs)), u4, u5, u6, u7] [Mill x y] f g (aCons (dVar 2) (aCons (dVar 3) aNil)) (Nat.le_refl 1) rfl rfl
  have hd := d2_ev' (g := cmpVt .Eq) e1 e2
  refine ⟨x, y, ?_⟩
  rw [seq_nx s1, seq_nx s2, seq_nx s3]
  unfold sRet
  rw [hd]
  have hq : (cmpVt .Eq [Mill x y] (.v true (.str z)) (.v true (.str z))).ot = some (.ok (.v true (.bl true)) [Mill x y]) := by
    simp only [cmpVt, cmpV, eqT_str, Option.map_some, ot_some, decide_true]
  rw [hq]
  exact ret_v (.bl true) true [Mill x y] rfl
theorem fun_law : ∀ ns : List Int, ns.length ≤ 63 → (∀ z ∈ ns, Builtin.Int.intBits z ≤ 1048576) → ∃ f μ, d_law [.v false (.scr ns)] [] = some (.ok (.v f (.bl true)) μ) := by
  intro ns hl hB
  refine ⟨true, [], ?_⟩
  show retD 0 (b_law 0 [some (.v false (.scr ns)), none, none] []) = _
  unfold b_law
  let N : Nat := min 24 (max 1 ns.length)
  have hN : N ≤ 24 := Nat.min_le_left _ _
  obtain ⟨Γ', μ', hf, _⟩ := for_rng (lo := 0) (n := N) (g := gNm 1) (b := sSeq (sSet 2 (dCall d_law_mill 2 false [false, false] (aCons (dVar 0) (aCons (dVar 1) aNil)))) (sIf (bNot (bTru (dCall d_law_right 1 false [true] (aCons (dVar 2) aNil)))) (sRet (dAtm (.bl false))) L3.sNil))
    (fun i Γ μ => ∃ t1 t2, Γ = [some (.v false (.scr ns)), t1, t2])
    (fun i Γ μ hi ⟨t1, t2, hΓ⟩ => by
      subst hΓ
      obtain ⟨a, b, hm, ok⟩ := mill_ev ns false i (by omega) hB
      have hcm : callD d_law_mill false [false, false] [.v false (.scr ns), .v true (.int (0 + (i : Int)))] μ = some (.ok (.m μ.length) (μ ++ [Mill a b])) := by
        rw [Int.zero_add]
        exact call_l (ds := [.int a, .int b]) rfl rfl hm
      obtain ⟨a', b', hr⟩ := right_ev a b ok
      let Γ1 : Gam := [some (.v false (.scr ns)), some (.v true (.int (0 + (i : Int)))), t2]
      let Γ2 : Gam := [some (.v false (.scr ns)), some (.v true (.int (0 + (i : Int)))), some (.m μ.length)]
      have hcr := call_r1v (g := d_law_right) (rf := [true]) (ts := [.m μ.length]) (us := [.m 0]) (μ := μ ++ [Mill a b]) (j := μ.length) (c := Mill a b) (c' := Mill a' b') rfl rfl (by simp) rfl hr (fun _ => rfl)
      refine ⟨Γ1, Γ2, (μ ++ [Mill a b]).set μ.length (Mill a' b'), rfl, .inl ?_, _, _, rfl⟩
      have h1 : sSet 2 (dCall d_law_mill 2 false [false, false] (aCons (dVar 0) (aCons (dVar 1) aNil))) Γ1 μ = some (.nx Γ2 (μ ++ [Mill a b])) := by
        have := (dCall_ev (g := d_law_mill) (n := 2) (live := false) (rf := [false, false]) (da := aCons (dVar 0) (aCons (dVar 1) aNil)) (Γ := Γ1) (μ := μ) (ts := [.v false (.scr ns), .v true (.int (0 + (i : Int)))]) rfl rfl).trans hcm
        unfold sSet
        rw [this]
        rfl
      rw [seq_nx h1]
      have h2 : dCall d_law_right 1 false [true] (aCons (dVar 2) aNil) Γ2 (μ ++ [Mill a b]) = some (.ok (.v true (.bl true)) ((μ ++ [Mill a b]).set μ.length (Mill a' b'))) := (dCall_ev (ts := [.m μ.length]) rfl rfl).trans hcr
      unfold sIf bNot bTru
      rw [h2]
      rfl)
    N 0 [some (.v false (.scr ns)), none, none] [] (by omega) ⟨_, _, rfl⟩
  have hrng : iRng1D (aCons (dBi min2V (aCons (dAtm (.int 24)) (aCons (dBi max2V (aCons (dAtm (.int 1)) (aCons (dBi lenV (aCons (dVar 0) aNil)) aNil))) aNil))) aNil) [some (.v false (.scr ns)), none, none] [] = some (.ok (.rng 0 (N : Int).toNat) []) := by
    refine rng1_ev (f := true) ?_ (by omega)
    have hlen : lenV [] [.v false (.scr ns)] = some (.v true (.int (ns.length : Nat)), []) := by simp [lenV]
    have v0 : ∀ μ, dVar 0 [some (.v false (.scr ns)), none, none] μ = some (.ok (.v false (.scr ns)) μ) := fun _ => rfl
    have e1 : (if ((ns.length : Nat) : Int) > 1 then ((ns.length : Nat) : Int) else 1) = ((max 1 ns.length : Nat) : Int) := by
      split <;> omega
    have e2 : (if ((max 1 ns.length : Nat) : Int) < 24 then ((max 1 ns.length : Nat) : Int) else 24) = (N : Int) := by
      simp only [N]
      split <;> omega
    simp only [aCons, aNil, dBi, dAtm, v0, bind_ok, hlen, ot_some, max2V, e1, min2V, e2]
  rw [seq_nx (for_ev hrng hf)]
  exact ret_v0 _ _ _
end
end Qk18

namespace Qk18
open PySem PySem.Spec PyProof.Rows L2 L3
theorem all_mk {l : PySem.W.OpenLaw} {w : World} {K : PySem.W.Frag} {h : Heap} {mg : Str → Option Value} {fa : Addr} (X : K.In h) (G : h.Ns mainGlobals mg) (hfa : mg "law" = some (.ref fa))
    {x_Book : Addr}
    {od_law_mill : Option Addr}
    {an_law_mill : Option Addr}
    {sl_law_mill : Array (Option Value)} {oc_law_mill kV_law_mill dc_law_mill pm_law_mill cd_law_mill ct_law_mill : Value} {x_law_mill : Addr}
    {od_law_grind : Option Addr}
    {an_law_grind : Option Addr}
    {sl_law_grind : Array (Option Value)} {oc_law_grind kV_law_grind dc_law_grind pm_law_grind cd_law_grind ct_law_grind : Value} {x_law_grind : Addr}
    {od_law_tribes : Option Addr}
    {an_law_tribes : Option Addr}
    {sl_law_tribes : Array (Option Value)} {oc_law_tribes kV_law_tribes dc_law_tribes pm_law_tribes cd_law_tribes ct_law_tribes : Value} {x_law_tribes : Addr}
    {od_law_manual : Option Addr}
    {an_law_manual : Option Addr}
    {sl_law_manual : Array (Option Value)} {oc_law_manual kV_law_manual dc_law_manual pm_law_manual cd_law_manual ct_law_manual : Value} {x_law_manual : Addr}
    {od_law_no_name : Option Addr}
    {an_law_no_name : Option Addr}
    {sl_law_no_name : Array (Option Value)} {oc_law_no_name kV_law_no_name dc_law_no_name pm_law_no_name cd_law_no_name ct_law_no_name : Value} {x_law_no_name : Addr}
    {od_law_spoilt : Option Addr}
    {an_law_spoilt : Option Addr}
    {sl_law_spoilt : Array (Option Value)} {oc_law_spoilt kV_law_spoilt dc_law_spoilt pm_law_spoilt cd_law_spoilt ct_law_spoilt : Value} {x_law_spoilt : Addr}
    {od_ErrInit : Option Addr}
    {an_ErrInit : Option Addr}
    {sl_ErrInit : Array (Option Value)} {oc_ErrInit kV_ErrInit dc_ErrInit pm_ErrInit cd_ErrInit ct_ErrInit : Value} {x_ErrInit : Addr}
    {od_is_name : Option Addr}
    {an_is_name : Option Addr}
    {sl_is_name : Array (Option Value)} {oc_is_name kV_is_name dc_is_name pm_is_name cd_is_name ct_is_name : Value} {x_is_name : Addr}
    {od_check_names : Option Addr}
    {an_check_names : Option Addr}
    {sl_check_names : Array (Option Value)} {oc_check_names kV_check_names dc_check_names pm_check_names cd_check_names ct_check_names : Value} {x_check_names : Addr}
    {od_check_rule : Option Addr}
    {an_check_rule : Option Addr}
    {sl_check_rule : Array (Option Value)} {oc_check_rule kV_check_rule dc_check_rule pm_check_rule cd_check_rule ct_check_rule : Value} {x_check_rule : Addr}
    {od_check_rules : Option Addr}
    {an_check_rules : Option Addr}
    {sl_check_rules : Array (Option Value)} {oc_check_rules kV_check_rules dc_check_rules pm_check_rules cd_check_rules ct_check_rules : Value} {x_check_rules : Addr}
    {od_move_of : Option Addr}
    {an_move_of : Option Addr}
    {sl_move_of : Array (Option Value)} {oc_move_of kV_move_of dc_move_of pm_move_of cd_move_of ct_move_of : Value} {x_move_of : Addr}
    {od_Book_init : Option Addr}
    {an_Book_init : Option Addr}
    {sl_Book_init : Array (Option Value)} {oc_Book_init kV_Book_init dc_Book_init pm_Book_init cd_Book_init ct_Book_init : Value} {x_Book_init : Addr}
    {od_law_caught : Option Addr}
    {an_law_caught : Option Addr}
    {sl_law_caught : Array (Option Value)} {oc_law_caught kV_law_caught dc_law_caught pm_law_caught cd_law_caught ct_law_caught : Value} {x_law_caught : Addr}
    {od_law_is_word : Option Addr}
    {an_law_is_word : Option Addr}
    {sl_law_is_word : Array (Option Value)} {oc_law_is_word kV_law_is_word dc_law_is_word pm_law_is_word cd_law_is_word ct_law_is_word : Value} {x_law_is_word : Addr}
    {od_law_due : Option Addr}
    {an_law_due : Option Addr}
    {sl_law_due : Array (Option Value)} {oc_law_due kV_law_due dc_law_due pm_law_due cd_law_due ct_law_due : Value} {x_law_due : Addr}
    {od_law_right : Option Addr}
    {an_law_right : Option Addr}
    {sl_law_right : Array (Option Value)} {oc_law_right kV_law_right dc_law_right pm_law_right cd_law_right ct_law_right : Value} {x_law_right : Addr}
    {od_law : Option Addr}
    {an_law : Option Addr}
    {sl_law : Array (Option Value)} {oc_law kV_law dc_law pm_law cd_law ct_law : Value} {x_law : Addr}
    {x_CrowdError : Addr} {nm_CrowdError qq_CrowdError : Str} {N_CrowdError : Addr} {bs_CrowdError : List Value} {sn_CrowdError : List Str} {sub_CrowdError : List Value} {ab_CrowdError : Bool} {col_CrowdError : Option Bool} {dd_CrowdError : Option Addr} {k0_CrowdError k1_CrowdError k2_CrowdError k3_CrowdError k5_CrowdError : Option Value}
    {x_InvalidName : Addr} {nm_InvalidName qq_InvalidName : Str} {N_InvalidName : Addr} {bs_InvalidName : List Value} {sn_InvalidName : List Str} {sub_InvalidName : List Value} {ab_InvalidName : Bool} {col_InvalidName : Option Bool} {dd_InvalidName : Option Addr} {k0_InvalidName k1_InvalidName k2_InvalidName k3_InvalidName k5_InvalidName : Option Value}
    {x_DoubleName : Addr} {nm_DoubleName qq_DoubleName : Str} {N_DoubleName : Addr} {bs_DoubleName : List Value} {sn_DoubleName : List Str} {sub_DoubleName : List Value} {ab_DoubleName : Bool} {col_DoubleName : Option Bool} {dd_DoubleName : Option Addr} {k0_DoubleName k1_DoubleName k2_DoubleName k3_DoubleName k5_DoubleName : Option Value}
    {x_InvalidRule : Addr} {nm_InvalidRule qq_InvalidRule : Str} {N_InvalidRule : Addr} {bs_InvalidRule : List Value} {sn_InvalidRule : List Str} {sub_InvalidRule : List Value} {ab_InvalidRule : Bool} {col_InvalidRule : Option Bool} {dd_InvalidRule : Option Addr} {k0_InvalidRule k1_InvalidRule k2_InvalidRule k3_InvalidRule k5_InvalidRule : Option Value}
    {x_DoubleRule : Addr} {nm_DoubleRule qq_DoubleRule : Str} {N_DoubleRule : Addr} {bs_DoubleRule : List Value} {sn_DoubleRule : List Str} {sub_DoubleRule : List Value} {ab_DoubleRule : Bool} {col_DoubleRule : Option Bool} {dd_DoubleRule : Option Addr} {k0_DoubleRule k1_DoubleRule k2_DoubleRule k3_DoubleRule k5_DoubleRule : Option Value}
    {t_LETTERS : Tok}
    {t_LONGEST : Tok}
    (a_law_mill : PySem.W.nsIn K mainGlobals "_law_mill" = some (some (.ref x_law_mill)))
    (l_law_mill : K.lookup x_law_mill = some ⟨oc_law_mill, od_law_mill, .func (PySem.W.fnOf "_law_mill" "_law_mill" (defArgs s_law_mill) (defBody s_law_mill) (defScope s_law_mill) .none kV_law_mill dc_law_mill pm_law_mill an_law_mill cd_law_mill ct_law_mill), sl_law_mill⟩)
    (c_law_mill : PySem.W.codeIn K cd_law_mill "_law_mill" = true)
    (k_law_mill : PySem.W.keepIn K (.ref x_law_mill) = true)
    (a_law_grind : PySem.W.nsIn K mainGlobals "_law_grind" = some (some (.ref x_law_grind)))
    (l_law_grind : K.lookup x_law_grind = some ⟨oc_law_grind, od_law_grind, .func (PySem.W.fnOf "_law_grind" "_law_grind" (defArgs s_law_grind) (defBody s_law_grind) (defScope s_law_grind) .none kV_law_grind dc_law_grind pm_law_grind an_law_grind cd_law_grind ct_law_grind), sl_law_grind⟩)
    (c_law_grind : PySem.W.codeIn K cd_law_grind "_law_grind" = true)
    (k_law_grind : PySem.W.keepIn K (.ref x_law_grind) = true)
    (a_law_tribes : PySem.W.nsIn K mainGlobals "_law_tribes" = some (some (.ref x_law_tribes)))
    (l_law_tribes : K.lookup x_law_tribes = some ⟨oc_law_tribes, od_law_tribes, .func (PySem.W.fnOf "_law_tribes" "_law_tribes" (defArgs s_law_tribes) (defBody s_law_tribes) (defScope s_law_tribes) .none kV_law_tribes dc_law_tribes pm_law_tribes an_law_tribes cd_law_tribes ct_law_tribes), sl_law_tribes⟩)
    (c_law_tribes : PySem.W.codeIn K cd_law_tribes "_law_tribes" = true)
    (k_law_tribes : PySem.W.keepIn K (.ref x_law_tribes) = true)
    (a_law_manual : PySem.W.nsIn K mainGlobals "_law_manual" = some (some (.ref x_law_manual)))
    (l_law_manual : K.lookup x_law_manual = some ⟨oc_law_manual, od_law_manual, .func (PySem.W.fnOf "_law_manual" "_law_manual" (defArgs s_law_manual) (defBody s_law_manual) (defScope s_law_manual) .none kV_law_manual dc_law_manual pm_law_manual an_law_manual cd_law_manual ct_law_manual), sl_law_manual⟩)
    (c_law_manual : PySem.W.codeIn K cd_law_manual "_law_manual" = true)
    (k_law_manual : PySem.W.keepIn K (.ref x_law_manual) = true)
    (a_law_no_name : PySem.W.nsIn K mainGlobals "_law_no_name" = some (some (.ref x_law_no_name)))
    (l_law_no_name : K.lookup x_law_no_name = some ⟨oc_law_no_name, od_law_no_name, .func (PySem.W.fnOf "_law_no_name" "_law_no_name" (defArgs s_law_no_name) (defBody s_law_no_name) (defScope s_law_no_name) .none kV_law_no_name dc_law_no_name pm_law_no_name an_law_no_name cd_law_no_name ct_law_no_name), sl_law_no_name⟩)
    (c_law_no_name : PySem.W.codeIn K cd_law_no_name "_law_no_name" = true)
    (k_law_no_name : PySem.W.keepIn K (.ref x_law_no_name) = true)
    (a_law_spoilt : PySem.W.nsIn K mainGlobals "_law_spoilt" = some (some (.ref x_law_spoilt)))
    (l_law_spoilt : K.lookup x_law_spoilt = some ⟨oc_law_spoilt, od_law_spoilt, .func (PySem.W.fnOf "_law_spoilt" "_law_spoilt" (defArgs s_law_spoilt) (defBody s_law_spoilt) (defScope s_law_spoilt) .none kV_law_spoilt dc_law_spoilt pm_law_spoilt an_law_spoilt cd_law_spoilt ct_law_spoilt), sl_law_spoilt⟩)
    (c_law_spoilt : PySem.W.codeIn K cd_law_spoilt "_law_spoilt" = true)
    (k_law_spoilt : PySem.W.keepIn K (.ref x_law_spoilt) = true)
    (a_is_name : PySem.W.nsIn K mainGlobals "is_name" = some (some (.ref x_is_name)))
    (l_is_name : K.lookup x_is_name = some ⟨oc_is_name, od_is_name, .func (PySem.W.fnOf "is_name" "is_name" (defArgs s_is_name) (defBody s_is_name) (defScope s_is_name) .none kV_is_name dc_is_name pm_is_name an_is_name cd_is_name ct_is_name), sl_is_name⟩)
    (c_is_name : PySem.W.codeIn K cd_is_name "is_name" = true)
    (k_is_name : PySem.W.keepIn K (.ref x_is_name) = true)
    (a_check_names : PySem.W.nsIn K mainGlobals "check_names" = some (some (.ref x_check_names)))
    (l_check_names : K.lookup x_check_names = some ⟨oc_check_names, od_check_names, .func (PySem.W.fnOf "check_names" "check_names" (defArgs s_check_names) (defBody s_check_names) (defScope s_check_names) .none kV_check_names dc_check_names pm_check_names an_check_names cd_check_names ct_check_names), sl_check_names⟩)
    (c_check_names : PySem.W.codeIn K cd_check_names "check_names" = true)
    (k_check_names : PySem.W.keepIn K (.ref x_check_names) = true)
    (a_check_rule : PySem.W.nsIn K mainGlobals "check_rule" = some (some (.ref x_check_rule)))
    (l_check_rule : K.lookup x_check_rule = some ⟨oc_check_rule, od_check_rule, .func (PySem.W.fnOf "check_rule" "check_rule" (defArgs s_check_rule) (defBody s_check_rule) (defScope s_check_rule) .none kV_check_rule dc_check_rule pm_check_rule an_check_rule cd_check_rule ct_check_rule), sl_check_rule⟩)
    (c_check_rule : PySem.W.codeIn K cd_check_rule "check_rule" = true)
    (k_check_rule : PySem.W.keepIn K (.ref x_check_rule) = true)
    (a_check_rules : PySem.W.nsIn K mainGlobals "check_rules" = some (some (.ref x_check_rules)))
    (l_check_rules : K.lookup x_check_rules = some ⟨oc_check_rules, od_check_rules, .func (PySem.W.fnOf "check_rules" "check_rules" (defArgs s_check_rules) (defBody s_check_rules) (defScope s_check_rules) .none kV_check_rules dc_check_rules pm_check_rules an_check_rules cd_check_rules ct_check_rules), sl_check_rules⟩)
    (c_check_rules : PySem.W.codeIn K cd_check_rules "check_rules" = true)
    (k_check_rules : PySem.W.keepIn K (.ref x_check_rules) = true)
    (a_move_of : PySem.W.nsIn K mainGlobals "move_of" = some (some (.ref x_move_of)))
    (l_move_of : K.lookup x_move_of = some ⟨oc_move_of, od_move_of, .func (PySem.W.fnOf "move_of" "move_of" (defArgs s_move_of) (defBody s_move_of) (defScope s_move_of) .none kV_move_of dc_move_of pm_move_of an_move_of cd_move_of ct_move_of), sl_move_of⟩)
    (c_move_of : PySem.W.codeIn K cd_move_of "move_of" = true)
    (k_move_of : PySem.W.keepIn K (.ref x_move_of) = true)
    (a_law_caught : PySem.W.nsIn K mainGlobals "_law_caught" = some (some (.ref x_law_caught)))
    (l_law_caught : K.lookup x_law_caught = some ⟨oc_law_caught, od_law_caught, .func (PySem.W.fnOf "_law_caught" "_law_caught" (defArgs s_law_caught) (defBody s_law_caught) (defScope s_law_caught) .none kV_law_caught dc_law_caught pm_law_caught an_law_caught cd_law_caught ct_law_caught), sl_law_caught⟩)
    (c_law_caught : PySem.W.codeIn K cd_law_caught "_law_caught" = true)
    (k_law_caught : PySem.W.keepIn K (.ref x_law_caught) = true)
    (a_law_is_word : PySem.W.nsIn K mainGlobals "_law_is_word" = some (some (.ref x_law_is_word)))
    (l_law_is_word : K.lookup x_law_is_word = some ⟨oc_law_is_word, od_law_is_word, .func (PySem.W.fnOf "_law_is_word" "_law_is_word" (defArgs s_law_is_word) (defBody s_law_is_word) (defScope s_law_is_word) .none kV_law_is_word dc_law_is_word pm_law_is_word an_law_is_word cd_law_is_word ct_law_is_word), sl_law_is_word⟩)
    (c_law_is_word : PySem.W.codeIn K cd_law_is_word "_law_is_word" = true)
    (k_law_is_word : PySem.W.keepIn K (.ref x_law_is_word) = true)
    (a_law_due : PySem.W.nsIn K mainGlobals "_law_due" = some (some (.ref x_law_due)))
    (l_law_due : K.lookup x_law_due = some ⟨oc_law_due, od_law_due, .func (PySem.W.fnOf "_law_due" "_law_due" (defArgs s_law_due) (defBody s_law_due) (defScope s_law_due) .none kV_law_due dc_law_due pm_law_due an_law_due cd_law_due ct_law_due), sl_law_due⟩)
    (c_law_due : PySem.W.codeIn K cd_law_due "_law_due" = true)
    (k_law_due : PySem.W.keepIn K (.ref x_law_due) = true)
    (a_law_right : PySem.W.nsIn K mainGlobals "_law_right" = some (some (.ref x_law_right)))
    (l_law_right : K.lookup x_law_right = some ⟨oc_law_right, od_law_right, .func (PySem.W.fnOf "_law_right" "_law_right" (defArgs s_law_right) (defBody s_law_right) (defScope s_law_right) .none kV_law_right dc_law_right pm_law_right an_law_right cd_law_right ct_law_right), sl_law_right⟩)
    (c_law_right : PySem.W.codeIn K cd_law_right "_law_right" = true)
    (k_law_right : PySem.W.keepIn K (.ref x_law_right) = true)
    (a_law : PySem.W.nsIn K mainGlobals "law" = some (some (.ref x_law)))
    (l_law : K.lookup x_law = some ⟨oc_law, od_law, .func (PySem.W.fnOf "law" "law" (defArgs s_law) (defBody s_law) (defScope s_law) .none kV_law dc_law pm_law an_law cd_law ct_law), sl_law⟩)
    (c_law : PySem.W.codeIn K cd_law "law" = true)
    (k_law : PySem.W.keepIn K (.ref x_law) = true)
    (a_CrowdError : PySem.W.nsIn K mainGlobals "CrowdError" = some (some (.ref x_CrowdError)))
    (xl_CrowdError : K.lookup x_CrowdError = some (excClassObj nm_CrowdError qq_CrowdError x_CrowdError N_CrowdError bs_CrowdError [.type "ValueError", .type "Exception", .type "BaseException", .type "object"] true sn_CrowdError sub_CrowdError ab_CrowdError col_CrowdError dd_CrowdError k0_CrowdError k1_CrowdError k2_CrowdError k3_CrowdError k5_CrowdError "ValueError.__new__"))
    (sa_CrowdError : PySem.W.findIn K (.ref x_CrowdError) "__setattr__" = some (some (.builtin "object.__setattr__")))
    (ga_CrowdError : PySem.W.findIn K (.ref x_CrowdError) "__getattribute__" = some (some (.builtin "BaseException.__getattribute__")))
    (gg_CrowdError : PySem.W.findIn K (.ref x_CrowdError) "__getattr__" = some none)
    (nv_CrowdError : PySem.W.findIn K (.ref x_CrowdError) "value" = some none)
    (kc_CrowdError : PySem.W.keepIn K (.ref x_CrowdError) = true)
    (ex_CrowdError : PySem.W.subIn K (.ref x_CrowdError) (.type "BaseException") = some true)
    (ty_CrowdError : PySem.W.typeIn K (.ref x_CrowdError) = some (.type "type"))
    (hd_CrowdError : PySem.W.hasDictIn K x_CrowdError = true)
    (ha_CrowdError : PySem.W.findIn K (.ref x_CrowdError) "__class__" = some (some (.builtin "object.__class__")))
    (hm_CrowdError : PySem.W.mroIn K x_CrowdError (.type "object") = some true)
    (xm_CrowdError : PySem.W.exmOne K (.ref x_CrowdError) (.ref x_CrowdError) = some true)
    (ic_CrowdError : PySem.W.findIn K (.ref x_CrowdError) "__init__" = some (some (.ref x_ErrInit)))
    (a_InvalidName : PySem.W.nsIn K mainGlobals "InvalidName" = some (some (.ref x_InvalidName)))
    (xl_InvalidName : K.lookup x_InvalidName = some (excClassObj nm_InvalidName qq_InvalidName x_InvalidName N_InvalidName bs_InvalidName [.ref x_CrowdError, .type "ValueError", .type "Exception", .type "BaseException", .type "object"] true sn_InvalidName sub_InvalidName ab_InvalidName col_InvalidName dd_InvalidName k0_InvalidName k1_InvalidName k2_InvalidName k3_InvalidName k5_InvalidName "ValueError.__new__"))
    (sa_InvalidName : PySem.W.findIn K (.ref x_InvalidName) "__setattr__" = some (some (.builtin "object.__setattr__")))
    (ga_InvalidName : PySem.W.findIn K (.ref x_InvalidName) "__getattribute__" = some (some (.builtin "BaseException.__getattribute__")))
    (gg_InvalidName : PySem.W.findIn K (.ref x_InvalidName) "__getattr__" = some none)
    (nv_InvalidName : PySem.W.findIn K (.ref x_InvalidName) "value" = some none)
    (kc_InvalidName : PySem.W.keepIn K (.ref x_InvalidName) = true)
    (ex_InvalidName : PySem.W.subIn K (.ref x_InvalidName) (.type "BaseException") = some true)
    (ty_InvalidName : PySem.W.typeIn K (.ref x_InvalidName) = some (.type "type"))
    (hd_InvalidName : PySem.W.hasDictIn K x_InvalidName = true)
    (ha_InvalidName : PySem.W.findIn K (.ref x_InvalidName) "__class__" = some (some (.builtin "object.__class__")))
    (hm_InvalidName : PySem.W.mroIn K x_InvalidName (.type "object") = some true)
    (xm_InvalidName : PySem.W.exmOne K (.ref x_InvalidName) (.ref x_CrowdError) = some true)
    (ic_InvalidName : PySem.W.findIn K (.ref x_InvalidName) "__init__" = some (some (.ref x_ErrInit)))
    (a_DoubleName : PySem.W.nsIn K mainGlobals "DoubleName" = some (some (.ref x_DoubleName)))
    (xl_DoubleName : K.lookup x_DoubleName = some (excClassObj nm_DoubleName qq_DoubleName x_DoubleName N_DoubleName bs_DoubleName [.ref x_CrowdError, .type "ValueError", .type "Exception", .type "BaseException", .type "object"] true sn_DoubleName sub_DoubleName ab_DoubleName col_DoubleName dd_DoubleName k0_DoubleName k1_DoubleName k2_DoubleName k3_DoubleName k5_DoubleName "ValueError.__new__"))
    (sa_DoubleName : PySem.W.findIn K (.ref x_DoubleName) "__setattr__" = some (some (.builtin "object.__setattr__")))
    (ga_DoubleName : PySem.W.findIn K (.ref x_DoubleName) "__getattribute__" = some (some (.builtin "BaseException.__getattribute__")))
    (gg_DoubleName : PySem.W.findIn K (.ref x_DoubleName) "__getattr__" = some none)
    (nv_DoubleName : PySem.W.findIn K (.ref x_DoubleName) "value" = some none)
    (kc_DoubleName : PySem.W.keepIn K (.ref x_DoubleName) = true)
    (ex_DoubleName : PySem.W.subIn K (.ref x_DoubleName) (.type "BaseException") = some true)
    (ty_DoubleName : PySem.W.typeIn K (.ref x_DoubleName) = some (.type "type"))
    (hd_DoubleName : PySem.W.hasDictIn K x_DoubleName = true)
    (ha_DoubleName : PySem.W.findIn K (.ref x_DoubleName) "__class__" = some (some (.builtin "object.__class__")))
    (hm_DoubleName : PySem.W.mroIn K x_DoubleName (.type "object") = some true)
    (xm_DoubleName : PySem.W.exmOne K (.ref x_DoubleName) (.ref x_CrowdError) = some true)
    (ic_DoubleName : PySem.W.findIn K (.ref x_DoubleName) "__init__" = some (some (.ref x_ErrInit)))
    (a_InvalidRule : PySem.W.nsIn K mainGlobals "InvalidRule" = some (some (.ref x_InvalidRule)))
    (xl_InvalidRule : K.lookup x_InvalidRule = some (excClassObj nm_InvalidRule qq_InvalidRule x_InvalidRule N_InvalidRule bs_InvalidRule [.ref x_CrowdError, .type "ValueError", .type "Exception", .type "BaseException", .type "object"] true sn_InvalidRule sub_InvalidRule ab_InvalidRule col_InvalidRule dd_InvalidRule k0_InvalidRule k1_InvalidRule k2_InvalidRule k3_InvalidRule k5_InvalidRule "ValueError.__new__"))
    (sa_InvalidRule : PySem.W.findIn K (.ref x_InvalidRule) "__setattr__" = some (some (.builtin "object.__setattr__")))
    (ga_InvalidRule : PySem.W.findIn K (.ref x_InvalidRule) "__getattribute__" = some (some (.builtin "BaseException.__getattribute__")))
    (gg_InvalidRule : PySem.W.findIn K (.ref x_InvalidRule) "__getattr__" = some none)
    (nv_InvalidRule : PySem.W.findIn K (.ref x_InvalidRule) "value" = some none)
    (kc_InvalidRule : PySem.W.keepIn K (.ref x_InvalidRule) = true)
    (ex_InvalidRule : PySem.W.subIn K (.ref x_InvalidRule) (.type "BaseException") = some true)
    (ty_InvalidRule : PySem.W.typeIn K (.ref x_InvalidRule) = some (.type "type"))
    (hd_InvalidRule : PySem.W.hasDictIn K x_InvalidRule = true)
    (ha_InvalidRule : PySem.W.findIn K (.ref x_InvalidRule) "__class__" = some (some (.builtin "object.__class__")))
    (hm_InvalidRule : PySem.W.mroIn K x_InvalidRule (.type "object") = some true)
    (xm_InvalidRule : PySem.W.exmOne K (.ref x_InvalidRule) (.ref x_CrowdError) = some true)
    (ic_InvalidRule : PySem.W.findIn K (.ref x_InvalidRule) "__init__" = some (some (.ref x_ErrInit)))
    (a_DoubleRule : PySem.W.nsIn K mainGlobals "DoubleRule" = some (some (.ref x_DoubleRule)))
    (xl_DoubleRule : K.lookup x_DoubleRule = some (excClassObj nm_DoubleRule qq_DoubleRule x_DoubleRule N_DoubleRule bs_DoubleRule [.ref x_CrowdError, .type "ValueError", .type "Exception", .type "BaseException", .type "object"] true sn_DoubleRule sub_DoubleRule ab_DoubleRule col_DoubleRule dd_DoubleRule k0_DoubleRule k1_DoubleRule k2_DoubleRule k3_DoubleRule k5_DoubleRule "ValueError.__new__"))
    (sa_DoubleRule : PySem.W.findIn K (.ref x_DoubleRule) "__setattr__" = some (some (.builtin "object.__setattr__")))
    (ga_DoubleRule : PySem.W.findIn K (.ref x_DoubleRule) "__getattribute__" = some (some (.builtin "BaseException.__getattribute__")))
    (gg_DoubleRule : PySem.W.findIn K (.ref x_DoubleRule) "__getattr__" = some none)
    (nv_DoubleRule : PySem.W.findIn K (.ref x_DoubleRule) "value" = some none)
    (kc_DoubleRule : PySem.W.keepIn K (.ref x_DoubleRule) = true)
    (ex_DoubleRule : PySem.W.subIn K (.ref x_DoubleRule) (.type "BaseException") = some true)
    (ty_DoubleRule : PySem.W.typeIn K (.ref x_DoubleRule) = some (.type "type"))
    (hd_DoubleRule : PySem.W.hasDictIn K x_DoubleRule = true)
    (ha_DoubleRule : PySem.W.findIn K (.ref x_DoubleRule) "__class__" = some (some (.builtin "object.__class__")))
    (hm_DoubleRule : PySem.W.mroIn K x_DoubleRule (.type "object") = some true)
    (xm_DoubleRule : PySem.W.exmOne K (.ref x_DoubleRule) (.ref x_CrowdError) = some true)
    (ic_DoubleRule : PySem.W.findIn K (.ref x_DoubleRule) "__init__" = some (some (.ref x_ErrInit)))
    (kit_CrowdError_DoubleName : PySem.W.kitOne K (.ref x_CrowdError) (.ref x_DoubleName) = some false)
    (kit_CrowdError_DoubleRule : PySem.W.kitOne K (.ref x_CrowdError) (.ref x_DoubleRule) = some false)
    (kit_CrowdError_InvalidName : PySem.W.kitOne K (.ref x_CrowdError) (.ref x_InvalidName) = some false)
    (kit_CrowdError_InvalidRule : PySem.W.kitOne K (.ref x_CrowdError) (.ref x_InvalidRule) = some false)
    (kit_InvalidName_DoubleName : PySem.W.kitOne K (.ref x_InvalidName) (.ref x_DoubleName) = some false)
    (kit_InvalidName_DoubleRule : PySem.W.kitOne K (.ref x_InvalidName) (.ref x_DoubleRule) = some false)
    (kit_InvalidName_InvalidName : PySem.W.kitOne K (.ref x_InvalidName) (.ref x_InvalidName) = some true)
    (kit_InvalidName_InvalidRule : PySem.W.kitOne K (.ref x_InvalidName) (.ref x_InvalidRule) = some false)
    (kit_DoubleName_DoubleName : PySem.W.kitOne K (.ref x_DoubleName) (.ref x_DoubleName) = some true)
    (kit_DoubleName_DoubleRule : PySem.W.kitOne K (.ref x_DoubleName) (.ref x_DoubleRule) = some false)
    (kit_DoubleName_InvalidName : PySem.W.kitOne K (.ref x_DoubleName) (.ref x_InvalidName) = some false)
    (kit_DoubleName_InvalidRule : PySem.W.kitOne K (.ref x_DoubleName) (.ref x_InvalidRule) = some false)
    (kit_InvalidRule_DoubleName : PySem.W.kitOne K (.ref x_InvalidRule) (.ref x_DoubleName) = some false)
    (kit_InvalidRule_DoubleRule : PySem.W.kitOne K (.ref x_InvalidRule) (.ref x_DoubleRule) = some false)
    (kit_InvalidRule_InvalidName : PySem.W.kitOne K (.ref x_InvalidRule) (.ref x_InvalidName) = some false)
    (kit_InvalidRule_InvalidRule : PySem.W.kitOne K (.ref x_InvalidRule) (.ref x_InvalidRule) = some true)
    (kit_DoubleRule_DoubleName : PySem.W.kitOne K (.ref x_DoubleRule) (.ref x_DoubleName) = some false)
    (kit_DoubleRule_DoubleRule : PySem.W.kitOne K (.ref x_DoubleRule) (.ref x_DoubleRule) = some true)
    (kit_DoubleRule_InvalidName : PySem.W.kitOne K (.ref x_DoubleRule) (.ref x_InvalidName) = some false)
    (kit_DoubleRule_InvalidRule : PySem.W.kitOne K (.ref x_DoubleRule) (.ref x_InvalidRule) = some false)
    (l_ErrInit : K.lookup x_ErrInit = some ⟨oc_ErrInit, od_ErrInit, .func (PySem.W.fnOf "__init__" "CrowdError.__init__" (defArgs s_ErrInit) (defBody s_ErrInit) (defScope s_ErrInit) .none kV_ErrInit dc_ErrInit pm_ErrInit an_ErrInit cd_ErrInit ct_ErrInit), sl_ErrInit⟩)
    (c_ErrInit : PySem.W.codeIn K cd_ErrInit "CrowdError.__init__" = true)
    (k_ErrInit : PySem.W.keepIn K (.ref x_ErrInit) = true)
    (ti_ErrInit : PySem.W.typeIn K (.ref x_ErrInit) = some (.type "function"))
    (a_Book : PySem.W.nsIn K mainGlobals "Book" = some (some (.ref x_Book)))
    (g_Book_init : PySem.W.findIn K (.ref x_Book) "__init__" = some (some (.ref x_Book_init)))
    (i_Book_init : PySem.W.isFn K (.ref x_Book_init) = true)
    (l_Book_init : K.lookup x_Book_init = some ⟨oc_Book_init, od_Book_init, .func (PySem.W.fnOf "__init__" "Book.__init__" (defArgs s_Book_init) (defBody s_Book_init) (defScope s_Book_init) .none kV_Book_init dc_Book_init pm_Book_init an_Book_init cd_Book_init ct_Book_init), sl_Book_init⟩)
    (c_Book_init : PySem.W.codeIn K cd_Book_init "Book.__init__" = true)
    (k_Book_init : PySem.W.keepIn K (.ref x_Book_init) = true)
    (pg_Book : PySem.W.plainGet K x_Book Str.empty = true)
    (hd_Book : PySem.W.hasDictIn K x_Book = true)
    (po_Book : PySem.W.plainOver K x_Book = true)
    (sa_Book : PySem.W.findIn K (.ref x_Book) "__setattr__" = some (some (.builtin "object.__setattr__")))
    (mk_Book : PySem.W.makesIn K x_Book = true)
    (kc_Book : PySem.W.keepIn K (.ref x_Book) = true)
    (ha_Book : PySem.W.findIn K (.ref x_Book) "__class__" = some (some (.builtin "object.__class__")))
    (hm_Book : PySem.W.mroIn K x_Book (.type "object") = some true)
    (n_Book_kinds : PySem.W.findIn K (.ref x_Book) "_kinds" = some none)
    (n_Book_moves : PySem.W.findIn K (.ref x_Book) "_moves" = some none)
    (hn_ : PySem.W.specialIn K (.builtin "object.__class__") "__get__" = some (some (.builtin "getset_descriptor.__get__")))
    (ht_ : PySem.W.takesIn K (.builtin "object.__class__") = some true)
    (m_LETTERS : PySem.W.nsIn K mainGlobals "LETTERS" = some (some (.str "abcdefghijklmnopqrstuvwxyz" t_LETTERS)))
    (m_LONGEST : PySem.W.nsIn K mainGlobals "LONGEST" = some (some (.int 8 t_LONGEST)))
    (z_abs : PySem.W.nsIn K mainGlobals "abs" = some none)
    (z_all : PySem.W.nsIn K mainGlobals "all" = some none)
    (z_enumerate : PySem.W.nsIn K mainGlobals "enumerate" = some none)
    (z_int : PySem.W.nsIn K mainGlobals "int" = some none)
    (z_isinstance : PySem.W.nsIn K mainGlobals "isinstance" = some none)
    (z_len : PySem.W.nsIn K mainGlobals "len" = some none)
    (z_list : PySem.W.nsIn K mainGlobals "list" = some none)
    (z_max : PySem.W.nsIn K mainGlobals "max" = some none)
    (z_min : PySem.W.nsIn K mainGlobals "min" = some none)
    (z_range : PySem.W.nsIn K mainGlobals "range" = some none)
    (z_repr : PySem.W.nsIn K mainGlobals "repr" = some none)
    (z_sorted : PySem.W.nsIn K mainGlobals "sorted" = some none)
    : ∃ (fd : FuncData) (TB : Tab), (∀ (s : Shared) (u : Value), BindsTo s fd ⟨[u], []⟩ [("script", u)]) ∧ ∀ base : Heap, K.In base → base.Ns mainGlobals mg → FnG l.prog w K mg base 9 fa fd ["script"] (spD K TB d_law 1) := by
  have hfl : x_law = fa := by
    cases hfa.symm.trans (PySem.W.mg_of X G a_law)
    rfl
  subst hfl
  have F_law_mill := fun_mk (st := s_law_mill) l_law_mill c_law_mill k_law_mill
  have F_law_grind := fun_mk (st := s_law_grind) l_law_grind c_law_grind k_law_grind
  have F_law_tribes := fun_mk (st := s_law_tribes) l_law_tribes c_law_tribes k_law_tribes
  have F_law_manual := fun_mk (st := s_law_manual) l_law_manual c_law_manual k_law_manual
  have F_law_no_name := fun_mk (st := s_law_no_name) l_law_no_name c_law_no_name k_law_no_name
  have F_law_spoilt := fun_mk (st := s_law_spoilt) l_law_spoilt c_law_spoilt k_law_spoilt
  have F_ErrInit := fun_mk (st := s_ErrInit) l_ErrInit c_ErrInit k_ErrInit
  have F_is_name := fun_mk (st := s_is_name) l_is_name c_is_name k_is_name
  have F_check_names := fun_mk (st := s_check_names) l_check_names c_check_names k_check_names
  have F_check_rule := fun_mk (st := s_check_rule) l_check_rule c_check_rule k_check_rule
  have F_check_rules := fun_mk (st := s_check_rules) l_check_rules c_check_rules k_check_rules
  have F_move_of := fun_mk (st := s_move_of) l_move_of c_move_of k_move_of
  have F_Book_init := fun_mk (st := s_Book_init) l_Book_init c_Book_init k_Book_init
  have F_law_caught := fun_mk (st := s_law_caught) l_law_caught c_law_caught k_law_caught
  have F_law_is_word := fun_mk (st := s_law_is_word) l_law_is_word c_law_is_word k_law_is_word
  have F_law_due := fun_mk (st := s_law_due) l_law_due c_law_due k_law_due
  have F_law_right := fun_mk (st := s_law_right) l_law_right c_law_right k_law_right
  have F_law := fun_mk (st := s_law) l_law c_law k_law
  let T : Tx K mg := {
    a_law_mill := x_law_mill, f_law_mill := (PySem.W.fnOf "_law_mill" "_law_mill" (defArgs s_law_mill) (defBody s_law_mill) (defScope s_law_mill) .none kV_law_mill dc_law_mill pm_law_mill an_law_mill cd_law_mill ct_law_mill), F_law_mill := F_law_mill
    b_law_mill := F_law_mill.binds (ps := ["script", "place"]) fun _ _ _ _ _ _ us hl => match us, hl with | [_, _], _ => rfl
    m_law_mill := PySem.W.mg_of X G a_law_mill, k_law_mill := k_law_mill
    a_law_grind := x_law_grind, f_law_grind := (PySem.W.fnOf "_law_grind" "_law_grind" (defArgs s_law_grind) (defBody s_law_grind) (defScope s_law_grind) .none kV_law_grind dc_law_grind pm_law_grind an_law_grind cd_law_grind ct_law_grind), F_law_grind := F_law_grind
    b_law_grind := F_law_grind.binds (ps := ["mill", "count"]) fun _ _ _ _ _ _ us hl => match us, hl with | [_, _], _ => rfl
    m_law_grind := PySem.W.mg_of X G a_law_grind, k_law_grind := k_law_grind
    a_law_tribes := x_law_tribes, f_law_tribes := (PySem.W.fnOf "_law_tribes" "_law_tribes" (defArgs s_law_tribes) (defBody s_law_tribes) (defScope s_law_tribes) .none kV_law_tribes dc_law_tribes pm_law_tribes an_law_tribes cd_law_tribes ct_law_tribes), F_law_tribes := F_law_tribes
    b_law_tribes := F_law_tribes.binds (ps := ["mill", "count"]) fun _ _ _ _ _ _ us hl => match us, hl with | [_, _], _ => rfl
    m_law_tribes := PySem.W.mg_of X G a_law_tribes, k_law_tribes := k_law_tribes
    a_law_manual := x_law_manual, f_law_manual := (PySem.W.fnOf "_law_manual" "_law_manual" (defArgs s_law_manual) (defBody s_law_manual) (defScope s_law_manual) .none kV_law_manual dc_law_manual pm_law_manual an_law_manual cd_law_manual ct_law_manual), F_law_manual := F_law_manual
    b_law_manual := F_law_manual.binds (ps := ["mill", "most", "count"]) fun _ _ _ _ _ _ us hl => match us, hl with | [_, _, _], _ => rfl
    m_law_manual := PySem.W.mg_of X G a_law_manual, k_law_manual := k_law_manual
    a_law_no_name := x_law_no_name, f_law_no_name := (PySem.W.fnOf "_law_no_name" "_law_no_name" (defArgs s_law_no_name) (defBody s_law_no_name) (defScope s_law_no_name) .none kV_law_no_name dc_law_no_name pm_law_no_name an_law_no_name cd_law_no_name ct_law_no_name), F_law_no_name := F_law_no_name
    b_law_no_name := F_law_no_name.binds (ps := ["mill", "kinds_here"]) fun _ _ _ _ _ _ us hl => match us, hl with | [_, _], _ => rfl
    m_law_no_name := PySem.W.mg_of X G a_law_no_name, k_law_no_name := k_law_no_name
    a_law_spoilt := x_law_spoilt, f_law_spoilt := (PySem.W.fnOf "_law_spoilt" "_law_spoilt" (defArgs s_law_spoilt) (defBody s_law_spoilt) (defScope s_law_spoilt) .none kV_law_spoilt dc_law_spoilt pm_law_spoilt an_law_spoilt cd_law_spoilt ct_law_spoilt), F_law_spoilt := F_law_spoilt
    b_law_spoilt := F_law_spoilt.binds (ps := ["mill", "kinds_here", "rules_here"]) fun _ _ _ _ _ _ us hl => match us, hl with | [_, _, _], _ => rfl
    m_law_spoilt := PySem.W.mg_of X G a_law_spoilt, k_law_spoilt := k_law_spoilt
    a_ErrInit := x_ErrInit, f_ErrInit := (PySem.W.fnOf "__init__" "CrowdError.__init__" (defArgs s_ErrInit) (defBody s_ErrInit) (defScope s_ErrInit) .none kV_ErrInit dc_ErrInit pm_ErrInit an_ErrInit cd_ErrInit ct_ErrInit), F_ErrInit := F_ErrInit
    b_ErrInit := F_ErrInit.binds (ps := ["self", "value"]) fun _ _ _ _ _ _ us hl => match us, hl with | [_, _], _ => rfl
    a_is_name := x_is_name, f_is_name := (PySem.W.fnOf "is_name" "is_name" (defArgs s_is_name) (defBody s_is_name) (defScope s_is_name) .none kV_is_name dc_is_name pm_is_name an_is_name cd_is_name ct_is_name), F_is_name := F_is_name
    b_is_name := F_is_name.binds (ps := ["name"]) fun _ _ _ _ _ _ us hl => match us, hl with | [_], _ => rfl
    m_is_name := PySem.W.mg_of X G a_is_name, k_is_name := k_is_name
    a_check_names := x_check_names, f_check_names := (PySem.W.fnOf "check_names" "check_names" (defArgs s_check_names) (defBody s_check_names) (defScope s_check_names) .none kV_check_names dc_check_names pm_check_names an_check_names cd_check_names ct_check_names), F_check_names := F_check_names
    b_check_names := F_check_names.binds (ps := ["kinds"]) fun _ _ _ _ _ _ us hl => match us, hl with | [_], _ => rfl
    m_check_names := PySem.W.mg_of X G a_check_names, k_check_names := k_check_names
    a_check_rule := x_check_rule, f_check_rule := (PySem.W.fnOf "check_rule" "check_rule" (defArgs s_check_rule) (defBody s_check_rule) (defScope s_check_rule) .none kV_check_rule dc_check_rule pm_check_rule an_check_rule cd_check_rule ct_check_rule), F_check_rule := F_check_rule
    b_check_rule := F_check_rule.binds (ps := ["kinds", "rule"]) fun _ _ _ _ _ _ us hl => match us, hl with | [_, _], _ => rfl
    m_check_rule := PySem.W.mg_of X G a_check_rule, k_check_rule := k_check_rule
    a_check_rules := x_check_rules, f_check_rules := (PySem.W.fnOf "check_rules" "check_rules" (defArgs s_check_rules) (defBody s_check_rules) (defScope s_check_rules) .none kV_check_rules dc_check_rules pm_check_rules an_check_rules cd_check_rules ct_check_rules), F_check_rules := F_check_rules
    b_check_rules := F_check_rules.binds (ps := ["kinds", "rules"]) fun _ _ _ _ _ _ us hl => match us, hl with | [_, _], _ => rfl
    m_check_rules := PySem.W.mg_of X G a_check_rules, k_check_rules := k_check_rules
    a_move_of := x_move_of, f_move_of := (PySem.W.fnOf "move_of" "move_of" (defArgs s_move_of) (defBody s_move_of) (defScope s_move_of) .none kV_move_of dc_move_of pm_move_of an_move_of cd_move_of ct_move_of), F_move_of := F_move_of
    b_move_of := F_move_of.binds (ps := ["kinds", "rule"]) fun _ _ _ _ _ _ us hl => match us, hl with | [_, _], _ => rfl
    m_move_of := PySem.W.mg_of X G a_move_of, k_move_of := k_move_of
    a_Book_init := x_Book_init, f_Book_init := (PySem.W.fnOf "__init__" "Book.__init__" (defArgs s_Book_init) (defBody s_Book_init) (defScope s_Book_init) .none kV_Book_init dc_Book_init pm_Book_init an_Book_init cd_Book_init ct_Book_init), F_Book_init := F_Book_init
    b_Book_init := F_Book_init.binds (ps := ["self", "kinds", "rules"]) fun _ _ _ _ _ _ us hl => match us, hl with | [_, _, _], _ => rfl
    a_law_caught := x_law_caught, f_law_caught := (PySem.W.fnOf "_law_caught" "_law_caught" (defArgs s_law_caught) (defBody s_law_caught) (defScope s_law_caught) .none kV_law_caught dc_law_caught pm_law_caught an_law_caught cd_law_caught ct_law_caught), F_law_caught := F_law_caught
    b_law_caught := F_law_caught.binds (ps := ["kinds_here", "rules_here", "way"]) fun _ _ _ _ _ _ us hl => match us, hl with | [_, _, _], _ => rfl
    m_law_caught := PySem.W.mg_of X G a_law_caught, k_law_caught := k_law_caught
    a_law_is_word := x_law_is_word, f_law_is_word := (PySem.W.fnOf "_law_is_word" "_law_is_word" (defArgs s_law_is_word) (defBody s_law_is_word) (defScope s_law_is_word) .none kV_law_is_word dc_law_is_word pm_law_is_word an_law_is_word cd_law_is_word ct_law_is_word), F_law_is_word := F_law_is_word
    b_law_is_word := F_law_is_word.binds (ps := ["text"]) fun _ _ _ _ _ _ us hl => match us, hl with | [_], _ => rfl
    m_law_is_word := PySem.W.mg_of X G a_law_is_word, k_law_is_word := k_law_is_word
    a_law_due := x_law_due, f_law_due := (PySem.W.fnOf "_law_due" "_law_due" (defArgs s_law_due) (defBody s_law_due) (defScope s_law_due) .none kV_law_due dc_law_due pm_law_due an_law_due cd_law_due ct_law_due), F_law_due := F_law_due
    b_law_due := F_law_due.binds (ps := ["kinds_here", "rules_here"]) fun _ _ _ _ _ _ us hl => match us, hl with | [_, _], _ => rfl
    m_law_due := PySem.W.mg_of X G a_law_due, k_law_due := k_law_due
    a_law_right := x_law_right, f_law_right := (PySem.W.fnOf "_law_right" "_law_right" (defArgs s_law_right) (defBody s_law_right) (defScope s_law_right) .none kV_law_right dc_law_right pm_law_right an_law_right cd_law_right ct_law_right), F_law_right := F_law_right
    b_law_right := F_law_right.binds (ps := ["mill"]) fun _ _ _ _ _ _ us hl => match us, hl with | [_], _ => rfl
    m_law_right := PySem.W.mg_of X G a_law_right, k_law_right := k_law_right
    a_law := x_law, f_law := (PySem.W.fnOf "law" "law" (defArgs s_law) (defBody s_law) (defScope s_law) .none kV_law dc_law pm_law an_law cd_law ct_law), F_law := F_law
    b_law := F_law.binds (ps := ["script"]) fun _ _ _ _ _ _ us hl => match us, hl with | [_], _ => rfl
    m_law := PySem.W.mg_of X G a_law, k_law := k_law
    a_CrowdError := x_CrowdError, m_CrowdError := PySem.W.mg_of X G a_CrowdError, x_CrowdError := xm_CrowdError
    e_CrowdError := ⟨⟨⟨_, _, _, _, _, _, _, _, _, _, _, _, _, _, _, xl_CrowdError, by rfl⟩, sa_CrowdError, ex_CrowdError, ty_CrowdError, kc_CrowdError⟩, ⟨ga_CrowdError, gg_CrowdError, ex_CrowdError, hd_CrowdError⟩, nv_CrowdError, (by obtain ⟨cd, hc, _⟩ := PySem.W.any_some hd_CrowdError; rw [hc]; rfl), ha_CrowdError, hn_, ht_, hm_CrowdError⟩
    ic_CrowdError := ic_CrowdError
    kit_CrowdError_DoubleName := kit_CrowdError_DoubleName
    kit_CrowdError_DoubleRule := kit_CrowdError_DoubleRule
    kit_CrowdError_InvalidName := kit_CrowdError_InvalidName
    kit_CrowdError_InvalidRule := kit_CrowdError_InvalidRule
    a_InvalidName := x_InvalidName, m_InvalidName := PySem.W.mg_of X G a_InvalidName, x_InvalidName := xm_InvalidName
    e_InvalidName := ⟨⟨⟨_, _, _, _, _, _, _, _, _, _, _, _, _, _, _, xl_InvalidName, by rfl⟩, sa_InvalidName, ex_InvalidName, ty_InvalidName, kc_InvalidName⟩, ⟨ga_InvalidName, gg_InvalidName, ex_InvalidName, hd_InvalidName⟩, nv_InvalidName, (by obtain ⟨cd, hc, _⟩ := PySem.W.any_some hd_InvalidName; rw [hc]; rfl), ha_InvalidName, hn_, ht_, hm_InvalidName⟩
    ic_InvalidName := ic_InvalidName
    kit_InvalidName_DoubleName := kit_InvalidName_DoubleName
    kit_InvalidName_DoubleRule := kit_InvalidName_DoubleRule
    kit_InvalidName_InvalidName := kit_InvalidName_InvalidName
    kit_InvalidName_InvalidRule := kit_InvalidName_InvalidRule
    a_DoubleName := x_DoubleName, m_DoubleName := PySem.W.mg_of X G a_DoubleName, x_DoubleName := xm_DoubleName
    e_DoubleName := ⟨⟨⟨_, _, _, _, _, _, _, _, _, _, _, _, _, _, _, xl_DoubleName, by rfl⟩, sa_DoubleName, ex_DoubleName, ty_DoubleName, kc_DoubleName⟩, ⟨ga_DoubleName, gg_DoubleName, ex_DoubleName, hd_DoubleName⟩, nv_DoubleName, (by obtain ⟨cd, hc, _⟩ := PySem.W.any_some hd_DoubleName; rw [hc]; rfl), ha_DoubleName, hn_, ht_, hm_DoubleName⟩
    ic_DoubleName := ic_DoubleName
    kit_DoubleName_DoubleName := kit_DoubleName_DoubleName
    kit_DoubleName_DoubleRule := kit_DoubleName_DoubleRule
    kit_DoubleName_InvalidName := kit_DoubleName_InvalidName
    kit_DoubleName_InvalidRule := kit_DoubleName_InvalidRule
    a_InvalidRule := x_InvalidRule, m_InvalidRule := PySem.W.mg_of X G a_InvalidRule, x_InvalidRule := xm_InvalidRule
    e_InvalidRule := ⟨⟨⟨_, _, _, _, _, _, _, _, _, _, _, _, _, _, _, xl_InvalidRule, by rfl⟩, sa_InvalidRule, ex_InvalidRule, ty_InvalidRule, kc_InvalidRule⟩, ⟨ga_InvalidRule, gg_InvalidRule, ex_InvalidRule, hd_InvalidRule⟩, nv_InvalidRule, (by obtain ⟨cd, hc, _⟩ := PySem.W.any_some hd_InvalidRule; rw [hc]; rfl), ha_InvalidRule, hn_, ht_, hm_InvalidRule⟩
    ic_InvalidRule := ic_InvalidRule
    kit_InvalidRule_DoubleName := kit_InvalidRule_DoubleName
    kit_InvalidRule_DoubleRule := kit_InvalidRule_DoubleRule
    kit_InvalidRule_InvalidName := kit_InvalidRule_InvalidName
    kit_InvalidRule_InvalidRule := kit_InvalidRule_InvalidRule
    a_DoubleRule := x_DoubleRule, m_DoubleRule := PySem.W.mg_of X G a_DoubleRule, x_DoubleRule := xm_DoubleRule
    e_DoubleRule := ⟨⟨⟨_, _, _, _, _, _, _, _, _, _, _, _, _, _, _, xl_DoubleRule, by rfl⟩, sa_DoubleRule, ex_DoubleRule, ty_DoubleRule, kc_DoubleRule⟩, ⟨ga_DoubleRule, gg_DoubleRule, ex_DoubleRule, hd_DoubleRule⟩, nv_DoubleRule, (by obtain ⟨cd, hc, _⟩ := PySem.W.any_some hd_DoubleRule; rw [hc]; rfl), ha_DoubleRule, hn_, ht_, hm_DoubleRule⟩
    ic_DoubleRule := ic_DoubleRule
    kit_DoubleRule_DoubleName := kit_DoubleRule_DoubleName
    kit_DoubleRule_DoubleRule := kit_DoubleRule_DoubleRule
    kit_DoubleRule_InvalidName := kit_DoubleRule_InvalidName
    kit_DoubleRule_InvalidRule := kit_DoubleRule_InvalidRule
    ti_ErrInit := ti_ErrInit
    a_Book := x_Book, m_Book := PySem.W.mg_of X G a_Book, c_Book := ⟨pg_Book, hd_Book, po_Book, sa_Book⟩, i_Book := ⟨ha_Book, hn_, ht_, hm_Book⟩
    mk_Book := ⟨mk_Book, g_Book_init, i_Book_init, kc_Book⟩
    n_Book_kinds := n_Book_kinds
    n_Book_moves := n_Book_moves
    t_LETTERS := t_LETTERS, m_LETTERS := PySem.W.mg_of X G m_LETTERS
    t_LONGEST := t_LONGEST, m_LONGEST := PySem.W.mg_of X G m_LONGEST
    z_abs := PySem.W.mg_none_of X G z_abs
    z_all := PySem.W.mg_none_of X G z_all
    z_enumerate := PySem.W.mg_none_of X G z_enumerate
    z_int := PySem.W.mg_none_of X G z_int
    z_isinstance := PySem.W.mg_none_of X G z_isinstance
    z_len := PySem.W.mg_none_of X G z_len
    z_list := PySem.W.mg_none_of X G z_list
    z_max := PySem.W.mg_none_of X G z_max
    z_min := PySem.W.mg_none_of X G z_min
    z_range := PySem.W.mg_none_of X G z_range
    z_repr := PySem.W.mg_none_of X G z_repr
    z_sorted := PySem.W.mg_none_of X G z_sorted
    kb_Book_init_10 := fun s us ws _ h1 h2 => match us, ws, h1, h2 with | [_], [_, _], _, _ => .of_eq rfl
  }
  exact ⟨T.f_law, T.tab, fun s v => .of_eq rfl, fun base _ _ => ok_law T⟩

end Qk18

open PySem PySem.W PyProof.Rows
set_option maxRecDepth 100000 in
set_option maxHeartbeats 0 in
theorem PySem.Challenge.cw_lookcrowd_k18_errors_of_books_holds : PySem.Challenge.rw_lookcrowd_k18_errors_of_books.Holds := by
  w_on; o_law; k_head; (case hw => w_witness2)
  k_fill
  refine L3.walkG (l := PySem.Challenge.rw_lookcrowd_k18_errors_of_books) (n := 63) (k := 9) (x := "script") (g := Qk18.d_law) rfl (by decide) rfl ⟨rfl, by decide, by decide⟩ rfl (fun w h Y => PySem.W.kIn_of Y) ?F Qk18.fun_law
  case F =>
    intro w mg fa h KX G hmg
    refine' Qk18.all_mk KX G hmg ?a_law_mill ?l_law_mill ?c_law_mill ?k_law_mill ?a_law_grind ?l_law_grind ?c_law_grind ?k_law_grind ?a_law_tribes ?l_law_tribes ?c_law_tribes ?k_law_tribes ?a_law_manual ?l_law_manual ?c_law_manual ?k_law_manual ?a_law_no_name ?l_law_no_name ?c_law_no_name ?k_law_no_name ?a_law_spoilt ?l_law_spoilt ?c_law_spoilt ?k_law_spoilt ?a_is_name ?l_is_name ?c_is_name ?k_is_name ?a_check_names ?l_check_names ?c_check_names ?k_check_names ?a_check_rule ?l_check_rule ?c_check_rule ?k_check_rule ?a_check_rules ?l_check_rules ?c_check_rules ?k_check_rules ?a_move_of ?l_move_of ?c_move_of ?k_move_of ?a_law_caught ?l_law_caught ?c_law_caught ?k_law_caught ?a_law_is_word ?l_law_is_word ?c_law_is_word ?k_law_is_word ?a_law_due ?l_law_due ?c_law_due ?k_law_due ?a_law_right ?l_law_right ?c_law_right ?k_law_right ?a_law ?l_law ?c_law ?k_law ?a_CrowdError ?xl_CrowdError ?sa_CrowdError ?ga_CrowdError ?gg_CrowdError ?nv_CrowdError ?kc_CrowdError ?ex_CrowdError ?ty_CrowdError ?hd_CrowdError ?ha_CrowdError ?hm_CrowdError ?xm_CrowdError ?ic_CrowdError ?a_InvalidName ?xl_InvalidName ?sa_InvalidName ?ga_InvalidName ?gg_InvalidName ?nv_InvalidName ?kc_InvalidName ?ex_InvalidName ?ty_InvalidName ?hd_InvalidName ?ha_InvalidName ?hm_InvalidName ?xm_InvalidName ?ic_InvalidName ?a_DoubleName ?xl_DoubleName ?sa_DoubleName ?ga_DoubleName ?gg_DoubleName ?nv_DoubleName ?kc_DoubleName ?ex_DoubleName ?ty_DoubleName ?hd_DoubleName ?ha_DoubleName ?hm_DoubleName ?xm_DoubleName ?ic_DoubleName ?a_InvalidRule ?xl_InvalidRule ?sa_InvalidRule ?ga_InvalidRule ?gg_InvalidRule ?nv_InvalidRule ?kc_InvalidRule ?ex_InvalidRule ?ty_InvalidRule ?hd_InvalidRule ?ha_InvalidRule ?hm_InvalidRule ?xm_InvalidRule ?ic_InvalidRule ?a_DoubleRule ?xl_DoubleRule ?sa_DoubleRule ?ga_DoubleRule ?gg_DoubleRule ?nv_DoubleRule ?kc_DoubleRule ?ex_DoubleRule ?ty_DoubleRule ?hd_DoubleRule ?ha_DoubleRule ?hm_DoubleRule ?xm_DoubleRule ?ic_DoubleRule ?kit_CrowdError_DoubleName ?kit_CrowdError_DoubleRule ?kit_CrowdError_InvalidName ?kit_CrowdError_InvalidRule ?kit_InvalidName_DoubleName ?kit_InvalidName_DoubleRule ?kit_InvalidName_InvalidName ?kit_InvalidName_InvalidRule ?kit_DoubleName_DoubleName ?kit_DoubleName_DoubleRule ?kit_DoubleName_InvalidName ?kit_DoubleName_InvalidRule ?kit_InvalidRule_DoubleName ?kit_InvalidRule_DoubleRule ?kit_InvalidRule_InvalidName ?kit_InvalidRule_InvalidRule ?kit_DoubleRule_DoubleName ?kit_DoubleRule_DoubleRule ?kit_DoubleRule_InvalidName ?kit_DoubleRule_InvalidRule ?l_ErrInit ?c_ErrInit ?k_ErrInit ?ti_ErrInit ?a_Book ?g_Book_init ?i_Book_init ?l_Book_init ?c_Book_init ?k_Book_init ?pg_Book ?hd_Book ?po_Book ?sa_Book ?mk_Book ?kc_Book ?ha_Book ?hm_Book ?n_Book_kinds ?n_Book_moves ?hn_ ?ht_ ?m_LETTERS ?m_LONGEST ?z_abs ?z_all ?z_enumerate ?z_int ?z_isinstance ?z_len ?z_list ?z_max ?z_min ?z_range ?z_repr ?z_sorted
    (case a_law_mill => k_is)
    (case l_law_mill => k_is)
    (case c_law_mill => k_is)
    (case k_law_mill => k_is)
    (case a_law_grind => k_is)
    (case l_law_grind => k_is)
    (case c_law_grind => k_is)
    (case k_law_grind => k_is)
    (case a_law_tribes => k_is)
    (case l_law_tribes => k_is)
    (case c_law_tribes => k_is)
    (case k_law_tribes => k_is)
    (case a_law_manual => k_is)
    (case l_law_manual => k_is)
    (case c_law_manual => k_is)
    (case k_law_manual => k_is)
    (case a_law_no_name => k_is)
    (case l_law_no_name => k_is)
    (case c_law_no_name => k_is)
    (case k_law_no_name => k_is)
    (case a_law_spoilt => k_is)
    (case l_law_spoilt => k_is)
    (case c_law_spoilt => k_is)
    (case k_law_spoilt => k_is)
    (case a_is_name => k_is)
    (case l_is_name => k_is)
    (case c_is_name => k_is)
    (case k_is_name => k_is)
    (case a_check_names => k_is)
    (case l_check_names => k_is)
    (case c_check_names => k_is)
    (case k_check_names => k_is)
    (case a_check_rule => k_is)
    (case l_check_rule => k_is)
    (case c_check_rule => k_is)
    (case k_check_rule => k_is)
    (case a_check_rules => k_is)
    (case l_check_rules => k_is)
    (case c_check_rules => k_is)
    (case k_check_rules => k_is)
    (case a_move_of => k_is)
    (case l_move_of => k_is)
    (case c_move_of => k_is)
    (case k_move_of => k_is)
    (case a_law_caught => k_is)
    (case l_law_caught => k_is)
    (case c_law_caught => k_is)
    (case k_law_caught => k_is)
    (case a_law_is_word => k_is)
    (case l_law_is_word => k_is)
    (case c_law_is_word => k_is)
    (case k_law_is_word => k_is)
    (case a_law_due => k_is)
    (case l_law_due => k_is)
    (case c_law_due => k_is)
    (case k_law_due => k_is)
    (case a_law_right => k_is)
    (case l_law_right => k_is)
    (case c_law_right => k_is)
    (case k_law_right => k_is)
    (case a_law => k_is)
    (case l_law => k_is)
    (case c_law => k_is)
    (case k_law => k_is)
    (case a_CrowdError => k_is)
    (case xl_CrowdError => k_is)
    (case sa_CrowdError => k_is)
    (case ga_CrowdError => k_is)
    (case gg_CrowdError => k_is)
    (case nv_CrowdError => k_is)
    (case kc_CrowdError => k_is)
    (case ex_CrowdError => first | k_is | rfl | decide +kernel)
    (case ty_CrowdError => k_is)
    (case hd_CrowdError => k_is)
    (case ha_CrowdError => k_is)
    (case hm_CrowdError => k_is)
    (case xm_CrowdError => first | k_is | rfl | decide +kernel)
    (case ic_CrowdError => k_is)
    (case a_InvalidName => k_is)
    (case xl_InvalidName => k_is)
    (case sa_InvalidName => k_is)
    (case ga_InvalidName => k_is)
    (case gg_InvalidName => k_is)
    (case nv_InvalidName => k_is)
    (case kc_InvalidName => k_is)
    (case ex_InvalidName => first | k_is | rfl | decide +kernel)
    (case ty_InvalidName => k_is)
    (case hd_InvalidName => k_is)
    (case ha_InvalidName => k_is)
    (case hm_InvalidName => k_is)
    (case xm_InvalidName => first | k_is | rfl | decide +kernel)
    (case ic_InvalidName => k_is)
    (case a_DoubleName => k_is)
    (case xl_DoubleName => k_is)
    (case sa_DoubleName => k_is)
    (case ga_DoubleName => k_is)
    (case gg_DoubleName => k_is)
    (case nv_DoubleName => k_is)
    (case kc_DoubleName => k_is)
    (case ex_DoubleName => first | k_is | rfl | decide +kernel)
    (case ty_DoubleName => k_is)
    (case hd_DoubleName => k_is)
    (case ha_DoubleName => k_is)
    (case hm_DoubleName => k_is)
    (case xm_DoubleName => first | k_is | rfl | decide +kernel)
    (case ic_DoubleName => k_is)
    (case a_InvalidRule => k_is)
    (case xl_InvalidRule => k_is)
    (case sa_InvalidRule => k_is)
    (case ga_InvalidRule => k_is)
    (case gg_InvalidRule => k_is)
    (case nv_InvalidRule => k_is)
    (case kc_InvalidRule => k_is)
    (case ex_InvalidRule => first | k_is | rfl | decide +kernel)
    (case ty_InvalidRule => k_is)
    (case hd_InvalidRule => k_is)
    (case ha_InvalidRule => k_is)
    (case hm_InvalidRule => k_is)
    (case xm_InvalidRule => first | k_is | rfl | decide +kernel)
    (case ic_InvalidRule => k_is)
    (case a_DoubleRule => k_is)
    (case xl_DoubleRule => k_is)
    (case sa_DoubleRule => k_is)
    (case ga_DoubleRule => k_is)
    (case gg_DoubleRule => k_is)
    (case nv_DoubleRule => k_is)
    (case kc_DoubleRule => k_is)
    (case ex_DoubleRule => first | k_is | rfl | decide +kernel)
    (case ty_DoubleRule => k_is)
    (case hd_DoubleRule => k_is)
    (case ha_DoubleRule => k_is)
    (case hm_DoubleRule => k_is)
    (case xm_DoubleRule => first | k_is | rfl | decide +kernel)
    (case ic_DoubleRule => k_is)
    (case kit_CrowdError_DoubleName => first | k_is | rfl | decide +kernel)
    (case kit_CrowdError_DoubleRule => first | k_is | rfl | decide +kernel)
    (case kit_CrowdError_InvalidName => first | k_is | rfl | decide +kernel)
    (case kit_CrowdError_InvalidRule => first | k_is | rfl | decide +kernel)
    (case kit_InvalidName_DoubleName => first | k_is | rfl | decide +kernel)
    (case kit_InvalidName_DoubleRule => first | k_is | rfl | decide +kernel)
    (case kit_InvalidName_InvalidName => first | k_is | rfl | decide +kernel)
    (case kit_InvalidName_InvalidRule => first | k_is | rfl | decide +kernel)
    (case kit_DoubleName_DoubleName => first | k_is | rfl | decide +kernel)
    (case kit_DoubleName_DoubleRule => first | k_is | rfl | decide +kernel)
    (case kit_DoubleName_InvalidName => first | k_is | rfl | decide +kernel)
    (case kit_DoubleName_InvalidRule => first | k_is | rfl | decide +kernel)
    (case kit_InvalidRule_DoubleName => first | k_is | rfl | decide +kernel)
    (case kit_InvalidRule_DoubleRule => first | k_is | rfl | decide +kernel)
    (case kit_InvalidRule_InvalidName => first | k_is | rfl | decide +kernel)
    (case kit_InvalidRule_InvalidRule => first | k_is | rfl | decide +kernel)
    (case kit_DoubleRule_DoubleName => first | k_is | rfl | decide +kernel)
    (case kit_DoubleRule_DoubleRule => first | k_is | rfl | decide +kernel)
    (case kit_DoubleRule_InvalidName => first | k_is | rfl | decide +kernel)
    (case kit_DoubleRule_InvalidRule => first | k_is | rfl | decide +kernel)
    (case l_ErrInit => k_is)
    (case c_ErrInit => k_is)
    (case k_ErrInit => k_is)
    (case ti_ErrInit => k_is)
    (case a_Book => k_is)
    (case g_Book_init => k_is)
    (case i_Book_init => k_is)
    (case l_Book_init => k_is)
    (case c_Book_init => k_is)
    (case k_Book_init => k_is)
    (case pg_Book => k_is)
    (case hd_Book => k_is)
    (case po_Book => k_is)
    (case sa_Book => k_is)
    (case mk_Book => k_is)
    (case kc_Book => k_is)
    (case ha_Book => k_is)
    (case hm_Book => k_is)
    (case n_Book_kinds => k_is)
    (case n_Book_moves => k_is)
    (case hn_ => k_is)
    (case ht_ => k_is)
    (case m_LETTERS => k_is)
    (case m_LONGEST => k_is)
    (case z_abs => k_is)
    (case z_all => k_is)
    (case z_enumerate => k_is)
    (case z_int => k_is)
    (case z_isinstance => k_is)
    (case z_len => k_is)
    (case z_list => k_is)
    (case z_max => k_is)
    (case z_min => k_is)
    (case z_range => k_is)
    (case z_repr => k_is)
    (case z_sorted => k_is)
