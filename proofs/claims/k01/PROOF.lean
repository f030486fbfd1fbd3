import PyProof.Rows.All
import Wide.All
import OpenK.AllK
import Wide.FinOn
import HandS.Base
import HandS.Call
import HandS.List
import HandS.Comp
import HandS.Ends
import HandS.Dict
import HandS.Words
import HandS.Text
import HandS.Conv
import HandS.TupAny
import HandS.IsInst
import HandS.Wide
import HandS.SetKeys
import HandS.DictComp
import PySem.Challenge.RW_safeturn_k01_terms
set_option Elab.async false
set_option linter.all false
set_option maxRecDepth 100000
set_option maxHeartbeats 4000000
namespace Vm
open PySem L2

/-! ## pure values, the store of what may change, results -/
inductive PV where
  | non | bl (b : Bool) | int (i : Int) | str (x : Str)
  | tup (xs : List PV) | lst (xs : List PV) | dct (ks : List Key) (xs : List PV) | sset (xs : List Str)
  | scr (ns : List Int) | loc (n : Nat)
  deriving Inhabited
abbrev VSt := List PV
abbrev VEnv := List (Option PV)

mutual
/-- scalars, and tuples of them -/
def pureP : PV → Bool
  | .non => true | .bl _ => true | .int _ => true | .str _ => true
  | .tup xs => pures xs
  | _ => false
def pures : List PV → Bool
  | [] => true
  | x :: r => pureP x && pures r
end
/-- what may stand in the store: a list, a dict, a set of such -/
def noLoc : PV → Bool
  | .lst xs => pures xs
  | .dct _ xs => pures xs
  | .sset _ => true
  | _ => false
mutual
/-- locs from k on are read off the store -/
def freeze (st : VSt) (k : Nat) : PV → PV
  | .loc n => if n < k then .loc n else st.getD n .non
  | .tup xs => .tup (freezes st k xs)
  | .lst xs => .lst (freezes st k xs)
  | .dct ks xs => .dct ks (freezes st k xs)
  | p => p
def freezes (st : VSt) (k : Nat) : List PV → List PV
  | [] => []
  | x :: r => freeze st k x :: freezes st k r
end
def deref (st : VSt) : PV → PV
  | .loc n => st.getD n .non
  | p => p

/-- what the relation is over: the program, its world, the written part, the hidden addresses -/
structure Gx where
  P : Program
  w : World
  K : PySem.W.Frag
  hid : List Addr
def memb (xs : List Str) : Key → Bool
  | .inl _ => false
  | .inr x => decide (x ∈ xs)

def Scr (G : Gx) (ρ : List Addr) (H : Hp) (a : Addr) (xs : List V) : Prop :=
  (Rd H a (.lst xs) ∧ a ∉ ρ ∧ a ∉ G.hid) ∨ ∃ (o : Obj) (its : Array Value) (n : Nat), G.K.lookup a = some o ∧ o.cls = .type "list" ∧ o.dict = none ∧ o.data = .seq its n ∧ its.size ≤ sizeLine ∧ Vals xs its.toList
def SetO' (G : Gx) (a : Addr) (xs : List Str) : HO := .ext fun h => h.SetOf (mixKind G.P G.w) a (memb xs) xs.length

mutual
def Rep (G : Gx) (ρ : List Addr) (H : Hp) : PV → V → Prop
  | .non, v => v = .non
  | .bl b, v => v = .bl b
  | .int i, v => v = .int i
  | .str x, v => v = .str x
  | .tup xs, v => ∃ a vs, v = .ref a ∧ SqT G.K H a vs ∧ Reps G ρ H xs vs
  | .lst xs, v => ∃ a vs, v = .ref a ∧ a ∉ ρ ∧ a ∉ G.hid ∧ H a = some (.lst vs) ∧ Reps G ρ H xs vs
  | .dct ks xs, v => ∃ a vs, v = .ref a ∧ a ∉ ρ ∧ a ∉ G.hid ∧ ks.length = vs.length ∧ H a = some (.dK (ks.zip vs)) ∧ Reps G ρ H xs vs
  | .sset xs, v => ∃ a, v = .ref a ∧ a ∉ ρ ∧ a ∉ G.hid ∧ H a = some (SetO' G a xs)
  | .scr ns, v => ∃ a, v = .ref a ∧ Scr G ρ H a (ns.map V.int)
  | .loc n, v => ∃ a, v = .ref a ∧ ρ[n]? = some a
def Reps (G : Gx) (ρ : List Addr) (H : Hp) : List PV → List V → Prop
  | [], vs => vs = []
  | p :: ps, vs => ∃ v r, vs = v :: r ∧ Rep G ρ H p v ∧ Reps G ρ H ps r
end

structure Later (ρ : List Addr) (H : Hp) (ρ' : List Addr) (H' : Hp) : Prop where
  ext : ∃ δ, ρ' = ρ ++ δ ∧ ∀ p ∈ δ, H p = none
  keep : ∀ a o, H a = some o → a ∉ ρ → H' a = some o
  dom : ∀ a o, H a = some o → ∃ o', H' a = some o'
  tup : ∀ a xs, H a = some (.tup xs) → H' a = some (.tup xs)
  frz : ∀ a o u, H a = some (.frz o u) → H' a = some (.frz o u)
theorem Later.refl (ρ : List Addr) (H : Hp) : Later ρ H ρ H := ⟨⟨[], by simp, by simp⟩, fun _ _ h _ => h, fun _ o h => ⟨o, h⟩, fun _ _ h => h, fun _ _ _ h => h⟩
theorem Later.back {ρ ρ' : List Addr} {H H' : Hp} (l : Later ρ H ρ' H') {a : Addr} (h : H' a = none) : H a = none := by
  cases e : H a with
  | none => rfl
  | some o => obtain ⟨o', e'⟩ := l.dom a o e; rw [h] at e'; cases e'
theorem Later.nin {ρ ρ' : List Addr} {H H' : Hp} (l : Later ρ H ρ' H') {a : Addr} {o : HO} (h : H a = some o) (n : a ∉ ρ) : a ∉ ρ' := by
  obtain ⟨δ, rfl, hδ⟩ := l.ext
  intro hm
  rcases List.mem_append.mp hm with z | z
  · exact n z
  · rw [hδ a z] at h; cases h
theorem Later.trans {ρ ρ1 ρ2 : List Addr} {H H1 H2 : Hp} (l : Later ρ H ρ1 H1) (m : Later ρ1 H1 ρ2 H2) : Later ρ H ρ2 H2 where
  ext := by
    obtain ⟨δ, e, hδ⟩ := l.ext
    obtain ⟨ε, e', hε⟩ := m.ext
    refine ⟨δ ++ ε, by rw [e', e, List.append_assoc], fun p hp => ?_⟩
    rcases List.mem_append.mp hp with z | z
    · exact hδ p z
    · exact l.back (hε p z)
  keep := fun a o h n => m.keep a o (l.keep a o h n) (l.nin h n)
  dom := fun a o h => by obtain ⟨o', h'⟩ := l.dom a o h; exact m.dom a o' h'
  tup := fun a xs h => m.tup a xs (l.tup a xs h)
  frz := fun a o u h => m.frz a o u (l.frz a o u h)
theorem Later.new {ρ : List Addr} {H : Hp} {p : Addr} {o : HO} (h : H p = none) : Later ρ H ρ (upd H p o) where
  ext := ⟨[], by simp, by simp⟩
  keep := fun a u e _ => by rw [upd_ne (ne_of_none e h)]; exact e
  dom := fun a u e => ⟨u, by rw [upd_ne (ne_of_none e h)]; exact e⟩
  tup := fun a u e => by rw [upd_ne (ne_of_none e h)]; exact e
  frz := fun a u z e => by rw [upd_ne (ne_of_none e h)]; exact e
/-- a new object that is boxed -/
theorem Later.box {ρ : List Addr} {H : Hp} {p : Addr} (h : H p = none) : Later ρ H (ρ ++ [p]) H where
  ext := ⟨[p], rfl, fun q hq => by obtain rfl := List.mem_singleton.mp hq; exact h⟩
  keep := fun a u e _ => e
  dom := fun a u e => ⟨u, e⟩
  tup := fun a u e => e
  frz := fun a u z e => e
/-- an object that H doesn't know changes -/
theorem Later.mut {ρ ρ' : List Addr} {H H' : Hp} (l : Later ρ H ρ' H') {p : Addr} {o : HO} (h : H p = none) : Later ρ H ρ' (upd H' p o) where
  ext := l.ext
  keep := fun a u e n => by rw [upd_ne (ne_of_none e h)]; exact l.keep a u e n
  dom := fun a u e => by rw [upd_ne (ne_of_none e h)]; exact l.dom a u e
  tup := fun a u e => by rw [upd_ne (ne_of_none e h)]; exact l.tup a u e
  frz := fun a u z e => by rw [upd_ne (ne_of_none e h)]; exact l.frz a u z e

theorem rd_later {ρ ρ' : List Addr} {H H' : Hp} (l : Later ρ H ρ' H') {a : Addr} {u : HO} (h : Rd H a u) (n : a ∉ ρ) : Rd H' a u ∧ a ∉ ρ' := by
  rcases h with h | ⟨o, h⟩
  · exact ⟨.inl (l.keep a _ h n), l.nin h n⟩
  · exact ⟨.inr ⟨o, l.frz a o u h⟩, l.nin h n⟩
theorem sqT_later {K : PySem.W.Frag} {ρ ρ' : List Addr} {H H' : Hp} (l : Later ρ H ρ' H') {a : Addr} {xs : List V} (h : SqT K H a xs) : SqT K H' a xs := by
  rcases h with (h | ⟨o, h⟩) | h
  · exact .inl (.inl (l.tup a _ h))
  · exact .inl (.inr ⟨o, l.frz a o _ h⟩)
  · exact .inr h
theorem scr_later {G : Gx} {ρ ρ' : List Addr} {H H' : Hp} (l : Later ρ H ρ' H') {a : Addr} {xs : List V} (h : Scr G ρ H a xs) : Scr G ρ' H' a xs := by
  rcases h with ⟨h, n, n2⟩ | h
  · exact .inl ⟨(rd_later l h n).1, (rd_later l h n).2, n2⟩
  · exact .inr h
theorem scr_sq {G : Gx} {ρ : List Addr} {H : Hp} {a : Addr} {xs : List V} (h : Scr G ρ H a xs) : SqL G.K H a xs := by
  rcases h with ⟨h, _⟩ | h
  · exact .inl h
  · exact .inr h
mutual
theorem Rep.later {G : Gx} {ρ ρ' : List Addr} {H H' : Hp} (l : Later ρ H ρ' H') : ∀ (p : PV) (v : V), Rep G ρ H p v → Rep G ρ' H' p v
  | .non, v, h => h
  | .bl b, v, h => h
  | .int i, v, h => h
  | .str x, v, h => h
  | .tup xs, v, h => by
    obtain ⟨a, vs, e, s, r⟩ := h
    exact ⟨a, vs, e, sqT_later l s, Reps.later l xs vs r⟩
  | .lst xs, v, h => by
    obtain ⟨a, vs, e, n, n2, s, r⟩ := h
    exact ⟨a, vs, e, l.nin s n, n2, l.keep _ _ s n, Reps.later l xs vs r⟩
  | .dct ks xs, v, h => by
    obtain ⟨a, vs, e, n, n2, z, s, r⟩ := h
    exact ⟨a, vs, e, l.nin s n, n2, z, l.keep _ _ s n, Reps.later l xs vs r⟩
  | .sset xs, v, h => by
    obtain ⟨a, e, n, n2, s⟩ := h
    exact ⟨a, e, l.nin s n, n2, l.keep _ _ s n⟩
  | .scr ns, v, h => by
    obtain ⟨a, e, s⟩ := h
    exact ⟨a, e, scr_later l s⟩
  | .loc n, v, h => by
    obtain ⟨a, e, s⟩ := h
    obtain ⟨δ, rfl, _⟩ := l.ext
    exact ⟨a, e, by rw [List.getElem?_append_left (List.getElem?_eq_some_iff.mp s).1]; exact s⟩
theorem Reps.later {G : Gx} {ρ ρ' : List Addr} {H H' : Hp} (l : Later ρ H ρ' H') : ∀ (ps : List PV) (vs : List V), Reps G ρ H ps vs → Reps G ρ' H' ps vs
  | [], vs, h => h
  | p :: ps, vs, h => by
    obtain ⟨v, r, e, h1, h2⟩ := h
    exact ⟨v, r, e, Rep.later l p v h1, Reps.later l ps r h2⟩
end
theorem Reps.length {G : Gx} {ρ : List Addr} {H : Hp} : ∀ {ps : List PV} {vs : List V}, Reps G ρ H ps vs → vs.length = ps.length
  | [], vs, h => by rw [show vs = [] from h]; rfl
  | p :: ps, vs, h => by
    obtain ⟨v, r, rfl, _, h2⟩ := h
    rw [List.length_cons, List.length_cons, Reps.length h2]
theorem Reps.get {G : Gx} {ρ : List Addr} {H : Hp} : ∀ {ps : List PV} {vs : List V} {i : Nat} {p : PV}, Reps G ρ H ps vs → ps[i]? = some p → ∃ v, vs[i]? = some v ∧ Rep G ρ H p v
  | [], _, _, _, _, e => by simp at e
  | q :: ps, vs, 0, p, h, e => by
    obtain ⟨v, r, rfl, h1, _⟩ := h
    have e : q = p := by simpa using e
    subst e
    exact ⟨v, rfl, h1⟩
  | q :: ps, vs, i + 1, p, h, e => by
    obtain ⟨v, r, rfl, _, h2⟩ := h
    obtain ⟨u, a, b⟩ := Reps.get (i := i) h2 (by simpa using e)
    exact ⟨u, by simpa using a, b⟩
theorem Reps.append {G : Gx} {ρ : List Addr} {H : Hp} : ∀ {ps qs : List PV} {vs ws : List V}, Reps G ρ H ps vs → Reps G ρ H qs ws → Reps G ρ H (ps ++ qs) (vs ++ ws)
  | [], _, vs, _, h, k => by rw [show vs = [] from h]; exact k
  | p :: ps, _, vs, _, h, k => by
    obtain ⟨v, r, rfl, h1, h2⟩ := h
    exact ⟨v, _, rfl, h1, Reps.append h2 k⟩
theorem Reps.one {G : Gx} {ρ : List Addr} {H : Hp} {p : PV} {v : V} (h : Rep G ρ H p v) : Reps G ρ H [p] [v] := ⟨v, [], rfl, h, rfl⟩
theorem Reps.take {G : Gx} {ρ : List Addr} {H : Hp} : ∀ {ps : List PV} {vs : List V} (n : Nat), Reps G ρ H ps vs → Reps G ρ H (ps.take n) (vs.take n)
  | _, _, 0, _ => rfl
  | [], vs, _ + 1, h => by rw [show vs = [] from h]; rfl
  | p :: ps, vs, n + 1, h => by
    obtain ⟨v, r, rfl, h1, h2⟩ := h
    exact ⟨v, _, rfl, h1, Reps.take n h2⟩
theorem Reps.drop {G : Gx} {ρ : List Addr} {H : Hp} : ∀ {ps : List PV} {vs : List V} (n : Nat), Reps G ρ H ps vs → Reps G ρ H (ps.drop n) (vs.drop n)
  | _, _, 0, h => h
  | [], vs, _ + 1, h => by rw [show vs = [] from h]; rfl
  | p :: ps, vs, n + 1, h => by
    obtain ⟨v, r, rfl, _, h2⟩ := h
    exact Reps.drop n h2
theorem Reps.set {G : Gx} {ρ : List Addr} {H : Hp} {p : PV} {v : V} (h : Rep G ρ H p v) : ∀ {ps : List PV} {vs : List V} (n : Nat), Reps G ρ H ps vs → Reps G ρ H (ps.set n p) (vs.set n v)
  | [], vs, _, k => by rw [show vs = [] from k]; rfl
  | q :: ps, vs, 0, k => by
    obtain ⟨w, r, rfl, _, h2⟩ := k
    exact ⟨v, r, rfl, h, h2⟩
  | q :: ps, vs, n + 1, k => by
    obtain ⟨w, r, rfl, h1, h2⟩ := k
    exact ⟨w, _, rfl, h1, Reps.set h n h2⟩

/-- what stands at a boxed object's address -/
def ObjR (G : Gx) (ρ : List Addr) (H : Hp) : PV → Addr → Prop
  | .lst xs, a => ∃ vs, H a = some (.lst vs) ∧ Reps G ρ H xs vs
  | .dct ks xs, a => ∃ vs, ks.length = vs.length ∧ H a = some (.dK (ks.zip vs)) ∧ Reps G ρ H xs vs
  | .sset xs, a => H a = some (SetO' G a xs)
  | _, _ => False
structure SRel (G : Gx) (ρ : List Addr) (st : VSt) (H : Hp) : Prop where
  nd : ρ.Nodup
  len : ρ.length = st.length
  obj : ∀ (n : Nat) (p : PV) (a : Addr), st[n]? = some p → ρ[n]? = some a → ObjR G ρ H p a ∧ noLoc p = true
  hid : ∀ d ∈ G.hid, d ∉ ρ ∧ ∃ o, H d = some o
theorem ObjR.some {G : Gx} {ρ : List Addr} {H : Hp} {p : PV} {a : Addr} (h : ObjR G ρ H p a) : ∃ o, H a = some o := by
  cases p with
  | lst xs => obtain ⟨vs, h, _⟩ := h; exact ⟨_, h⟩
  | dct ks xs => obtain ⟨vs, _, h, _⟩ := h; exact ⟨_, h⟩
  | sset xs => exact ⟨_, h⟩
  | _ => exact h.elim
theorem SRel.tracked {G : Gx} {ρ : List Addr} {st : VSt} {H : Hp} (s : SRel G ρ st H) {a : Addr} (h : a ∈ ρ) : ∃ o, H a = some o := by
  obtain ⟨n, hn, e⟩ := List.getElem_of_mem h
  have h1 : n < st.length := by rw [← s.len]; exact hn
  exact (s.obj n st[n] a (List.getElem?_eq_getElem h1) (by rw [List.getElem?_eq_getElem hn, e])).1.some
theorem SRel.fresh {G : Gx} {ρ : List Addr} {st : VSt} {H : Hp} (s : SRel G ρ st H) {a : Addr} (h : H a = none) : a ∉ ρ := fun z => by
  obtain ⟨o, e⟩ := s.tracked z
  rw [h] at e; cases e
theorem SRel.freshH {G : Gx} {ρ : List Addr} {st : VSt} {H : Hp} (s : SRel G ρ st H) {a : Addr} (h : H a = none) : a ∉ G.hid := fun z => by
  obtain ⟨_, o, e⟩ := s.hid a z
  rw [h] at e; cases e

/-- the objects of the store are as they were, a new object stands apart -/
theorem ObjR.later {G : Gx} {ρ ρ' : List Addr} {H H' : Hp} (l : Later ρ H ρ' H') {p : PV} {a : Addr} (e : H' a = H a) (h : ObjR G ρ H p a) : ObjR G ρ' H' p a := by
  cases p with
  | lst xs => obtain ⟨vs, h, r⟩ := h; exact ⟨vs, e.trans h, Reps.later l _ _ r⟩
  | dct ks xs => obtain ⟨vs, z, h, r⟩ := h; exact ⟨vs, z, e.trans h, Reps.later l _ _ r⟩
  | sset xs => exact e.trans h
  | _ => exact h.elim
theorem SRel.new {G : Gx} {ρ : List Addr} {st : VSt} {H : Hp} (s : SRel G ρ st H) {p : Addr} {o : HO} (h : H p = none) : SRel G ρ st (upd H p o) :=
  ⟨s.nd, s.len, fun n q a e1 e2 => by
    obtain ⟨k, nl⟩ := s.obj n q a e1 e2
    obtain ⟨u, e⟩ := k.some
    exact ⟨k.later (.new h) (upd_ne (ne_of_none e h)), nl⟩, fun d hd => by
    obtain ⟨h1, u, e⟩ := s.hid d hd
    exact ⟨h1, u, by rw [upd_ne (ne_of_none e h)]; exact e⟩⟩

/-! ## the frame -/
def EnvR (G : Gx) (ρ : List Addr) (H : Hp) (env : VEnv) (σ : L2.St) : Prop := env.length = σ.length ∧ ∀ (i : Nat) (p : PV), env[i]? = some (some p) → ∃ v, σ[i]? = some (some v) ∧ Rep G ρ H p v
theorem EnvR.later {G : Gx} {ρ ρ' : List Addr} {H H' : Hp} {env : VEnv} {σ : L2.St} (l : Later ρ H ρ' H') (h : EnvR G ρ H env σ) : EnvR G ρ' H' env σ :=
  ⟨h.1, fun i p e => by obtain ⟨v, a, b⟩ := h.2 i p e; exact ⟨v, a, Rep.later l p v b⟩⟩
theorem EnvR.set {G : Gx} {ρ : List Addr} {H : Hp} {env : VEnv} {σ : L2.St} {p : PV} {v : V} (h : EnvR G ρ H env σ) (r : Rep G ρ H p v) (i : Nat) : EnvR G ρ H (env.set i (some p)) (σ.set i (some v)) := by
  refine ⟨by rw [List.length_set, List.length_set, h.1], fun j q e => ?_⟩
  by_cases hij : i = j
  · subst hij
    by_cases hi : i < env.length
    · rw [List.getElem?_set_self hi] at e
      have e : p = q := by simpa using e
      subst e
      exact ⟨v, by rw [List.getElem?_set_self (by rw [← h.1]; exact hi)], r⟩
    · rw [List.getElem?_eq_none (by rw [List.length_set]; omega)] at e; cases e
  · rw [List.getElem?_set_ne hij] at e
    obtain ⟨w, a, b⟩ := h.2 j q e
    exact ⟨w, by rw [List.getElem?_set_ne hij]; exact a, b⟩
def wipeE (env : VEnv) : List Nat → VEnv
  | [] => env
  | v :: vs => (wipeE env vs).set v none
theorem EnvR.unset {G : Gx} {ρ : List Addr} {H : Hp} {env : VEnv} {σ : L2.St} (h : EnvR G ρ H env σ) (i : Nat) : EnvR G ρ H (env.set i none) (σ.set i none) := by
  refine ⟨by rw [List.length_set, List.length_set, h.1], fun j q e => ?_⟩
  by_cases hij : i = j
  · subst hij
    by_cases hi : i < env.length
    · rw [List.getElem?_set_self hi] at e; cases e
    · rw [List.getElem?_eq_none (by rw [List.length_set]; omega)] at e; cases e
  · rw [List.getElem?_set_ne hij] at e
    obtain ⟨w, a, b⟩ := h.2 j q e
    exact ⟨w, by rw [List.getElem?_set_ne hij]; exact a, b⟩
theorem EnvR.wipe {G : Gx} {ρ : List Addr} {H : Hp} {env : VEnv} {σ : L2.St} (h : EnvR G ρ H env σ) : ∀ vs : List Nat, EnvR G ρ H (wipeE env vs) (L2.wipe σ vs)
  | [] => h
  | v :: vs => (EnvR.wipe h vs).unset v

structure Rel (G : Gx) (ρ : List Addr) (env : VEnv) (st : VSt) (σ : L2.St) (H : Hp) : Prop where
  s : SRel G ρ st H
  e : EnvR G ρ H env σ

inductive Res (α : Type) where
  | ok (a : α) (st : VSt)
  | bad
/-- a mark that holds what stands behind as it is -/
structure Fx {γ : Type} (k : γ) : Type where
def Res.bind {α β : Type} (r : Res α) (k : α → VSt → Res β) (_ : Fx k := ⟨⟩) : Res β := match r with
  | .ok a st => k a st
  | .bad => .bad
abbrev EM := VEnv → VSt → Res PV
abbrev AM := VEnv → VSt → Res (List PV)
abbrev Tbl := Nat → List PV → VSt → Res PV

/-- what is to hold behind -/
abbrev KF (α : Type) := List Addr → VSt → Hp → α → Prop
def Post {α : Type} (G : Gx) (ρ : List Addr) (H : Hp) (r : Res α) (K : KF α) : Prop := match r with
  | .ok a st' => ∀ ρ' H', Later ρ H ρ' H' → SRel G ρ' st' H' → K ρ' st' H' a
  | .bad => False
theorem Post.bind {α β : Type} {G : Gx} {ρ : List Addr} {H : Hp} {r : Res α} {k : α → VSt → Res β} {K : KF β} (h : Post G ρ H (r.bind k) K) : Post G ρ H r (fun ρ1 st1 H1 a => Post G ρ1 H1 (k a st1) K) := by
  cases r with
  | bad => exact h
  | ok a st' =>
    intro ρ1 H1 l _
    have h : Post G ρ H (k a st') K := h
    show Post G ρ1 H1 (k a st') K
    cases e : k a st' with
    | bad => rw [e] at h; exact h
    | ok b st2 =>
      rw [e] at h
      exact fun ρ2 H2 l2 s2 => h ρ2 H2 (l.trans l2) s2
theorem Post.imp {α : Type} {G : Gx} {ρ : List Addr} {H : Hp} {r : Res α} {K K' : KF α} (h : Post G ρ H r K) (q : ∀ ρ' st' H' a, Later ρ H ρ' H' → SRel G ρ' st' H' → K ρ' st' H' a → K' ρ' st' H' a) : Post G ρ H r K' := by
  cases r with
  | bad => exact h
  | ok a st' => exact fun ρ' H' l s => q _ _ _ _ l s (h ρ' H' l s)
theorem Post.now {α : Type} {G : Gx} {ρ : List Addr} {H : Hp} {a : α} {st : VSt} {K : KF α} (h : Post G ρ H (.ok a st) K) (s : SRel G ρ st H) : K ρ st H a := h ρ H (Later.refl _ _) s
/-- the wish of a value: fr: the value, if an object, is a new one -/
def kE (G : Gx) (H : Hp) (fr : Bool) (Q : VK) : KF PV := fun ρ' _ H' p => ∀ v, Rep G ρ' H' p v → (fr = true → ∀ a, v = .ref a → H a = none) → Q v H'
def kA (G : Gx) (Q : List V → Hp → Prop) : KF (List PV) := fun ρ' _ H' p => ∀ v, Reps G ρ' H' p v → Q v H'
def kT (Q : Bool → Hp → Prop) : KF PV := fun _ _ H' p => match p with
  | .bl b => Q b H'
  | _ => False
theorem kE.back {G : Gx} {ρ ρ1 : List Addr} {H H1 : Hp} {fr : Bool} {Q : VK} (l : Later ρ H ρ1 H1) {r : Res PV} {ρ2 : List Addr} {H2 : Hp} (h : Post G ρ2 H2 r (kE G H fr Q)) : Post G ρ2 H2 r (kE G H1 fr Q) :=
  h.imp fun _ _ _ _ _ _ k v rp f => k v rp fun e a ha => l.back (f e a ha)
def gx (X : Cx) (hid : List Addr) : Gx := ⟨X.prog, X.w, X.K, hid⟩

/-- a meaning as a reading -/
def cE (X : Cx) (fr : Bool) (m : EM) : TE := fun σ H Q => ∃ hid ρ env st, Rel (gx X hid) ρ env st σ H ∧ Post (gx X hid) ρ H (m env st) (kE (gx X hid) H fr Q)
def cA (X : Cx) (m : AM) : TA := fun σ H Q => ∃ hid ρ env st, Rel (gx X hid) ρ env st σ H ∧ Post (gx X hid) ρ H (m env st) (kA (gx X hid) Q)
def cT (X : Cx) (m : EM) : TT := fun σ H Q => ∃ hid ρ env st, Rel (gx X hid) ρ env st σ H ∧ Post (gx X hid) ρ H (m env st) (kT Q)
def Ev (X : Cx) (fr : Bool) (e : Expr) (m : EM) : Prop := PE X e (cE X fr m)
def EvA (X : Cx) (es : List Expr) (m : AM) : Prop := PA X es (cA X m)
def EvT (X : Cx) (e : Expr) (m : EM) : Prop := PT X e (cT X m)
def EvW (X : Cx) (e : Expr) (m : EM) : Prop := PW X e (cT X m)
theorem PE.anti {X : Cx} {e : Expr} {t u : TE} (h : PE X e t) (k : ∀ σ H Q, u σ H Q → t σ H Q) : PE X e u := ⟨fun pins s σ H Q I w => h.run pins s σ H Q I (k σ H Q w)⟩
theorem PA.anti {X : Cx} {e : List Expr} {t u : TA} (h : PA X e t) (k : ∀ σ H Q, u σ H Q → t σ H Q) : PA X e u := ⟨fun pos pins s σ H Q I w => h.run pos pins s σ H Q I (k σ H Q w)⟩
theorem PT.anti {X : Cx} {e : Expr} {t u : TT} (h : PT X e t) (k : ∀ σ H Q, u σ H Q → t σ H Q) : PT X e u := ⟨fun pins s σ H Q I w => h.run pins s σ H Q I (k σ H Q w)⟩
theorem PW.anti {X : Cx} {e : Expr} {t u : TT} (h : PW X e t) (k : ∀ σ H Q, u σ H Q → t σ H Q) : PW X e u := ⟨fun wh pins s σ H Q I w => h.run wh pins s σ H Q I (k σ H Q w)⟩
theorem Rel.later {G : Gx} {ρ ρ' : List Addr} {env : VEnv} {st st' : VSt} {σ : L2.St} {H H' : Hp} (R : Rel G ρ env st σ H) (l : Later ρ H ρ' H') (s : SRel G ρ' st' H') : Rel G ρ' env st' σ H' := ⟨s, R.e.later l⟩

section
variable {X : Cx} {hid ρ : List Addr} {env : VEnv} {st : VSt} {σ : L2.St} {H : Hp}
/-- an expression first, then what follows -/
theorem cE_use {fr : Bool} {m : EM} {β : Type} {k : PV → VSt → Res β} {K : KF β} {Q : VK} (R : Rel (gx X hid) ρ env st σ H) (P : Post (gx X hid) ρ H ((m env st).bind k) K)
    (q : ∀ ρ1 st1 H1 p v, Later ρ H ρ1 H1 → Rel (gx X hid) ρ1 env st1 σ H1 → Rep (gx X hid) ρ1 H1 p v → (fr = true → ∀ a, v = .ref a → H a = none) → Post (gx X hid) ρ1 H1 (k p st1) K → Q v H1) : cE X fr m σ H Q :=
  ⟨hid, ρ, env, st, R, P.bind.imp fun ρ1 st1 H1 p l s kk v rp f => q ρ1 st1 H1 p v l (R.later l s) rp f kk⟩
theorem cA_use {m : AM} {β : Type} {k : List PV → VSt → Res β} {K : KF β} {Q : List V → Hp → Prop} (R : Rel (gx X hid) ρ env st σ H) (P : Post (gx X hid) ρ H ((m env st).bind k) K)
    (q : ∀ ρ1 st1 H1 p v, Later ρ H ρ1 H1 → Rel (gx X hid) ρ1 env st1 σ H1 → Reps (gx X hid) ρ1 H1 p v → Post (gx X hid) ρ1 H1 (k p st1) K → Q v H1) : cA X m σ H Q :=
  ⟨hid, ρ, env, st, R, P.bind.imp fun ρ1 st1 H1 p l s kk v rp => q ρ1 st1 H1 p v l (R.later l s) rp kk⟩
end
/-- going on from a truth value -/
def onB {β : Type} (k : Bool → VSt → Res β) : PV → VSt → Res β := fun p st => match p with
  | .bl b => k b st
  | _ => .bad
theorem cT_use {X : Cx} {hid ρ : List Addr} {env : VEnv} {st : VSt} {σ : L2.St} {H : Hp} {m : EM} {β : Type} {k : Bool → VSt → Res β} {K : KF β} {Q : Bool → Hp → Prop} (R : Rel (gx X hid) ρ env st σ H) (P : Post (gx X hid) ρ H ((m env st).bind (onB k)) K)
    (q : ∀ ρ1 st1 H1 b, Later ρ H ρ1 H1 → Rel (gx X hid) ρ1 env st1 σ H1 → Post (gx X hid) ρ1 H1 (k b st1) K → Q b H1) : cT X m σ H Q :=
  ⟨hid, ρ, env, st, R, P.bind.imp fun ρ1 st1 H1 p l s kk => by
    cases p with
    | bl b => exact q ρ1 st1 H1 b l (R.later l s) kk
    | _ => exact False.elim kk⟩
theorem Ev.weak {X : Cx} {fr : Bool} {e : Expr} {m : EM} (h : Ev X fr e m) : Ev X false e m := PE.anti h fun σ H Q ⟨hid, ρ, env, st, R, P⟩ => ⟨hid, ρ, env, st, R, P.imp fun _ _ _ _ _ _ k v rp _ => k v rp (fun z => nomatch z)⟩

/-! ## reading a value through the store -/
section
variable {G : Gx} {ρ : List Addr} {st : VSt} {H : Hp} {p : PV} {v : V}
theorem rep_deref (s : SRel G ρ st H) (h : Rep G ρ H p v) : (∃ n a, p = .loc n ∧ v = .ref a ∧ ObjR G ρ H (deref st p) a) ∨ ((∀ n, p ≠ .loc n) ∧ deref st p = p) := by
  cases p with
  | loc n =>
    obtain ⟨a, e, hn⟩ := h
    have h1 : n < st.length := by rw [← s.len]; exact (List.getElem?_eq_some_iff.mp hn).1
    have e2 : deref st (.loc n) = st[n] := by
      show st.getD n .non = st[n]
      rw [List.getD_eq_getElem?_getD, List.getElem?_eq_getElem h1]; rfl
    exact .inl ⟨n, a, rfl, e, by rw [e2]; exact (s.obj n st[n] a (List.getElem?_eq_getElem h1) hn).1⟩
  | _ => exact .inr ⟨(fun n z => nomatch z), rfl⟩
theorem rep_lst {xs : List PV} (s : SRel G ρ st H) (h : Rep G ρ H p v) (e : deref st p = .lst xs) : ∃ a vs, v = .ref a ∧ H a = some (.lst vs) ∧ Reps G ρ H xs vs := by
  rcases rep_deref s h with ⟨n, a, rfl, rfl, o⟩ | ⟨_, z⟩
  · rw [e] at o
    obtain ⟨vs, h1, h2⟩ := o
    exact ⟨a, vs, rfl, h1, h2⟩
  · rw [z] at e
    subst e
    obtain ⟨a, vs, e, _, _, s, r⟩ := h
    exact ⟨a, vs, e, s, r⟩
theorem rep_dct {ks : List Key} {xs : List PV} (s : SRel G ρ st H) (h : Rep G ρ H p v) (e : deref st p = .dct ks xs) : ∃ a vs, v = .ref a ∧ ks.length = vs.length ∧ H a = some (.dK (ks.zip vs)) ∧ Reps G ρ H xs vs := by
  rcases rep_deref s h with ⟨n, a, rfl, rfl, o⟩ | ⟨_, z⟩
  · rw [e] at o
    obtain ⟨vs, h0, h1, h2⟩ := o
    exact ⟨a, vs, rfl, h0, h1, h2⟩
  · rw [z] at e
    subst e
    obtain ⟨a, vs, e, _, _, z, s, r⟩ := h
    exact ⟨a, vs, e, z, s, r⟩
theorem rep_set {xs : List Str} (s : SRel G ρ st H) (h : Rep G ρ H p v) (e : deref st p = .sset xs) : ∃ a, v = .ref a ∧ H a = some (SetO' G a xs) := by
  rcases rep_deref s h with ⟨n, a, rfl, rfl, o⟩ | ⟨_, z⟩
  · rw [e] at o
    exact ⟨a, rfl, o⟩
  · rw [z] at e
    subst e
    obtain ⟨a, e, _, _, s⟩ := h
    exact ⟨a, e, s⟩


theorem rep_tup {xs : List PV} (s : SRel G ρ st H) (h : Rep G ρ H p v) (e : deref st p = .tup xs) : ∃ a vs, v = .ref a ∧ SqT G.K H a vs ∧ Reps G ρ H xs vs := by
  rcases rep_deref s h with ⟨n, a, rfl, rfl, o⟩ | ⟨_, z⟩
  · rw [e] at o
    exact o.elim
  · rw [z] at e
    subst e
    exact h
theorem rep_scr {ns : List Int} (s : SRel G ρ st H) (h : Rep G ρ H p v) (e : deref st p = .scr ns) : ∃ a, v = .ref a ∧ SqL G.K H a (ns.map V.int) := by
  rcases rep_deref s h with ⟨n, a, rfl, rfl, o⟩ | ⟨_, z⟩
  · rw [e] at o
    exact o.elim
  · rw [z] at e
    subst e
    obtain ⟨a, e, h⟩ := h
    exact ⟨a, e, scr_sq h⟩
end
/-- a new list, tuple as a value -/
theorem new_lst {G : Gx} {ρ : List Addr} {st : VSt} {H : Hp} {xs : List PV} {vs : List V} {p : Addr} (s : SRel G ρ st H) (r : Reps G ρ H xs vs) (hp : H p = none) : Rep G ρ (upd H p (.lst vs)) (.lst xs) (.ref p) :=
  ⟨p, vs, rfl, s.fresh hp, s.freshH hp, upd_same, Reps.later (.new hp) _ _ r⟩
theorem new_tup {G : Gx} {ρ : List Addr} {H : Hp} {xs : List PV} {vs : List V} {p : Addr} (r : Reps G ρ H xs vs) (hp : H p = none) : Rep G ρ (upd H p (.tup vs)) (.tup xs) (.ref p) :=
  ⟨p, vs, rfl, .inl (.inl upd_same), Reps.later (.new hp) _ _ r⟩
/-- the end: a new object is handed on -/
theorem Post.give {G : Gx} {ρ : List Addr} {st : VSt} {H H0 : Hp} {fr : Bool} {Q : VK} {x : PV} {p : Addr} {o : HO} (P : Post G ρ H (.ok x st) (kE G H0 fr Q)) (s : SRel G ρ st H) (hp : H p = none) (h0 : H0 p = none) (r : Rep G ρ (upd H p o) x (.ref p)) : Q (.ref p) (upd H p o) :=
  P ρ _ (.new hp) (s.new hp) (.ref p) r fun _ a e => by cases e; exact h0
/-- .. a value without an object -/
theorem Post.val {G : Gx} {ρ : List Addr} {st : VSt} {H H0 : Hp} {fr : Bool} {Q : VK} {x : PV} {v : V} (P : Post G ρ H (.ok x st) (kE G H0 fr Q)) (s : SRel G ρ st H) (r : Rep G ρ H x v) (f : fr = true → ∀ a, v = .ref a → H0 a = none) : Q v H := P.now s v r f
theorem sz (n : Nat) (h : n ≤ 1000000) : n ≤ sizeLine := by rw [sizeLine_eq]; omega
theorem szl (n : Nat) (h : n ≤ 1000000) : n < sizeLine := by rw [sizeLine_eq]; omega
end Vm

namespace Vm
open PySem L2

/-! ## meanings of expressions -/
def eVar (i : Nat) : EM := fun env st => match env[i]? with
  | some (some p) => .ok p st
  | _ => .bad
def eC (p : PV) : EM := fun _ st => .ok p st
def eBin (f : PV → PV → VSt → Res PV) (a b : EM) : EM := fun env st => (a env st).bind fun x s1 => (b env s1).bind fun y s2 => f x y s2
def eUn (f : PV → VSt → Res PV) (a : EM) : EM := fun env st => (a env st).bind f
def aNil : AM := fun _ st => .ok [] st
def aCons (a : EM) (r : AM) : AM := fun env st => (a env st).bind fun x s1 => (r env s1).bind fun xs s2 => .ok (x :: xs) s2
def mkTup (xs : List PV) (st : VSt) : Res PV := if xs.length ≤ 1000000 then .ok (.tup xs) st else .bad
def mkLst (xs : List PV) (st : VSt) : Res PV := if xs.length ≤ 1000000 then .ok (.lst xs) st else .bad
def eTup (es : AM) : EM := fun env st => (es env st).bind mkTup
def eLst (es : AM) : EM := fun env st => (es env st).bind mkLst
def eApp (f : List PV → VSt → Res PV) (es : AM) : EM := fun env st => (es env st).bind f
def eAnd (a b : EM) : EM := fun env st => (a env st).bind (onB fun c s1 => if c = true then b env s1 else .ok (.bl false) s1)
def eOr (a b : EM) : EM := fun env st => (a env st).bind (onB fun c s1 => if c = true then .ok (.bl true) s1 else b env s1)
def eNot (a : EM) : EM := fun env st => (a env st).bind (onB fun c s1 => .ok (.bl (!c)) s1)
def eIf (c a b : EM) : EM := fun env st => (c env st).bind (onB fun c s1 => if c = true then a env s1 else b env s1)

/-! ## operations by values -/
def vCat (x y : PV) (st : VSt) : Res PV := match deref st x, deref st y with
  | .lst xs, .lst ys => if xs.length + ys.length ≤ 1000000 then .ok (.lst (xs ++ ys)) st else .bad
  | _, _ => .bad
def vAdd (x y : PV) (st : VSt) : Res PV := match x, y with
  | .int i, .int j => .ok (.int (i + j)) st
  | .str a, .str b => if a.length + b.length ≤ 1000000 then .ok (.str (a ++ b)) st else .bad
  | .tup xs, .tup ys => if xs.length + ys.length ≤ 1000000 then .ok (.tup (xs ++ ys)) st else .bad
  | x, y => vCat x y st
def vSub (x y : PV) (st : VSt) : Res PV := match x, y with
  | .int i, .int j => .ok (.int (i - j)) st
  | _, _ => .bad
def repS (x : Str) (n : Nat) : Str := ⟨(List.replicate n x.cps.toList).flatten.toArray⟩
def vMul (x y : PV) (st : VSt) : Res PV := match x, y with
  | .int i, .int j => if (-(2 ^ 64) < i ∧ i < 2 ^ 64) ∨ (-(2 ^ 64) < j ∧ j < 2 ^ 64) then .ok (.int (i * j)) st else .bad
  | .str a, .int j => if 1 ≤ j ∧ j ≤ 1000 ∧ a.length ≤ 1000 then .ok (.str (repS a j.toNat)) st else .bad
  | _, _ => .bad
def vFdv (x y : PV) (st : VSt) : Res PV := match x, y with
  | .int i, .int j => if 0 < j ∧ j < 2 ^ 100 then .ok (.int (i / j)) st else .bad
  | _, _ => .bad
def vMod (x y : PV) (st : VSt) : Res PV := match x, y with
  | .int i, .int j => if 0 < j then .ok (.int (i % j)) st else .bad
  | _, _ => .bad
def vPow (x y : PV) (st : VSt) : Res PV := match x, y with
  | .int i, .int j => if 0 ≤ j ∧ j ≤ 1000 ∧ i.natAbs < 2 ^ 64 then .ok (.int (i ^ j.toNat)) st else .bad
  | _, _ => .bad
def vNeg (x : PV) (st : VSt) : Res PV := match x with
  | .int i => .ok (.int (-i)) st
  | _ => .bad
def vCmp (f : Int → Int → Bool) (x y : PV) (st : VSt) : Res PV := match x, y with
  | .int i, .int j => .ok (.bl (f i j)) st
  | _, _ => .bad
abbrev vLt := vCmp fun i j => decide (i < j)
abbrev vLe := vCmp fun i j => decide (i ≤ j)
abbrev vGt := vCmp fun i j => decide (j < i)
abbrev vGe := vCmp fun i j => decide (j ≤ i)
def isNon : PV → Bool
  | .non => true
  | _ => false
def vIsN (neg : Bool) (x y : PV) (st : VSt) : Res PV := match y with
  | .non => .ok (.bl (if neg then !isNon x else isNon x)) st
  | _ => .bad
mutual
def toD : PV → Option PyData
  | .non => some .none
  | .bl b => some (.bool b)
  | .int i => some (.int i)
  | .str x => some (.str x)
  | .tup xs => (toDs xs).map .tuple
  | .lst xs => (toDs xs).map .list
  | _ => none
def toDs : List PV → Option (List PyData)
  | [] => some []
  | x :: r => match toD x, toDs r with
    | some d, some ds => some (d :: ds)
    | _, _ => none
end
/-- two dicts of flat values, one as the other -/
def dEq : List Key → List PV → List Key → List PV → Bool
  | [], [], [], [] => true
  | k :: ks, .int i :: xs, k' :: ks', .int j :: ys => decide (k = k') && decide (i = j) && dEq ks xs ks' ys
  | _, _, _, _ => false
def vEqF (neg : Bool) (x y : PV) (st : VSt) : Res PV := match x, y with
  | .str a, .str b => .ok (.bl (if neg then !decide (a = b) else decide (a = b))) st
  | .int a, .int b => .ok (.bl (if neg then !decide (a = b) else decide (a = b))) st
  | .bl a, .bl b => .ok (.bl (if neg then !decide (a = b) else decide (a = b))) st
  | x, y => match deref st x, deref st y with
    | .dct ks xs, .dct ks' ys => if (dEq ks xs ks' ys && decide ks.Nodup) = true then .ok (.bl (!neg)) st else .bad
    | x', y' => match toD x', toD y' with
      | some d, some e => if (SeqAt.shaped d && SeqAt.shaped e) = true then .ok (.bl (if neg then !PyData.eqv d e else PyData.eqv d e)) st else .bad
      | _, _ => .bad
def flatP : PV → Bool
  | .non => true | .bl _ => true | .int _ => true | .str _ => true
  | _ => false
def eqP : PV → PV → Bool
  | .non, .non => true
  | .bl a, .bl b => a == b
  | .bl a, .int b => (if a then 1 else 0) == b
  | .int a, .bl b => a == (if b then 1 else 0)
  | .int a, .int b => a == b
  | .str a, .str b => a == b
  | _, _ => false
def inP (x : PV) (xs : List PV) : Bool := xs.any fun y => eqP y x
def seqOf (st : VSt) (p : PV) : Option (List PV) := match deref st p with
  | .lst xs => some xs
  | .tup xs => some xs
  | _ => none
def keyP : PV → Option Key
  | .int i => some (.inl i)
  | .str x => some (.inr x)
  | _ => none
def kLook (ks : List Key) (xs : List PV) (k : Key) : Option PV := match ks, xs with
  | k' :: ks, x :: xs => if k' = k then some x else kLook ks xs k
  | _, _ => none
def vIn (neg : Bool) (x y : PV) (st : VSt) : Res PV := match deref st y with
  | .sset xs => match x with
    | .str s => .ok (.bl (if neg then !decide (s ∈ xs) else decide (s ∈ xs))) st
    | _ => .bad
  | .dct ks ys => match keyP x with
    | some k => .ok (.bl (if neg then !(kLook ks ys k).isSome else (kLook ks ys k).isSome)) st
    | none => .bad
  | .lst xs => if (flatP x && xs.all flatP) = true then .ok (.bl (if neg then !inP x xs else inP x xs)) st else .bad
  | .tup xs => if (flatP x && xs.all flatP) = true then .ok (.bl (if neg then !inP x xs else inP x xs)) st else .bad
  | _ => .bad
def opt (o : Option PV) (st : VSt) : Res PV := match o with
  | some p => .ok p st
  | none => .bad
def vIx (x y : PV) (st : VSt) : Res PV := match deref st x, y with
  | .lst xs, .int i => opt (atI xs i) st
  | .tup xs, .int i => opt (atI xs i) st
  | .scr ns, .int i => opt ((atI ns i).map .int) st
  | .str z, .int i => if z.length ≤ 1000000 then opt ((atI z.cps.toList i).map fun c => .str ⟨#[c]⟩) st else .bad
  | .dct ks xs, k => match keyP k with
    | some k => opt (kLook ks xs k) st
    | none => .bad
  | _, _ => .bad

/-! ## the rules -/
def OpSem (X : Cx) (fr : Bool) (r : R2) (f : PV → PV → VSt → Res PV) : Prop := ∀ (hid ρ : List Addr) (st : VSt) (H : Hp) (x y : PV) (v w : V) (Q : VK), SRel (gx X hid) ρ st H → Rep (gx X hid) ρ H x v → Rep (gx X hid) ρ H y w →
  Post (gx X hid) ρ H (f x y st) (kE (gx X hid) H fr Q) → r v w H Q
def UnSem (X : Cx) (fr : Bool) (r : V → Hp → VK → Prop) (f : PV → VSt → Res PV) : Prop := ∀ (hid ρ : List Addr) (st : VSt) (H : Hp) (x : PV) (v : V) (Q : VK), SRel (gx X hid) ρ st H → Rep (gx X hid) ρ H x v →
  Post (gx X hid) ρ H (f x st) (kE (gx X hid) H fr Q) → r v H Q
def CallSem (X : Cx) (fr : Bool) (r : List V → Hp → VK → Prop) (f : List PV → VSt → Res PV) : Prop := ∀ (hid ρ : List Addr) (st : VSt) (H : Hp) (xs : List PV) (vs : List V) (Q : VK), SRel (gx X hid) ρ st H → Reps (gx X hid) ρ H xs vs →
  Post (gx X hid) ρ H (f xs st) (kE (gx X hid) H fr Q) → r vs H Q
section
variable {X : Cx} {fr fa fb : Bool} {a b c : Expr} {ma mb mc : EM} {pos : Pos}
theorem ev_var (i : Nat) {x : Str} (hN : X.N[i]? = some x := by rfl) (hv : Vis X.env.scope x := by first | exact Or.inl rfl | exact Or.inr (Or.inl rfl) | exact Or.inr (Or.inr rfl)) (hd : (x == ("__debug__" : Str)) = false := by decide)
    (hcd : (x == ("__classdict__" : Str)) = false := by decide) : Ev X false (.Name x pos) (eVar i) := PE.anti (pe_var hN hv hd hcd) fun σ H Q ⟨hid, ρ, env, st, R, P⟩ => by
  unfold eVar at P
  split at P
  · rename_i p e
    obtain ⟨v, h1, h2⟩ := R.e.2 i p e
    exact ⟨v, h1, P.val R.s h2 (fun z => nomatch z)⟩
  · exact False.elim P
theorem ev_int {i : Int} {j} : Ev X true (.Constant (.int i) j pos) (eC (.int i)) := PE.anti pe_int fun σ H Q ⟨hid, ρ, env, st, R, P⟩ => Post.val P R.s (show Rep _ _ _ (.int i) (.int i) from rfl) fun _ a e => nomatch e
theorem ev_bl {i : Bool} {j} : Ev X true (.Constant (.bool i) j pos) (eC (.bl i)) := PE.anti pe_bl fun σ H Q ⟨hid, ρ, env, st, R, P⟩ => Post.val P R.s (show Rep _ _ _ (.bl i) (.bl i) from rfl) fun _ a e => nomatch e
theorem ev_non {j} : Ev X true (.Constant .none j pos) (eC .non) := PE.anti pe_non fun σ H Q ⟨hid, ρ, env, st, R, P⟩ => Post.val P R.s (show Rep _ _ _ .non .non from rfl) fun _ a e => nomatch e
theorem ev_str {i : Str} {j} : Ev X true (.Constant (.str i) j pos) (eC (.str i)) := PE.anti pe_str fun σ H Q ⟨hid, ρ, env, st, R, P⟩ => Post.val P R.s (show Rep _ _ _ (.str i) (.str i) from rfl) fun _ a e => nomatch e
theorem ev_glob {x : Str} {i : Int} {u : Value} (hm : X.mg x = some u) (r : RelV (.int i) u) (hg : Gl X x := by rfl) (hd : (x == ("__debug__" : Str)) = false := by decide) : Ev X true (.Name x pos) (eC (.int i)) := PE.anti (pe_glob hg hm r hd) fun σ H Q ⟨hid, ρ, env, st, R, P⟩ =>
  Post.val P R.s (show Rep _ _ _ (.int i) (.int i) from rfl) fun _ a e => nomatch e

theorem ev_op {op : Operator} {r : R2} {f : PV → PV → VSt → Res PV} (ho : OpR X (binaryOp op) r) (os : OpSem X fr r f) (ha : Ev X fa a ma) (hb : Ev X fb b mb) : Ev X fr (.BinOp a op b pos) (eBin f ma mb) :=
  PE.anti (pe_op ho ha hb) fun σ H Q ⟨hid, ρ, env, st, R, P⟩ => cE_use R P fun ρ1 st1 H1 p v l1 R1 rp _ P1 => cE_use R1 P1 fun ρ2 st2 H2 q w l2 R2 rq _ P2 =>
    os _ _ _ _ _ _ _ _ _ R2.s (Rep.later l2 _ _ rp) rq (kE.back (l1.trans l2) P2)
theorem ev_cmp {op : CmpOp} {r : R2} {f : PV → PV → VSt → Res PV} (ho : OpR X (compareOp op) r) (os : OpSem X fr r f) (ha : Ev X fa a ma) (hb : Ev X fb b mb) (hm : behindInMarks op b = false := by first | exact nomark _ | rfl) : Ev X fr (.Compare a [op] [b] pos) (eBin f ma mb) :=
  PE.anti (pe_cmpR ho ha hb hm) fun σ H Q ⟨hid, ρ, env, st, R, P⟩ => cE_use R P fun ρ1 st1 H1 p v l1 R1 rp _ P1 => cE_use R1 P1 fun ρ2 st2 H2 q w l2 R2 rq _ P2 =>
    os _ _ _ _ _ _ _ _ _ R2.s (Rep.later l2 _ _ rp) rq (kE.back (l1.trans l2) P2)
theorem kE_B {G : Gx} {ρ : List Addr} {H H0 : Hp} {Q : Bool → Hp → Prop} {r : Res PV} (P : Post G ρ H r (kT Q)) : Post G ρ H r (kE G H0 fr fun x H' => ∃ k, x = V.bl k ∧ Q k H') := P.imp fun ρ1 st1 H1 p _ _ k v rp _ => by
  cases p with
  | bl b => exact ⟨b, rp, k⟩
  | _ => exact False.elim k
theorem evt_cmp {op : CmpOp} {r : R2} {f : PV → PV → VSt → Res PV} (ho : OpR X (compareOp op) r) (os : OpSem X false r f) (ha : Ev X fa a ma) (hb : Ev X fb b mb) (hm : behindInMarks op b = false := by first | exact nomark _ | rfl) : EvT X (.Compare a [op] [b] pos) (eBin f ma mb) :=
  PT.anti (pt_cmpR ho ha hb hm) fun σ H Q ⟨hid, ρ, env, st, R, P⟩ => cE_use R (kE_B (fr := false) (H0 := H) P) fun ρ1 st1 H1 p v l1 R1 rp _ P1 => cE_use R1 P1 fun ρ2 st2 H2 q w l2 R2 rq _ P2 =>
    os _ _ _ _ _ _ _ _ _ R2.s (Rep.later l2 _ _ rp) rq (kE.back (l1.trans l2) P2)
theorem ev_un {op : UnaryOp} {r : V → Hp → VK → Prop} {f : PV → VSt → Res PV} (ho : UnR X (unaryOp op) r) (os : UnSem X fr r f) (ha : Ev X fa a ma) : Ev X fr (.UnaryOp op a pos) (eUn f ma) :=
  PE.anti (pe_un ho ha) fun σ H Q ⟨hid, ρ, env, st, R, P⟩ => cE_use R P fun ρ1 st1 H1 p v l1 R1 rp _ P1 => os _ _ _ _ _ _ _ R1.s rp (kE.back l1 P1)
theorem ev_ix {r : R2} {f : PV → PV → VSt → Res PV} (hr : IxR X r) (os : OpSem X fr r f) (ha : Ev X fa a ma) (hb : Ev X fb b mb) (hs : PlainIx b := by exact fun _ _ => rfl) : Ev X fr (.Subscript a b pos) (eBin f ma mb) :=
  PE.anti (pe_ix hr ha hb hs) fun σ H Q ⟨hid, ρ, env, st, R, P⟩ => cE_use R P fun ρ1 st1 H1 p v l1 R1 rp _ P1 => cE_use R1 P1 fun ρ2 st2 H2 q w l2 R2 rq _ P2 =>
    os _ _ _ _ _ _ _ _ _ R2.s (Rep.later l2 _ _ rp) rq (kE.back (l1.trans l2) P2)

/-! ### argument lists, displays -/
variable {es : List Expr} {e : Expr} {me : EM} {mes : AM}
theorem eva_nil : EvA X [] aNil := PA.anti pa_nil fun σ H Q ⟨hid, ρ, env, st, R, P⟩ => P.now R.s [] rfl
theorem eva_cons (ha : Ev X fa e me) (hr : EvA X es mes) (hs : starEach (e :: es) X.env = (false, eval e X.env) :: starEach es X.env := by rfl) : EvA X (e :: es) (aCons me mes) :=
  PA.anti (pa_cons ha hr hs) fun σ H Q ⟨hid, ρ, env, st, R, P⟩ => cE_use R P fun ρ1 st1 H1 p v l1 R1 rp _ P1 => cA_use R1 P1 fun ρ2 st2 H2 ps vs l2 R2 rps P2 =>
    P2.now R2.s (v :: vs) ⟨v, vs, rfl, Rep.later l2 _ _ rp, rps⟩
theorem ev_tup {x1} (h : EvA X es mes) : Ev X true (.Tuple es x1 pos) (eTup mes) := PE.anti (pe_tup h) fun σ H Q ⟨hid, ρ, env, st, R, P⟩ => cA_use R P fun ρ1 st1 H1 ps vs l R1 rps P1 => by
  unfold mkTup at P1
  split at P1
  · rename_i hz
    refine ⟨by rw [rps.length]; exact sz _ hz, fun p hp => ?_⟩
    exact P1.give R1.s hp (l.back hp) (new_tup rps hp)
  · exact False.elim P1
theorem ev_lst (h : EvA X es mes) : Ev X true (.List es pos) (eLst mes) := PE.anti (pe_lst h) fun σ H Q ⟨hid, ρ, env, st, R, P⟩ => cA_use R P fun ρ1 st1 H1 ps vs l R1 rps P1 => by
  unfold mkLst at P1
  split at P1
  · rename_i hz
    refine ⟨by rw [rps.length]; exact sz _ hz, fun p hp => ?_⟩
    exact P1.give R1.s hp (l.back hp) (new_lst R1.s rps hp)
  · exact False.elim P1
theorem ev_callB {id : String} {x : Str} {p : Pos} {r : List V → Hp → VK → Prop} {f : List PV → VSt → Res PV} (hc : CallR X (.builtin id) r) (os : CallSem X fr r f) (hm : X.mg x = none) (hv : bootBuiltins x = some (.builtin id)) (ha : EvA X (e :: es) mes) (hg : Gl X x := by rfl)
    (hn : x ≠ "__name__" := by decide) (hdb : (x == ("__debug__" : Str)) = false := by decide)
    (he : starEach (e :: es) X.env = (false, eval e X.env) :: starEach es X.env := by rfl) (hpl : (backTo pos (starEach es X.env)).any (·.1) = false := by rfl) : Ev X fr (.Call (.Name x p) (e :: es) [] pos) (eApp f mes) :=
  PE.anti (pe_callB hc hg hm hv ha hn hdb he hpl) fun σ H Q ⟨hid, ρ, env, st, R, P⟩ => cA_use R P fun ρ1 st1 H1 ps vs l R1 rps P1 => os _ _ _ _ _ _ _ R1.s rps (kE.back l P1)
theorem ev_callTy {id : String} {x : Str} {p : Pos} {r : List V → Hp → VK → Prop} {f : List PV → VSt → Res PV} (hc : CallR X (.type id) r) (os : CallSem X fr r f) (hm : X.mg x = none) (hv : bootBuiltins x = some (.type id)) (ha : EvA X (e :: es) mes) (hg : Gl X x := by rfl)
    (hn : x ≠ "__name__" := by decide) (hdb : (x == ("__debug__" : Str)) = false := by decide)
    (he : starEach (e :: es) X.env = (false, eval e X.env) :: starEach es X.env := by rfl) (hpl : (backTo pos (starEach es X.env)).any (·.1) = false := by rfl) : Ev X fr (.Call (.Name x p) (e :: es) [] pos) (eApp f mes) :=
  PE.anti (pe_callTy hc hg hm hv ha hn hdb he hpl) fun σ H Q ⟨hid, ρ, env, st, R, P⟩ => cA_use R P fun ρ1 st1 H1 ps vs l R1 rps P1 => os _ _ _ _ _ _ _ R1.s rps (kE.back l P1)

/-! ### tests -/
theorem evt_val (h : Ev X fr e me) (he : ∀ whole, isTrue e X.env whole = (do let v ← whole; standAt e.pos; holding [v] (truthy v)) := by intro _; rfl) : EvT X e me :=
  PT.anti (pt_val h he) fun σ H Q ⟨hid, ρ, env, st, R, P⟩ => ⟨hid, ρ, env, st, R, kE_B P⟩
theorem evw_pt (h : EvW X e me) : EvT X e me := PW.pt h
theorem evw_and1 (h : EvT X a ma) : EvW X (.BoolOp .And [a] pos) ma := pw_and1 h
theorem evw_or1 (h : EvT X a ma) : EvW X (.BoolOp .Or [a] pos) ma := pw_or1 h
theorem kT_iff {G : Gx} {ρ : List Addr} {H : Hp} {Q : Bool → Hp → Prop} {b : Bool} {st : VSt} (P : Post G ρ H (.ok (.bl b) st) (kT Q)) (s : SRel G ρ st H) : Q b H := P.now s
theorem evw_and {rest : List Expr} (h : EvT X a ma) (h2 : EvW X (.BoolOp .And (b :: rest) pos) mb) : EvW X (.BoolOp .And (a :: b :: rest) pos) (eAnd ma mb) :=
  PW.anti (pw_and h h2) fun σ H Q ⟨hid, ρ, env, st, R, P⟩ => cT_use R P fun ρ1 st1 H1 c l R1 P1 => by
    cases c with
    | true => exact ⟨hid, ρ1, env, st1, R1, P1⟩
    | false => exact kT_iff P1 R1.s
theorem evw_or {rest : List Expr} (h : EvT X a ma) (h2 : EvW X (.BoolOp .Or (b :: rest) pos) mb) : EvW X (.BoolOp .Or (a :: b :: rest) pos) (eOr ma mb) :=
  PW.anti (pw_or h h2) fun σ H Q ⟨hid, ρ, env, st, R, P⟩ => cT_use R P fun ρ1 st1 H1 c l R1 P1 => by
    cases c with
    | false => exact ⟨hid, ρ1, env, st1, R1, P1⟩
    | true => exact kT_iff P1 R1.s
theorem evt_not (h : EvT X a ma) : EvT X (.UnaryOp .Not a pos) (eNot ma) :=
  PT.anti (pt_not h) fun σ H Q ⟨hid, ρ, env, st, R, P⟩ => cT_use R P fun ρ1 st1 H1 c l R1 P1 => kT_iff P1 R1.s
/-- as values -/
theorem ev_one {op} (h : Ev X fr a ma) : Ev X fr (.BoolOp op [a] pos) ma := pe_one h
theorem toB {G : Gx} {ρ : List Addr} {H H0 : Hp} {r : Res PV} {k : Bool → VSt → Res PV} {K : KF PV} {Q : VK} (P : Post G ρ H (r.bind (onB k)) K)
    (q : ∀ ρ1 st1 H1 c, Later ρ H ρ1 H1 → SRel G ρ1 st1 H1 → Post G ρ1 H1 (k c st1) K → Q (.bl c) H1) : Post G ρ H r (kE G H0 fr Q) := P.bind.imp fun ρ1 st1 H1 p l s k v rp _ => by
  cases p with
  | bl b =>
    obtain rfl : v = .bl b := rp
    exact q ρ1 st1 H1 b l s k
  | _ => exact False.elim k
theorem ev_and {rest : List Expr} (h : Ev X fa a ma) (h2 : Ev X fr (.BoolOp .And (b :: rest) pos) mb) : Ev X fr (.BoolOp .And (a :: b :: rest) pos) (eAnd ma mb) :=
  PE.anti (pe_and h h2) fun σ H Q ⟨hid, ρ, env, st, R, P⟩ => ⟨hid, ρ, env, st, R, toB P fun ρ1 st1 H1 c l s P1 => ⟨c, rfl, by
    cases c with
    | true => exact ⟨hid, ρ1, env, st1, R.later l s, kE.back l P1⟩
    | false => exact Post.val P1 s (show Rep _ _ _ (.bl false) (.bl false) from rfl) fun _ _ e => nomatch e⟩⟩
theorem ev_or {rest : List Expr} (h : Ev X fa a ma) (h2 : Ev X fr (.BoolOp .Or (b :: rest) pos) mb) : Ev X fr (.BoolOp .Or (a :: b :: rest) pos) (eOr ma mb) :=
  PE.anti (pe_or h h2) fun σ H Q ⟨hid, ρ, env, st, R, P⟩ => ⟨hid, ρ, env, st, R, toB P fun ρ1 st1 H1 c l s P1 => ⟨c, rfl, by
    cases c with
    | false => exact ⟨hid, ρ1, env, st1, R.later l s, kE.back l P1⟩
    | true => exact Post.val P1 s (show Rep _ _ _ (.bl true) (.bl true) from rfl) fun _ _ e => nomatch e⟩⟩
theorem ev_not (h : Ev X fa a ma) : Ev X true (.UnaryOp .Not a pos) (eNot ma) :=
  PE.anti (pe_not h) fun σ H Q ⟨hid, ρ, env, st, R, P⟩ => ⟨hid, ρ, env, st, R, toB P fun ρ1 st1 H1 c l s P1 => ⟨c, rfl, Post.val P1 s (show Rep _ _ _ (.bl (!c)) (.bl (!c)) from rfl) fun _ _ e => nomatch e⟩⟩
theorem ev_if (hc : EvT X c mc) (ha : Ev X fr a ma) (hb : Ev X fr b mb) : Ev X fr (.IfExp c a b pos) (eIf mc ma mb) :=
  PE.anti (pe_ifExp hc ha hb) fun σ H Q ⟨hid, ρ, env, st, R, P⟩ => cT_use R P fun ρ1 st1 H1 c l R1 P1 => by
    cases c with
    | true => exact ⟨hid, ρ1, env, st1, R1, kE.back l P1⟩
    | false => exact ⟨hid, ρ1, env, st1, R1, kE.back l P1⟩
end

/-! ## operations: readings -/
section
variable {X : Cx} {fr : Bool}
theorem os_cat : OpSem X true rCat vCat := by
  intro hid ρ st H x y v w Q S rx ry P
  unfold vCat at P
  split at P
  · rename_i xs ys e1 e2
    split at P
    · rename_i hz
      obtain ⟨a, vs, rfl, ha, r1⟩ := rep_lst S rx e1
      obtain ⟨b, ws, rfl, hb, r2⟩ := rep_lst S ry e2
      refine ⟨a, b, vs, ws, rfl, rfl, ha, hb, by rw [r1.length, r2.length]; exact sz _ hz, fun p hp => ?_⟩
      exact P.give S hp hp (new_lst S (r1.append r2) hp)
    · exact False.elim P
  · exact False.elim P
theorem OpSem.weak {r : R2} {f} (h : OpSem X fr r f) : OpSem X false r f := fun hid ρ st H x y v w Q S rx ry P => h hid ρ st H x y v w Q S rx ry (P.imp fun _ _ _ _ _ _ k v rp _ => k v rp (fun z => nomatch z))
def rAdd4 (K : PySem.W.Frag) : R2 := fun x y H Q => (∃ i j, x = .int i ∧ y = .int j ∧ Q (.int (i + j)) H) ∨ (∃ i j, x = .str i ∧ y = .str j ∧ i.length + j.length ≤ sizeLine ∧ Q (.str (i ++ j)) H) ∨ rCatA K x y H Q ∨ rCat x y H Q
theorem op_add4 : OpR X (binaryOp .Add) (rAdd4 X.K) := OpR.or op_add (OpR.or op_add_str (OpR.or op_catA op_cat))
theorem os_add : OpSem X false (rAdd4 X.K) vAdd := by
  intro hid ρ st H x y v w Q S rx ry P
  unfold vAdd at P
  split at P
  · rename_i i j
    exact .inl ⟨i, j, rx, ry, P.val S rfl (fun z => nomatch z)⟩
  · rename_i i j
    split at P
    · rename_i hz
      exact .inr (.inl ⟨i, j, rx, ry, sz _ hz, P.val S rfl (fun z => nomatch z)⟩)
    · exact False.elim P
  · rename_i xs ys
    split at P
    · rename_i hz
      obtain ⟨a, vs, rfl, ha, r1⟩ := rx
      obtain ⟨b, ws, rfl, hb, r2⟩ := ry
      refine .inr (.inr (.inl ⟨a, b, vs, ws, rfl, rfl, ha, hb, by rw [r1.length, r2.length]; exact sz _ hz, fun e => ?_, fun e e2 => ?_, fun e e2 p hp => ?_⟩))
      · subst e
        have : xs = [] := by
          cases xs with
          | nil => rfl
          | cons x r => obtain ⟨_, _, e, _⟩ := r1; cases e
        subst this
        exact P.val S ⟨b, ws, rfl, hb, r2⟩ (fun z => nomatch z)
      · subst e2
        have : ys = [] := by
          cases ys with
          | nil => rfl
          | cons x r => obtain ⟨_, _, e, _⟩ := r2; cases e
        subst this
        exact P.val S ⟨a, vs, rfl, ha, by rw [List.append_nil]; exact r1⟩ (fun z => nomatch z)
      · exact P.give S hp hp (new_tup (r1.append r2) hp)
    · exact False.elim P
  · exact .inr (.inr (.inr (os_cat.weak hid ρ st H x y v w Q S rx ry P)))
theorem os_sub : OpSem X true (rI0 fun i j => .int (i - j)) vSub := by
  intro hid ρ st H x y v w Q S rx ry P
  unfold vSub at P
  split at P
  · rename_i i j
    exact ⟨i, j, rx, ry, P.val S rfl (fun _ _ e => nomatch e)⟩
  · exact False.elim P
theorem op_mul_str : OpR X (binaryOp .Mult) (fun x y H Q => ∃ s k, x = .str s ∧ y = .int k ∧ 1 ≤ k ∧ k ≤ 1000 ∧ s.length ≤ 1000 ∧ Q (.str (repS s k.toNat)) H) := by
  intro pins s σ H x y v u Q I rx ry h
  obtain ⟨z, k, rfl, rfl, h1, h2, h3, q⟩ := h
  obtain ⟨t, rfl⟩ := rx
  obtain ⟨t', rfl⟩ := ry
  have hfold : ∀ (n : Nat) (acc : Array Nat), (List.replicate n z.cps).foldl (· ++ ·) acc = acc ++ (List.replicate n z.cps.toList).flatten.toArray := by
    intro n
    induction n with
    | zero => intro acc; simp
    | succ n ih => intro acc; rw [List.replicate_succ, List.foldl_cons, ih, List.replicate_succ, List.flatten_cons, Array.append_assoc]; congr 1; apply Array.toList_inj.mp; simp
  have hrep : (⟨(List.replicate k.toNat z.cps).foldl (· ++ ·) #[]⟩ : Str) = repS z k.toNat := by
    rw [hfold]
    simp [repS]
  refine P.mul_str (by
      have a1 : ¬ k < -(2 ^ 63 : Int) := by omega
      have a2 : ¬ k ≥ 2 ^ 63 := by omega
      rw [decide_eq_false a1, decide_eq_false a2]; rfl) (fun _ _ => ?_) (fun _ _ => ?_) ?_
  · intro hc
    have hk : (1000 : Int) ≤ (2 ^ 63 - 1) / k := by
      rw [Int.le_ediv_iff_mul_le (by omega)]
      have : (1000 : Int) * k ≤ 1000 * 1000 := by omega
      omega
    omega
  · unfold Builtin.Str.tooLong
    have : z.length * k.toNat ≤ 1000 * 1000 := Nat.mul_le_mul h3 (by omega)
    rw [sizeLine_eq]
    exact decide_eq_false (by omega)
  · have hk : ¬ k < 1 := by omega
    rw [if_neg hk]
    have hlen : (repS z k.toNat).length ≤ sizeLine := by
      have : (repS z k.toNat).length = k.toNat * z.length := by
        unfold repS Str.length
        simp [List.length_flatten]
      rw [this]
      have h4 : k.toNat * z.length ≤ 1000 * 1000 := Nat.mul_le_mul (by omega) h3
      rw [sizeLine_eq]
      omega
    split
    · rename_i hc
      have e : repS z k.toNat = z := by
        rcases Bool.or_eq_true_iff.mp hc with e1 | e1
        · have : k = 1 := by simpa using e1
          subst this
          show (⟨(List.replicate 1 z.cps.toList).flatten.toArray⟩ : Str) = z
          simp
        · have : z.cps = #[] := by
            have : z.cps.size = 0 := by simpa [Str.length] using e1
            exact Array.eq_empty_of_size_eq_zero this
          obtain ⟨c⟩ := z
          subst this
          show (⟨(List.replicate k.toNat (#[] : Array Nat).toList).flatten.toArray⟩ : Str) = _
          simp
      rw [e] at q
      exact ⟨.str z, H, I, ⟨t, rfl⟩, q⟩
    · refine ⟨?_, ?_⟩
      · rw [hrep]; first | exact hlen | (unfold Builtin.Str.tooLong; exact decide_eq_false (by omega))
      · exact ⟨.str _, H, I.tok _, ⟨_, by rw [hrep]⟩, q⟩

theorem os_mul : OpSem X true (fun x y H Q => rI CMul (fun i j => .int (i * j)) x y H Q ∨ (∃ s k, x = .str s ∧ y = .int k ∧ 1 ≤ k ∧ k ≤ 1000 ∧ s.length ≤ 1000 ∧ Q (.str (repS s k.toNat)) H)) vMul := by
  intro hid ρ st H x y v w Q S rx ry P
  unfold vMul at P
  split at P
  · split at P
    · rename_i i j hz
      exact .inl ⟨i, j, rx, ry, hz, P.val S rfl (fun _ _ e => nomatch e)⟩
    · exact False.elim P
  · split at P
    · rename_i i j hz
      exact .inr ⟨i, j, rx, ry, hz.1, hz.2.1, hz.2.2, P.val S rfl (fun _ _ e => nomatch e)⟩
    · exact False.elim P
  · exact False.elim P
theorem op_mul2 : OpR X (binaryOp .Mult) (fun x y H Q => rI CMul (fun i j => .int (i * j)) x y H Q ∨ (∃ s k, x = .str s ∧ y = .int k ∧ 1 ≤ k ∧ k ≤ 1000 ∧ s.length ≤ 1000 ∧ Q (.str (repS s k.toNat)) H)) := OpR.or op_mul op_mul_str
theorem os_fdv : OpSem X true (rI CDivW fun i j => .int (i / j)) vFdv := by
  intro hid ρ st H x y v w Q S rx ry P
  unfold vFdv at P
  split at P
  · split at P
    · rename_i i j hz
      exact ⟨i, j, rx, ry, wide_div (b := 100) hz.1 (by omega) (by decide) (by decide), P.val S rfl (fun _ _ e => nomatch e)⟩
    · exact False.elim P
  · exact False.elim P
theorem os_mod : OpSem X true (rI (fun _ j => 0 < j) fun i j => .int (i % j)) vMod := by
  intro hid ρ st H x y v w Q S rx ry P
  unfold vMod at P
  split at P
  · split at P
    · rename_i i j hz
      exact ⟨i, j, rx, ry, hz, P.val S rfl (fun _ _ e => nomatch e)⟩
    · exact False.elim P
  · exact False.elim P
theorem os_pow : OpSem X true (rI CPow fun i j => .int (i ^ j.toNat)) vPow := by
  intro hid ρ st H x y v w Q S rx ry P
  unfold vPow at P
  split at P
  · split at P
    · rename_i i j hz
      exact ⟨i, j, rx, ry, ⟨hz.1, by omega, hz.2.2⟩, P.val S rfl (fun _ _ e => nomatch e)⟩
    · exact False.elim P
  · exact False.elim P
theorem us_neg : UnSem X true (rU fun i => .int (-i)) vNeg := by
  intro hid ρ st H x v Q S rx P
  unfold vNeg at P
  split at P
  · rename_i i
    exact ⟨i, rx, P.val S rfl (fun _ _ e => nomatch e)⟩
  · exact False.elim P
theorem os_cmp {g : Int → Int → Bool} : OpSem X true (rI0 fun i j => .bl (g i j)) (vCmp g) := by
  intro hid ρ st H x y v w Q S rx ry P
  unfold vCmp at P
  split at P
  · rename_i i j
    exact ⟨i, j, rx, ry, P.val S rfl (fun _ _ e => nomatch e)⟩
  · exact False.elim P
theorem rep_non {G : Gx} {ρ : List Addr} {H : Hp} {p : PV} {v : V} (h : Rep G ρ H p v) : decide (v = .non) = isNon p := by
  cases p with
  | non => obtain rfl : v = .non := h; rfl
  | bl _ => obtain rfl := (show v = _ from h); rfl
  | int _ => obtain rfl := (show v = _ from h); rfl
  | str _ => obtain rfl := (show v = _ from h); rfl
  | tup _ => obtain ⟨a, _, rfl, _⟩ := h; rfl
  | lst _ => obtain ⟨a, _, rfl, _⟩ := h; rfl
  | dct _ _ => obtain ⟨a, _, rfl, _⟩ := h; rfl
  | sset _ => obtain ⟨a, rfl, _⟩ := h; rfl
  | scr _ => obtain ⟨a, rfl, _⟩ := h; rfl
  | loc _ => obtain ⟨a, rfl, _⟩ := h; rfl
theorem os_isN : OpSem X true (fun x y H Q => y = .non ∧ Q (.bl (decide (x = .non))) H) (vIsN false) := by
  intro hid ρ st H x y v w Q S rx ry P
  unfold vIsN at P
  split at P
  · refine ⟨ry, P.val S ?_ (fun _ _ e => nomatch e)⟩
    rw [rep_non rx]; rfl
  · exact False.elim P
theorem os_notN : OpSem X true (fun x y H Q => y = .non ∧ Q (.bl (!decide (x = .non))) H) (vIsN true) := by
  intro hid ρ st H x y v w Q S rx ry P
  unfold vIsN at P
  split at P
  · refine ⟨ry, P.val S ?_ (fun _ _ e => nomatch e)⟩
    rw [rep_non rx]; rfl
  · exact False.elim P

mutual
theorem rep_toD {G : Gx} {ρ : List Addr} {H : Hp} : ∀ (p : PV) (v : V) (d : PyData), Rep G ρ H p v → toD p = some d → Dp G.K H v d
  | .non, v, d, h, e => by obtain rfl : v = .non := h; cases e; exact .non
  | .bl b, v, d, h, e => by obtain rfl : v = _ := h; cases e; exact .bl b
  | .int b, v, d, h, e => by obtain rfl : v = _ := h; cases e; exact .int b
  | .str b, v, d, h, e => by obtain rfl : v = _ := h; cases e; exact .str b
  | .tup xs, v, d, h, e => by
    obtain ⟨a, vs, rfl, s, r⟩ := h
    cases q : toDs xs with
    | none => unfold toD at e; rw [q] at e; cases e
    | some ds => unfold toD at e; rw [q] at e; cases e; exact .tup s (reps_toD xs vs ds r q)
  | .lst xs, v, d, h, e => by
    obtain ⟨a, vs, rfl, _, _, s, r⟩ := h
    cases q : toDs xs with
    | none => unfold toD at e; rw [q] at e; cases e
    | some ds => unfold toD at e; rw [q] at e; cases e; exact .lst (SqL.of s) (reps_toD xs vs ds r q)
  | .dct _ _, _, _, _, e => by cases e
  | .sset _, _, _, _, e => by cases e
  | .scr _, _, _, _, e => by cases e
  | .loc _, _, _, _, e => by cases e
theorem reps_toD {G : Gx} {ρ : List Addr} {H : Hp} : ∀ (ps : List PV) (vs : List V) (ds : List PyData), Reps G ρ H ps vs → toDs ps = some ds → DpAll G.K H vs ds
  | [], vs, ds, h, e => by obtain rfl : vs = [] := h; cases e; exact .nil
  | p :: ps, vs, ds, h, e => by
    obtain ⟨v, r, rfl, h1, h2⟩ := h
    cases q1 : toD p with
    | none => unfold toDs at e; rw [q1] at e; cases e
    | some d =>
      cases q2 : toDs ps with
      | none => unfold toDs at e; rw [q1, q2] at e; cases e
      | some ds' =>
        unfold toDs at e; rw [q1, q2] at e; cases e
        exact .cons (rep_toD p v d h1 q1) (reps_toD ps r ds' h2 q2)
end
/-- through the store -/
theorem rep_deD {G : Gx} {ρ : List Addr} {st : VSt} {H : Hp} {p : PV} {v : V} {d : PyData} (S : SRel G ρ st H) (h : Rep G ρ H p v) (e : toD (deref st p) = some d) : Dp G.K H v d := by
  rcases rep_deref S h with ⟨n, a, rfl, rfl, o⟩ | ⟨_, z⟩
  · revert e o
    cases deref st (.loc n) with
    | lst xs =>
      intro e o
      obtain ⟨vs, s, r⟩ := o
      cases q : toDs xs with
      | none => unfold toD at e; rw [q] at e; cases e
      | some ds => unfold toD at e; rw [q] at e; cases e; exact .lst (SqL.of s) (reps_toD xs vs ds r q)
    | dct _ _ => intro e _; cases e
    | sset _ => intro e _; cases e
    | _ => intro _ o; exact False.elim o
  · rw [z] at e
    exact rep_toD p v d h e
theorem dEq_eq : ∀ (ks : List Key) (xs : List PV) (ks' : List Key) (ys : List PV), dEq ks xs ks' ys = true → ks = ks' ∧ xs = ys ∧ ∀ x ∈ xs, ∃ i, x = PV.int i
  | [], [], [], [], _ => ⟨rfl, rfl, by simp⟩
  | k :: ks, .int i :: xs, k' :: ks', .int j :: ys, h => by
    unfold dEq at h
    rw [Bool.and_eq_true, Bool.and_eq_true] at h
    obtain ⟨⟨h1, h2⟩, h3⟩ := h
    obtain ⟨e1, e2, e3⟩ := dEq_eq ks xs ks' ys h3
    refine ⟨by rw [of_decide_eq_true h1, e1], by rw [of_decide_eq_true h2, e2], fun x hx => ?_⟩
    rcases List.mem_cons.mp hx with rfl | hx
    · exact ⟨i, rfl⟩
    · exact e3 x hx
  | [], _ :: _, _, _, h => by simp [dEq] at h
  | [], [], _ :: _, _, h => by simp [dEq] at h
  | [], [], [], _ :: _, h => by simp [dEq] at h
  | k :: ks, [], _, _, h => by simp [dEq] at h
  | k :: ks, .non :: xs, _, _, h => by simp [dEq] at h
  | k :: ks, .bl _ :: xs, _, _, h => by simp [dEq] at h
  | k :: ks, .str _ :: xs, _, _, h => by simp [dEq] at h
  | k :: ks, .tup _ :: xs, _, _, h => by simp [dEq] at h
  | k :: ks, .lst _ :: xs, _, _, h => by simp [dEq] at h
  | k :: ks, .dct _ _ :: xs, _, _, h => by simp [dEq] at h
  | k :: ks, .sset _ :: xs, _, _, h => by simp [dEq] at h
  | k :: ks, .scr _ :: xs, _, _, h => by simp [dEq] at h
  | k :: ks, .loc _ :: xs, _, _, h => by simp [dEq] at h
  | k :: ks, .int i :: xs, [], _, h => by simp [dEq] at h
  | k :: ks, .int i :: xs, k' :: ks', [], h => by simp [dEq] at h
  | k :: ks, .int i :: xs, k' :: ks', .non :: ys, h => by simp [dEq] at h
  | k :: ks, .int i :: xs, k' :: ks', .bl _ :: ys, h => by simp [dEq] at h
  | k :: ks, .int i :: xs, k' :: ks', .str _ :: ys, h => by simp [dEq] at h
  | k :: ks, .int i :: xs, k' :: ks', .tup _ :: ys, h => by simp [dEq] at h
  | k :: ks, .int i :: xs, k' :: ks', .lst _ :: ys, h => by simp [dEq] at h
  | k :: ks, .int i :: xs, k' :: ks', .dct _ _ :: ys, h => by simp [dEq] at h
  | k :: ks, .int i :: xs, k' :: ks', .sset _ :: ys, h => by simp [dEq] at h
  | k :: ks, .int i :: xs, k' :: ks', .scr _ :: ys, h => by simp [dEq] at h
  | k :: ks, .int i :: xs, k' :: ks', .loc _ :: ys, h => by simp [dEq] at h
/-- a dict of flat values is told by what it holds -/
theorem reps_int {G : Gx} {ρ : List Addr} {H : Hp} : ∀ {xs : List PV} {vs ws : List V}, (∀ x ∈ xs, ∃ i, x = PV.int i) → Reps G ρ H xs vs → Reps G ρ H xs ws → vs = ws ∧ ∀ v ∈ vs, flatB v = true
  | [], vs, ws, _, h, k => by rw [show vs = [] from h, show ws = [] from k]; exact ⟨rfl, by simp⟩
  | x :: xs, vs, ws, hx, h, k => by
    obtain ⟨v, r, rfl, h1, h2⟩ := h
    obtain ⟨w, q, rfl, k1, k2⟩ := k
    obtain ⟨i, rfl⟩ := hx x List.mem_cons_self
    obtain rfl : v = .int i := h1
    obtain rfl : w = .int i := k1
    obtain ⟨e, f⟩ := reps_int (fun y hy => hx y (List.mem_cons_of_mem _ hy)) h2 k2
    exact ⟨by rw [e], fun v hv => by
      rcases List.mem_cons.mp hv with rfl | hv
      · rfl
      · exact f v hv⟩
theorem valV_zip : ∀ {ks : List Key} {vs : List V}, ks.length = vs.length → ks.Nodup → ∀ p ∈ ks.zip vs, valV (ks.zip vs) p.1 = some p.2
  | [], vs, _, _, p, h => by simp at h
  | k :: ks, [], h, _, _, _ => by simp at h
  | k :: ks, v :: vs, hl, nd, p, hp => by
    obtain ⟨n1, n2⟩ := List.nodup_cons.mp nd
    rw [List.zip_cons_cons] at hp ⊢
    rcases List.mem_cons.mp hp with rfl | hp
    · exact valV_pos rfl
    · rw [valV_neg (fun e : k = p.1 => n1 (by rw [e]; exact (List.of_mem_zip hp).1))]
      exact valV_zip (by simpa using hl) n2 p hp
def rEq3 (neg : Bool) (K : PySem.W.Frag) : R2 := fun x y H Q => (scal x y = true ∧ Q (.bl (if neg then !decide (x = y) else decide (x = y))) H) ∨
  (∃ a b ks ls, x = .ref a ∧ y = .ref b ∧ H a = some (.dK ks) ∧ H b = some (.dK ls) ∧ ks.length = ls.length ∧ (∀ p ∈ ks, valV ls p.1 = some p.2 ∧ flatB p.2 = true) ∧ Q (.bl (!neg)) H) ∨
  (∃ d e, Dp K H x d ∧ Dp K H y e ∧ SeqAt.shaped d = true ∧ SeqAt.shaped e = true ∧ Q (.bl (if neg then !PyData.eqv d e else PyData.eqv d e)) H)
theorem op_eq3 (hu : X.A.units + 64 < cLine) : OpR X (compareOp .Eq) (rEq3 false X.K) := OpR.or op_eq (OpR.or (op_eq_dictA (by omega)) (op_eqD hu))
theorem op_ne3 (hu : X.A.units + 64 < cLine) : OpR X (compareOp .NotEq) (rEq3 true X.K) := OpR.or op_ne (OpR.or (op_ne_dictA (by omega)) (op_neD hu))
theorem os_eq {neg : Bool} : OpSem X true (rEq3 neg X.K) (vEqF neg) := by
  intro hid ρ st H x y v w Q S rx ry P
  unfold vEqF at P
  split at P
  · rename_i a b
    obtain rfl : v = .str a := rx
    obtain rfl : w = .str b := ry
    refine .inl ⟨rfl, ?_⟩
    have e : decide (V.str a = V.str b) = decide (a = b) := by simp
    rw [e]
    exact P.val S rfl (fun _ _ e => nomatch e)
  · rename_i a b
    obtain rfl : v = .int a := rx
    obtain rfl : w = .int b := ry
    refine .inl ⟨rfl, ?_⟩
    have e : decide (V.int a = V.int b) = decide (a = b) := by simp
    rw [e]
    exact P.val S rfl (fun _ _ e => nomatch e)
  · rename_i a b
    obtain rfl : v = .bl a := rx
    obtain rfl : w = .bl b := ry
    refine .inl ⟨rfl, ?_⟩
    have e : decide (V.bl a = V.bl b) = decide (a = b) := by simp
    rw [e]
    exact P.val S rfl (fun _ _ e => nomatch e)
  · split at P
    · rename_i ks xs ks' ys e1 e2
      split at P
      · rename_i hz
        rw [Bool.and_eq_true] at hz
        obtain ⟨e3, e4, e5⟩ := dEq_eq _ _ _ _ hz.1
        subst e3 e4
        obtain ⟨a, vs, rfl, l1, ha, r1⟩ := rep_dct S rx e1
        obtain ⟨b, ws, rfl, l2, hb, r2⟩ := rep_dct S ry e2
        obtain ⟨e6, fl⟩ := reps_int e5 r1 r2
        subst e6
        refine .inr (.inl ⟨a, b, _, _, rfl, rfl, ha, hb, rfl, fun p hp => ⟨valV_zip l1 (of_decide_eq_true hz.2) p hp, fl _ (List.of_mem_zip hp).2⟩, P.val S rfl (fun _ _ e => nomatch e)⟩)
      · exact False.elim P
    · split at P
      · rename_i d e q1 q2
        split at P
        · rename_i hz
          rw [Bool.and_eq_true] at hz
          exact .inr (.inr ⟨d, e, rep_deD S rx q1, rep_deD S ry q2, hz.1, hz.2, P.val S rfl (fun _ _ e => nomatch e)⟩)
        · exact False.elim P
      · exact False.elim P
end
end Vm

namespace Vm
open PySem PySem.Spec L2
section
variable {X : Cx} {fr : Bool}
/-! ### in -/
theorem rep_key {G : Gx} {ρ : List Addr} {H : Hp} {p : PV} {v : V} {k : Key} (h : Rep G ρ H p v) (e : keyP p = some k) : v = kV k := by
  cases p with
  | int i => cases e; exact h
  | str i => cases e; exact h
  | _ => cases e
theorem kLook_rep {G : Gx} {ρ : List Addr} {H : Hp} {k : Key} : ∀ {ks : List Key} {xs : List PV} {vs : List V}, ks.length = vs.length → Reps G ρ H xs vs → (match kLook ks xs k, valV (ks.zip vs) k with
    | some p, some v => Rep G ρ H p v
    | none, none => True
    | _, _ => False)
  | [], xs, vs, _, r => by simp [kLook, valV]
  | k' :: ks, xs, [], h, r => by simp at h
  | k' :: ks, [], v :: vs, h, r => by have : v :: vs = [] := r; cases this
  | k' :: ks, x :: xs, v :: vs, h, r => by
    obtain ⟨v', r', e, h1, h2⟩ := r
    cases e
    unfold kLook
    rw [List.zip_cons_cons]
    by_cases hk : k' = k
    · rw [if_pos hk, valV_pos hk]
      exact h1
    · rw [if_neg hk, valV_neg hk]
      exact kLook_rep (by simpa using h) h2
theorem kLook_some {G : Gx} {ρ : List Addr} {H : Hp} {k : Key} {ks : List Key} {xs : List PV} {vs : List V} (hl : ks.length = vs.length) (r : Reps G ρ H xs vs) : (kLook ks xs k).isSome = (valV (ks.zip vs) k).isSome := by
  have h := kLook_rep (k := k) hl r
  cases e1 : kLook ks xs k <;> cases e2 : valV (ks.zip vs) k <;> rw [e1, e2] at h <;> first | rfl | exact False.elim h
theorem op_in_dict (hu : X.A.units + 1 < cLine) : OpR X (compareOp .In) (fun x y H Q => ∃ a o, y = .ref a ∧ DGet H a x o ∧ Q (.bl o.isSome) H) := by
  intro pins s σ H x y v u Q I rx ry h
  obtain ⟨a, o, rfl, g, q⟩ := h
  obtain rfl : u = Value.ref a := ry
  exact d_in hu I g rx fun s' I' => ⟨.bl _, H, I', rfl, q⟩
theorem op_notin_dict (hu : X.A.units + 1 < cLine) : OpR X (compareOp .NotIn) (fun x y H Q => ∃ a o, y = .ref a ∧ DGet H a x o ∧ Q (.bl (!o.isSome)) H) := by
  intro pins s σ H x y v u Q I rx ry h
  obtain ⟨a, o, rfl, g, q⟩ := h
  obtain rfl : u = Value.ref a := ry
  exact d_notIn hu I g rx fun s' I' => ⟨.bl _, H, I', rfl, q⟩
def rIn3 (P : Program) (w : World) (K : PySem.W.Frag) (neg : Bool) : R2 := fun x y H Q => (∃ a o, y = .ref a ∧ DGet H a x o ∧ Q (.bl (if neg then !o.isSome else o.isSome)) H) ∨ rIn K neg x y H Q ∨ rSInK P w neg x y H Q
theorem op_in3 (hu : X.A.units + 64 < cLine) : OpR X (compareOp .In) (rIn3 X.prog X.w X.K false) := OpR.or (op_in_dict (by omega)) (OpR.or op_in_seq or_sinK)
theorem op_notin3 (hu : X.A.units + 64 < cLine) : OpR X (compareOp .NotIn) (rIn3 X.prog X.w X.K true) := OpR.or (op_notin_dict (by omega)) (OpR.or op_notIn_seq or_snotinK)
theorem rep_flat {G : Gx} {ρ : List Addr} {H : Hp} {p : PV} {v : V} (h : Rep G ρ H p v) (f : flatP p = true) : flatV v = true := by
  cases p with
  | non => obtain rfl : v = _ := h; rfl
  | bl _ => obtain rfl : v = _ := h; rfl
  | int _ => obtain rfl : v = _ := h; rfl
  | str _ => obtain rfl : v = _ := h; rfl
  | _ => cases f
theorem rep_eqP {G : Gx} {ρ : List Addr} {H : Hp} {p q : PV} {v w : V} (h : Rep G ρ H p v) (k : Rep G ρ H q w) (f : flatP p = true) (g : flatP q = true) : eqV v w = eqP p q := by
  cases p with
  | non => obtain rfl : v = _ := h; cases q <;> first | (obtain rfl : w = _ := k; rfl) | cases g
  | bl _ => obtain rfl : v = _ := h; cases q <;> first | (obtain rfl : w = _ := k; rfl) | cases g
  | int _ => obtain rfl : v = _ := h; cases q <;> first | (obtain rfl : w = _ := k; rfl) | cases g
  | str _ => obtain rfl : v = _ := h; cases q <;> first | (obtain rfl : w = _ := k; rfl) | cases g
  | _ => cases f
theorem reps_in {G : Gx} {ρ : List Addr} {H : Hp} {x : PV} {v : V} (h : Rep G ρ H x v) (f : flatP x = true) : ∀ {xs : List PV} {vs : List V}, Reps G ρ H xs vs → xs.all flatP = true → vs.all flatV = true ∧ inV v vs = inP x xs
  | [], vs, r, _ => by rw [show vs = [] from r]; exact ⟨rfl, rfl⟩
  | y :: xs, vs, r, g => by
    obtain ⟨w, q, rfl, h1, h2⟩ := r
    rw [List.all_cons, Bool.and_eq_true] at g
    obtain ⟨i1, i2⟩ := reps_in h f h2 g.2
    refine ⟨by rw [List.all_cons, rep_flat h1 g.1, i1]; rfl, ?_⟩
    have e1 : inV v (w :: q) = (eqV w v || inV v q) := rfl
    have e2 : inP x (y :: xs) = (eqP y x || inP x xs) := rfl
    rw [e1, e2, i2, rep_eqP h1 h g.1 f]
theorem os_in {neg : Bool} : OpSem X true (rIn3 X.prog X.w X.K neg) (vIn neg) := by
  intro hid ρ st H x y v w Q S rx ry P
  unfold vIn at P
  split at P
  · rename_i xs e
    split at P
    · rename_i z
      obtain ⟨a, rfl, ha⟩ := rep_set S ry e
      refine .inr (.inr ⟨.inr z, a, memb xs, xs.length, rx, rfl, ha, ?_⟩)
      exact P.val S rfl (fun _ _ e => nomatch e)
    · exact False.elim P
  · rename_i ks ys e
    split at P
    · rename_i k ek
      obtain ⟨a, vs, rfl, l, ha, r⟩ := rep_dct S ry e
      refine .inl ⟨a, _, rfl, by rw [rep_key rx ek]; exact DGet.k ha, ?_⟩
      rw [← kLook_some l r]
      exact P.val S rfl (fun _ _ e => nomatch e)
    · exact False.elim P
  · rename_i xs e
    split at P
    · rename_i hz
      rw [Bool.and_eq_true] at hz
      obtain ⟨a, vs, rfl, ha, r⟩ := rep_lst S ry e
      obtain ⟨f1, f2⟩ := reps_in rx hz.1 r hz.2
      refine .inr (.inl ⟨a, vs, rfl, .inl (SqL.of ha), rep_flat rx hz.1, f1, ?_⟩)
      rw [f2]
      exact P.val S rfl (fun _ _ e => nomatch e)
    · exact False.elim P
  · rename_i xs e
    split at P
    · rename_i hz
      rw [Bool.and_eq_true] at hz
      obtain ⟨a, vs, rfl, ha, r⟩ := rep_tup S ry e
      obtain ⟨f1, f2⟩ := reps_in rx hz.1 r hz.2
      refine .inr (.inl ⟨a, vs, rfl, .inr ha, rep_flat rx hz.1, f1, ?_⟩)
      rw [f2]
      exact P.val S rfl (fun _ _ e => nomatch e)
    · exact False.elim P
  · exact False.elim P

/-! ### subscripts -/
def rIxD : R2 := fun x y H Q => ∃ a v, x = .ref a ∧ DGet H a y (some v) ∧ Q v H
theorem ix_dict (hu : X.A.units + 1 < cLine) : IxR X rIxD := by
  intro value slice pins s σ H x y v u Q I rx ry h hs
  obtain ⟨a, w, rfl, g, q⟩ := h
  obtain rfl : v = Value.ref a := rx
  have hT := dict_typeIs I g
  unfold PyProof.Rows.subscriptTail
  refine wpAny_bind ?_
  rw [getitemInPython_of_ne hT.not_modules]
  refine wpAny_bind (wpAny_specialOf hT PySem.F.slot_dict_getitem.lookup ?_)
  have fin : wpAny (model X.prog X.w) X.A (subscripted slice false (.ref a) u) (fun r s₃ => wpAny (model X.prog X.w) X.A (letTemporaryGo value (.ref a) r >>= fun _ => pure r) (EP X pins σ Q) X.xe s₃) X.xe s := by
    rw [hs]
    exact wpAny_operating (d_getItem hu I g ry fun w' s3 I3 rw' => wpAny_bind (wpAny_letTemporaryGo (wpAny_pure ⟨w, H, I3, rw', q⟩)))
  first
    | exact wpAny_pure (wpAny_bind fin)
    | exact wpAny_bind (wpAny_pure (wpAny_bind fin))
    | exact wpAny_bind fin
def rIx4 (K : PySem.W.Frag) : R2 := fun x y H Q => rIxD x y H Q ∨ rIx K x y H Q
theorem ix_4 (hu : X.A.units + 64 < cLine) : IxR X (rIx4 X.K) := IxR.or (ix_dict (by omega)) ix_seq
theorem reps_at {G : Gx} {ρ : List Addr} {H : Hp} {xs : List PV} {vs : List V} {i : Int} {p : PV} (r : Reps G ρ H xs vs) (e : atI xs i = some p) : ∃ v, atI vs i = some v ∧ Rep G ρ H p v := by
  unfold atI at e ⊢
  rw [r.length]
  obtain ⟨j, e1, e2⟩ := Option.bind_eq_some_iff.mp e
  obtain ⟨v, e3, e4⟩ := r.get e2
  exact ⟨v, Option.bind_eq_some_iff.mpr ⟨j, e1, e3⟩, e4⟩
theorem atI_map {α β : Type} (g : α → β) (xs : List α) (i : Int) : atI (xs.map g) i = (atI xs i).map g := by
  unfold atI
  rw [List.length_map]
  cases ixN xs.length i <;> simp
theorem os_ix : OpSem X false (rIx4 X.K) vIx := by
  intro hid ρ st H x y v w Q S rx ry P
  unfold vIx at P
  split at P
  · rename_i xs i e
    obtain ⟨a, vs, rfl, ha, r⟩ := rep_lst S rx e
    cases e2 : atI xs i with
    | none => rw [e2] at P; exact False.elim P
    | some p =>
      rw [e2] at P
      obtain ⟨v, e3, r3⟩ := reps_at r e2
      exact .inr (.inl ⟨a, vs, i, v, rfl, ry, SqL.of ha, e3, P.val S r3 (fun z => nomatch z)⟩)
  · rename_i xs i e
    obtain ⟨a, vs, rfl, ha, r⟩ := rep_tup S rx e
    cases e2 : atI xs i with
    | none => rw [e2] at P; exact False.elim P
    | some p =>
      rw [e2] at P
      obtain ⟨v, e3, r3⟩ := reps_at r e2
      exact .inr (.inr (.inl ⟨a, vs, i, v, rfl, ry, ha, e3, P.val S r3 (fun z => nomatch z)⟩))
  · rename_i ns i e
    obtain ⟨a, rfl, ha⟩ := rep_scr S rx e
    cases e2 : atI ns i with
    | none => rw [e2] at P; exact False.elim P
    | some p =>
      rw [e2] at P
      exact .inr (.inl ⟨a, _, i, .int p, rfl, ry, ha, by rw [atI_map, e2]; rfl, P.val S rfl (fun z => nomatch z)⟩)
  · rename_i z i e
    have hx : x = .str z ∧ v = .str z := by
      rcases rep_deref S rx with ⟨n, a, rfl, rfl, o⟩ | ⟨_, z'⟩
      · rw [e] at o; exact False.elim o
      · rw [z'] at e; subst e; exact ⟨rfl, rx⟩
    split at P
    · rename_i hz
      cases e2 : atI z.cps.toList i with
      | none => rw [e2] at P; exact False.elim P
      | some c =>
        rw [e2] at P
        exact .inr (.inr (.inr ⟨z, i, c, hx.2, ry, sz _ hz, e2, P.val S rfl (fun z => nomatch z)⟩))
    · exact False.elim P
  · rename_i ks xs e
    split at P
    · rename_i k ek
      obtain ⟨a, vs, rfl, l, ha, r⟩ := rep_dct S rx e
      have h := kLook_rep (k := k) l r
      cases e1 : kLook ks xs k with
      | none => rw [e1] at P; exact False.elim P
      | some p =>
        rw [e1] at P h
        cases e2 : valV (ks.zip vs) k with
        | none => rw [e2] at h; exact False.elim h
        | some v' =>
          rw [e2] at h
          refine .inl ⟨a, v', rfl, ?_, P.val S h (fun z => nomatch z)⟩
          rw [rep_key ry ek, ← e2]
          exact DGet.k ha
    · exact False.elim P
  · exact False.elim P

/-! ### len, list, tuple, isinstance, int -/
def vLen (xs : List PV) (st : VSt) : Res PV := match xs with
  | [p] => match deref st p with
    | .lst xs => .ok (.int xs.length) st
    | .tup xs => .ok (.int xs.length) st
    | .scr ns => .ok (.int ns.length) st
    | .str z => if z.length ≤ 1000000 then .ok (.int z.length) st else .bad
    | _ => .bad
  | _ => .bad
def rLen2 (K : PySem.W.Frag) : List V → Hp → VK → Prop := fun xs H Q => (∃ p ys, xs = [.ref p] ∧ (SqL K H p ys ∨ SqT K H p ys) ∧ Q (.int ys.length) H) ∨ (∃ z, xs = [.str z] ∧ z.length ≤ sizeLine ∧ Q (.int z.length) H)
theorem call_len2 : CallR X (.builtin "len") (rLen2 X.K) := CallR.or call_len_seq call_len_str
theorem reps1 {G : Gx} {ρ : List Addr} {H : Hp} {p : PV} {vs : List V} (r : Reps G ρ H [p] vs) : ∃ v, vs = [v] ∧ Rep G ρ H p v := by
  obtain ⟨v, q, rfl, h, e⟩ := r
  obtain rfl : q = [] := e
  exact ⟨v, rfl, h⟩
theorem reps2 {G : Gx} {ρ : List Addr} {H : Hp} {p p2 : PV} {vs : List V} (r : Reps G ρ H [p, p2] vs) : ∃ v w, vs = [v, w] ∧ Rep G ρ H p v ∧ Rep G ρ H p2 w := by
  obtain ⟨v, q, rfl, h, e⟩ := r
  obtain ⟨w, rfl, h2⟩ := reps1 e
  exact ⟨v, w, rfl, h, h2⟩
theorem rep_str {G : Gx} {ρ : List Addr} {st : VSt} {H : Hp} {x : PV} {v : V} {z : Str} (S : SRel G ρ st H) (rx : Rep G ρ H x v) (e : deref st x = .str z) : v = .str z := by
  rcases rep_deref S rx with ⟨n, a, rfl, rfl, o⟩ | ⟨_, z'⟩
  · rw [e] at o; exact False.elim o
  · rw [z'] at e; subst e; exact rx
theorem cs_len : CallSem X true (rLen2 X.K) vLen := by
  intro hid ρ st H xs vs Q S r P
  unfold vLen at P
  split at P
  · rename_i p
    obtain ⟨v, rfl, rp⟩ := reps1 r
    split at P
    · rename_i xs e
      obtain ⟨a, ws, rfl, ha, r1⟩ := rep_lst S rp e
      exact .inl ⟨a, ws, rfl, .inl (SqL.of ha), by rw [r1.length]; exact P.val S rfl (fun _ _ e => nomatch e)⟩
    · rename_i xs e
      obtain ⟨a, ws, rfl, ha, r1⟩ := rep_tup S rp e
      exact .inl ⟨a, ws, rfl, .inr ha, by rw [r1.length]; exact P.val S rfl (fun _ _ e => nomatch e)⟩
    · rename_i ns e
      obtain ⟨a, rfl, ha⟩ := rep_scr S rp e
      exact .inl ⟨a, _, rfl, .inl ha, by rw [List.length_map]; exact P.val S rfl (fun _ _ e => nomatch e)⟩
    · rename_i z e
      obtain rfl := rep_str S rp e
      split at P
      · rename_i hz
        exact .inr ⟨z, rfl, sz _ hz, P.val S rfl (fun _ _ e => nomatch e)⟩
      · exact False.elim P
    · exact False.elim P
  · exact False.elim P
/-- list(x) of a list or tuple -/
def vList (xs : List PV) (st : VSt) : Res PV := match xs with
  | [p] => match seqOf st p with
    | some xs => .ok (.lst xs) st
    | none => .bad
  | _ => .bad
theorem rep_seq {G : Gx} {ρ : List Addr} {st : VSt} {H : Hp} {p : PV} {v : V} {xs : List PV} (S : SRel G ρ st H) (r : Rep G ρ H p v) (e : seqOf st p = some xs) : ∃ a vs, v = .ref a ∧ (SqL G.K H a vs ∨ SqT G.K H a vs) ∧ Reps G ρ H xs vs := by
  unfold seqOf at e
  split at e
  · rename_i ys e2
    cases e
    obtain ⟨a, vs, h1, h2, h3⟩ := rep_lst S r e2
    exact ⟨a, vs, h1, .inl (SqL.of h2), h3⟩
  · rename_i ys e2
    cases e
    obtain ⟨a, vs, h1, h2, h3⟩ := rep_tup S r e2
    exact ⟨a, vs, h1, .inr h2, h3⟩
  · cases e
theorem cs_list : CallSem X true (fun xs H Q => ∃ p ys, xs = [.ref p] ∧ (SqL X.K H p ys ∨ SqT X.K H p ys) ∧ ∀ l, H l = none → Q (.ref l) (upd H l (.lst ys))) vList := by
  intro hid ρ st H xs vs Q S r P
  unfold vList at P
  split at P
  · rename_i p
    obtain ⟨v, rfl, rp⟩ := reps1 r
    split at P
    · rename_i xs e
      obtain ⟨a, ws, rfl, ha, r1⟩ := rep_seq S rp e
      exact ⟨a, ws, rfl, ha, fun l hl => P.give S hl hl (new_lst S r1 hl)⟩
    · exact False.elim P
  · exact False.elim P
def vTuple (xs : List PV) (st : VSt) : Res PV := match xs with
  | [p] => match seqOf st p with
    | some xs => .ok (.tup xs) st
    | none => .bad
  | _ => .bad
theorem cs_tuple : CallSem X false (fun xs H Q => ∃ p ys, xs = [.ref p] ∧ ((SqL X.K H p ys ∧ ∀ l, H l = none → Q (.ref l) (upd H l (.tup ys))) ∨ (SqT X.K H p ys ∧ Q (.ref p) H))) vTuple := by
  intro hid ρ st H xs vs Q S r P
  unfold vTuple at P
  split at P
  · rename_i p
    obtain ⟨v, rfl, rp⟩ := reps1 r
    split at P
    · rename_i xs e
      obtain ⟨a, ws, rfl, ha, r1⟩ := rep_seq S rp e
      rcases ha with ha | ha
      · exact ⟨a, ws, rfl, .inl ⟨ha, fun l hl => P.give S hl hl (new_tup r1 hl)⟩⟩
      · exact ⟨a, ws, rfl, .inr ⟨ha, P.val S ⟨a, ws, rfl, ha, r1⟩ (fun z => nomatch z)⟩⟩
    · exact False.elim P
  · exact False.elim P
/-- the built-in type of a value -/
def tyP (st : VSt) (p : PV) : Option String := match deref st p with
  | .non => some "NoneType" | .bl _ => some "bool" | .int _ => some "int" | .str _ => some "str"
  | .tup _ => some "tuple" | .lst _ => some "list" | .dct _ _ => some "dict"
  | _ => none
def isaT (T : String) : String → Option Bool := fun t => kitB t T
def vIsa (T : String) (xs : List PV) (st : VSt) : Res PV := match xs with
  | [p] => match (tyP st p).bind (isaT T) with
    | some b => .ok (.bl b) st
    | none => .bad
  | _ => .bad
theorem rep_ty {G : Gx} {ρ : List Addr} {st : VSt} {H : Hp} {p : PV} {v : V} {t : String} (S : SRel G ρ st H) (r : Rep G ρ H p v) (e : tyP st p = some t) : TyX G.K H v (.type t) := by
  unfold tyP at e
  have val : ∀ {q}, deref st p = q → (∀ a, ¬ ObjR G ρ H q a) → Rep G ρ H q v := fun {q} e no => by
    rcases rep_deref S r with ⟨n, a, rfl, rfl, o⟩ | ⟨_, z'⟩
    · rw [e] at o; exact absurd o (no a)
    · rw [z'] at e; subst e; exact r
  split at e
  · rename_i e2
    cases e
    obtain rfl : v = .non := val e2 fun _ z => z
    exact .base .non
  · rename_i b e2
    cases e
    obtain rfl : v = .bl b := val e2 fun _ z => z
    exact .base (.bl _)
  · rename_i b e2
    cases e
    obtain rfl : v = .int b := val e2 fun _ z => z
    exact .base (.int _)
  · rename_i b e2
    cases e
    obtain rfl : v = .str b := val e2 fun _ z => z
    exact .base (.str _)
  · rename_i xs e2
    cases e
    obtain ⟨a, vs, rfl, h, _⟩ := rep_tup S r e2
    rcases h with (h | ⟨o, h⟩) | ⟨o, its, n, h1, h2, _⟩
    · exact .base (.tup h)
    · exact .fTuple h
    · exact .kTuple h1 h2
  · rename_i xs e2
    cases e
    obtain ⟨a, vs, rfl, h, _⟩ := rep_lst S r e2
    exact .base (.lst h)
  · rename_i ks xs e2
    cases e
    obtain ⟨a, vs, rfl, _, h, _⟩ := rep_dct S r e2
    exact .base (.dK h)
  · cases e
/-- isinstance(x, T) -/
theorem ev_isa {a : Expr} {ma : EM} {fa : Bool} {T : Str} {T' : String} {p p2 pos : Pos} (ha : Ev X fa a ma) (hm : X.mg "isinstance" = none) (hT : X.mg T = none) (hv : bootBuiltins T = some (.type T')) (hg : Gl X "isinstance" := by rfl) (hgT : Gl X T := by rfl)
    (hn : T ≠ "__name__" := by decide) (hd : (T == ("__debug__" : Str)) = false := by decide)
    (hs : starEach (a :: [.Name T p2]) X.env = (false, eval a X.env) :: starEach [.Name T p2] X.env := by rfl) (hs2 : starEach (.Name T p2 :: []) X.env = (false, eval (.Name T p2) X.env) :: starEach [] X.env := by rfl)
    (hpl : (backTo pos (starEach [.Name T p2] X.env)).any (·.1) = false := by rfl) :
    Ev X true (.Call (.Name "isinstance" p) [a, .Name T p2] [] pos) (eApp (vIsa T') (aCons ma aNil)) := by
  refine PE.anti (pe_callB call_isi hg hm PyProof.Rows.boot_isinstance (pa_cons ha (pa_cons (pe_bltn (v := .ty T') hgT hT hv rfl hn hd) pa_nil hs2) hs) (by decide) (by decide) hs hpl) fun σ H Q ⟨hid, ρ, env, st, R, P⟩ => ?_
  have e : eApp (vIsa T') (aCons ma aNil) env st = (ma env st).bind fun x s1 => vIsa T' [x] s1 := by
    unfold eApp aCons aNil
    cases ma env st <;> rfl
  rw [e] at P
  refine cE_use R P fun ρ1 st1 H1 x v l R1 rx _ P1 => ?_
  show ∃ _ _ _ _ _, _
  replace P1 : Post (gx X hid) ρ1 H1 (match (tyP st1 x).bind (isaT T') with
    | some b => .ok (.bl b) st1
    | none => .bad) (kE (gx X hid) H true Q) := P1
  split at P1
  · rename_i b eb
    obtain ⟨t, h1, h2⟩ := Option.bind_eq_some_iff.mp eb
    exact ⟨v, .ty T', .type t, .type T', b, rfl, .ty T', rep_ty R1.s rx h1, kit_ty h2, P1.val R1.s rfl (fun _ _ e => nomatch e)⟩
  · exact False.elim P1
def vInt (xs : List PV) (st : VSt) : Res PV := match xs with
  | [.int i] => .ok (.int i) st
  | [.bl k] => .ok (.int (if k then 1 else 0)) st
  | _ => .bad
theorem cs_int : CallSem X true (fun xs H Q => (∃ i, xs = [.int i] ∧ Q (.int i) H) ∨ ∃ k, xs = [.bl k] ∧ Q (.int (if k then 1 else 0)) H) vInt := by
  intro hid ρ st H xs vs Q S r P
  unfold vInt at P
  split at P
  · obtain ⟨v, rfl, rp⟩ := reps1 r
    rename_i i
    obtain rfl : v = .int i := rp
    exact .inl ⟨i, rfl, P.val S rfl (fun _ _ e => nomatch e)⟩
  · obtain ⟨v, rfl, rp⟩ := reps1 r
    rename_i i
    obtain rfl : v = .bl i := rp
    exact .inr ⟨i, rfl, P.val S rfl (fun _ _ e => nomatch e)⟩
  · exact False.elim P
def vMax (xs : List PV) (st : VSt) : Res PV := match xs with
  | [.int i, .int j] => .ok (.int (if j > i then j else i)) st
  | _ => .bad
theorem cs_max : CallSem X true (fun xs H Q => ∃ i j, xs = [.int i, .int j] ∧ Q (.int (if j > i then j else i)) H) vMax := by
  intro hid ρ st H xs vs Q S r P
  unfold vMax at P
  split at P
  · rename_i i j
    obtain ⟨v, w, rfl, rp, rq⟩ := reps2 r
    exact ⟨i, j, by rw [show v = _ from rp, show w = _ from rq], P.val S rfl (fun _ _ e => nomatch e)⟩
  · exact False.elim P
def vMin (xs : List PV) (st : VSt) : Res PV := match xs with
  | [.int i, .int j] => .ok (.int (if j < i then j else i)) st
  | _ => .bad
theorem cs_min : CallSem X true (fun xs H Q => ∃ i j, xs = [.int i, .int j] ∧ Q (.int (if j < i then j else i)) H) vMin := by
  intro hid ρ st H xs vs Q S r P
  unfold vMin at P
  split at P
  · rename_i i j
    obtain ⟨v, w, rfl, rp, rq⟩ := reps2 r
    exact ⟨i, j, by rw [show v = _ from rp, show w = _ from rq], P.val S rfl (fun _ _ e => nomatch e)⟩
  · exact False.elim P
/-- any(xs) of bools -/
def bools : List PV → Option (List Bool)
  | [] => some []
  | .bl b :: r => (bools r).map (b :: ·)
  | _ => none
def vAny (xs : List PV) (st : VSt) : Res PV := match xs with
  | [p] => match deref st p with
    | .lst xs => match bools xs with
      | some bs => .ok (.bl (bs.any id)) st
      | none => .bad
    | _ => .bad
  | _ => .bad
theorem reps_bools {G : Gx} {ρ : List Addr} {H : Hp} : ∀ {xs : List PV} {vs : List V} {bs : List Bool}, Reps G ρ H xs vs → bools xs = some bs → vs = bs.map V.bl
  | [], vs, bs, r, e => by cases e; exact r
  | .bl b :: xs, vs, bs, r, e => by
    unfold bools at e
    obtain ⟨v, q, rfl, h1, h2⟩ := r
    cases e2 : bools xs with
    | none => rw [e2] at e; cases e
    | some cs =>
      rw [e2] at e
      cases e
      rw [reps_bools h2 e2, show v = .bl b from h1]; rfl
  | .non :: xs, _, _, _, e => by cases e
  | .int _ :: xs, _, _, _, e => by cases e
  | .str _ :: xs, _, _, _, e => by cases e
  | .tup _ :: xs, _, _, _, e => by cases e
  | .lst _ :: xs, _, _, _, e => by cases e
  | .dct _ _ :: xs, _, _, _, e => by cases e
  | .sset _ :: xs, _, _, _, e => by cases e
  | .scr _ :: xs, _, _, _, e => by cases e
  | .loc _ :: xs, _, _, _, e => by cases e
theorem cs_any : CallSem X true (rAny X.K) vAny := by
  intro hid ρ st H xs vs Q S r P
  unfold vAny at P
  split at P
  · rename_i p
    obtain ⟨v, rfl, rp⟩ := reps1 r
    split at P
    · rename_i xs e
      obtain ⟨a, ws, rfl, ha, r1⟩ := rep_lst S rp e
      split at P
      · rename_i bs e2
        exact ⟨a, bs, rfl, by rw [← reps_bools r1 e2]; exact SqL.of ha, P.val S rfl (fun _ _ e => nomatch e)⟩
      · exact False.elim P
    · exact False.elim P
  · exact False.elim P
/-- dict(d) -/
def vDictOf (xs : List PV) (st : VSt) : Res PV := match xs with
  | [p] => match deref st p with
    | .dct ks xs => .ok (.dct ks xs) st
    | _ => .bad
  | _ => .bad
theorem call_dictC : CallR X (.type "dict") (fun xs H Q => ∃ a kvs, xs = [.ref a] ∧ Rd H a (.dK kvs) ∧ ∀ p, H p = none → Q (.ref p) (upd H p (.dK kvs))) := by
  intro pins s σ H xs us Q I r h
  obtain ⟨a, kvs, rfl, e, q⟩ := h
  obtain ⟨u, rfl, rr⟩ := vals1 r
  obtain rfl : u = Value.ref a := rr
  exact d_copyOf I e fun p s' hp I' => ⟨.ref p, _, I', rfl, q p hp⟩
theorem new_dct {G : Gx} {ρ : List Addr} {st : VSt} {H : Hp} {ks : List Key} {xs : List PV} {vs : List V} {p : Addr} (s : SRel G ρ st H) (l : ks.length = vs.length) (r : Reps G ρ H xs vs) (hp : H p = none) : Rep G ρ (upd H p (.dK (ks.zip vs))) (.dct ks xs) (.ref p) :=
  ⟨p, vs, rfl, s.fresh hp, s.freshH hp, l, upd_same, Reps.later (.new hp) _ _ r⟩
theorem cs_dictC : CallSem X true (fun xs H Q => ∃ a kvs, xs = [.ref a] ∧ Rd H a (.dK kvs) ∧ ∀ p, H p = none → Q (.ref p) (upd H p (.dK kvs))) vDictOf := by
  intro hid ρ st H xs vs Q S r P
  unfold vDictOf at P
  split at P
  · rename_i p
    obtain ⟨v, rfl, rp⟩ := reps1 r
    split at P
    · rename_i ks xs e
      obtain ⟨a, ws, rfl, l, ha, r1⟩ := rep_dct S rp e
      exact ⟨a, _, rfl, .inl ha, fun l' hl => P.give S hl hl (new_dct S l r1 hl)⟩
    · exact False.elim P
  · exact False.elim P
end
end Vm

namespace Vm
open PySem PySem.Spec L2

/-! ## slices -/
abbrev OM := VEnv → VSt → Res (Option Int)
def oNone : OM := fun _ st => .ok none st
def oSome (a : EM) : OM := fun env st => (a env st).bind fun p s => match p with
  | .int i => .ok (some i) s
  | _ => .bad
def kO (Q : Option Int → Hp → Prop) : KF (Option Int) := fun _ _ H' o => Q o H'
def cO (X : Cx) (m : OM) : TO := fun σ H Q => ∃ hid ρ env st, Rel (gx X hid) ρ env st σ H ∧ Post (gx X hid) ρ H (m env st) (kO Q)
def EvO (X : Cx) (e : Option Expr) (m : OM) : Prop := PO X e (cO X m)
theorem PO.anti {X : Cx} {e : Option Expr} {t u : TO} (h : PO X e t) (k : ∀ σ H Q, u σ H Q → t σ H Q) : PO X e u := ⟨fun pins s σ H Q I w => h.run pins s σ H Q I (k σ H Q w)⟩
def cutP (xs : List PV) (lo hi : Option Int) : List PV := (xs.drop (HT.sIx xs.length 0 lo)).take (HT.sIx xs.length xs.length hi - HT.sIx xs.length 0 lo)
def vSl (x : PV) (lo hi : Option Int) (st : VSt) : Res PV := match deref st x with
  | .lst xs => .ok (.lst (cutP xs lo hi)) st
  | .tup xs => .ok (.tup (cutP xs lo hi)) st
  | .str z => if z.length ≤ 1000000 then .ok (.str (cutS z lo hi)) st else .bad
  | _ => .bad
def eSl (a : EM) (lo hi : OM) : EM := fun env st => (a env st).bind fun x s1 => (lo env s1).bind fun l s2 => (hi env s2).bind fun h s3 => vSl x l h s3
section
variable {X : Cx} {fr fa fb : Bool} {a b e : Expr} {ma mb me : EM} {pos p2 : Pos}
theorem evo_none : EvO X none oNone := PO.anti po_none fun σ H Q ⟨hid, ρ, env, st, R, P⟩ => P.now R.s
theorem evo_some (h : Ev X fa a ma) : EvO X (some a) (oSome ma) := PO.anti (po_some h) fun σ H Q ⟨hid, ρ, env, st, R, P⟩ => cE_use R P fun ρ1 st1 H1 p v l R1 rp _ P1 => by
  cases p with
  | int i => exact ⟨i, rp, P1.now R1.s⟩
  | _ => exact False.elim P1
theorem cO_use {hid ρ : List Addr} {env : VEnv} {st : VSt} {σ : L2.St} {H : Hp} {m : OM} {β : Type} {k : Option Int → VSt → Res β} {K : KF β} {Q : Option Int → Hp → Prop} (R : Rel (gx X hid) ρ env st σ H) (P : Post (gx X hid) ρ H ((m env st).bind k) K)
    (q : ∀ ρ1 st1 H1 o, Later ρ H ρ1 H1 → Rel (gx X hid) ρ1 env st1 σ H1 → Post (gx X hid) ρ1 H1 (k o st1) K → Q o H1) : cO X m σ H Q :=
  ⟨hid, ρ, env, st, R, P.bind.imp fun ρ1 st1 H1 o l s kk => q ρ1 st1 H1 o l (R.later l s) kk⟩
def rSl3 (K : PySem.W.Frag) : V → Option Int → Option Int → Hp → VK → Prop := fun x lo hi H Q => rSlL K x lo hi H Q ∨ rSlA K x lo hi H Q ∨ rSlS x lo hi H Q
theorem sl_3 : SlR X (rSl3 X.K) := SlR.or sl_list (SlR.or sl_tupA sl_str)
theorem reps_cut {G : Gx} {ρ : List Addr} {H : Hp} {xs : List PV} {vs : List V} {lo hi : Option Int} (r : Reps G ρ H xs vs) : Reps G ρ H (cutP xs lo hi) (cutV vs lo hi) := by
  unfold cutP cutV
  rw [r.length]
  exact (r.drop _).take _
theorem cutV_whole {xs : List V} {lo hi : Option Int} (h1 : HT.sIx xs.length 0 lo = 0) (h2 : HT.sIx xs.length xs.length hi = xs.length) : cutV xs lo hi = xs := by
  unfold cutV
  rw [h1, h2]
  simp
theorem ev_sl {lo hi : Option Expr} {ml mh : OM} (ha : Ev X fa a ma) (hl : EvO X lo ml) (hh : EvO X hi mh) : Ev X false (.Subscript a (.Slice lo hi none p2) pos) (eSl ma ml mh) :=
  PE.anti (pe_slice sl_3 ha hl hh) fun σ H Q ⟨hid, ρ, env, st, R, P⟩ => cE_use R P fun ρ1 st1 H1 x v l1 R1 rx _ P1 => cO_use R1 P1 fun ρ2 st2 H2 lo l2 R2 P2 => cO_use R2 P2 fun ρ3 st3 H3 hi l3 R3 P3 => by
    have S := R3.s
    have rx := Rep.later (l2.trans l3) _ _ rx
    unfold vSl at P3
    split at P3
    · rename_i xs e
      obtain ⟨a, vs, rfl, ha, r⟩ := rep_lst S rx e
      exact .inl ⟨a, vs, rfl, SqL.of ha, fun p hp => P3.give S hp (((l1.trans l2).trans l3).back hp) (new_lst S (reps_cut r) hp)⟩
    · rename_i xs e
      obtain ⟨a, vs, rfl, ha, r⟩ := rep_tup S rx e
      refine .inr (.inl ⟨a, vs, rfl, ha, fun hw => ?_, fun hw p hp => ?_⟩)
      · refine P3.val S ⟨a, vs, rfl, ha, ?_⟩ (fun z => nomatch z)
        have := reps_cut (lo := lo) (hi := hi) r
        rw [cutV_whole hw.1 hw.2] at this
        exact this
      · exact P3.give S hp (((l1.trans l2).trans l3).back hp) (new_tup (reps_cut r) hp)
    · rename_i z e
      obtain rfl := rep_str S rx e
      split at P3
      · rename_i hz
        exact .inr (.inr ⟨z, rfl, sz _ hz, P3.val S rfl (fun z => nomatch z)⟩)
      · exact False.elim P3
    · exact False.elim P3

/-! ## d.get(k, x) -/
def vGet (d k x : PV) (st : VSt) : Res PV := match deref st d with
  | .dct ks xs => match keyP k with
    | some k => .ok ((kLook ks xs k).getD x) st
    | none => .bad
  | _ => .bad
def isDct (st : VSt) (p : PV) : Bool := match deref st p with
  | .dct _ _ => true
  | _ => false
def eGet (d k x : EM) : EM := fun env st => (d env st).bind fun d s1 => if isDct s1 d = true then (k env s1).bind fun k s2 => (x env s2).bind fun x s3 => vGet d k x s3 else .bad
theorem ev_get {d k x : Expr} {md mk mx : EM} {fd fk fx : Bool} {apos cpos : Pos} (hu : X.A.units + 64 < cLine) (hd : Ev X fd d md) (hk : Ev X fk k mk) (hx : Ev X fx x mx) (m : M2 X d "get" apos k x cpos := by exact ⟨rfl, rfl, rfl, rfl⟩) :
    Ev X false (.Call (.Attribute d "get" apos) [k, x] [] cpos) (eGet md mk mx) :=
  PE.anti (pe_dget2 (by omega) hd hk hx m) fun σ H Q ⟨hid, ρ, env, st, R, P⟩ => cE_use R P fun ρ1 st1 H1 d v l1 R1 rd _ P1 => by
    split at P1
    · rename_i hz
      have hd1 : ∃ ks xs, deref st1 d = .dct ks xs := by
        unfold isDct at hz
        split at hz
        · rename_i ks xs e; exact ⟨ks, xs, e⟩
        · cases hz
      obtain ⟨ks, xs, e1⟩ := hd1
      obtain ⟨a, vs, rfl, l, ha, r⟩ := rep_dct R1.s rd e1
      refine ⟨a, rfl, .inl ⟨_, .inl ha⟩, cE_use R1 P1 fun ρ2 st2 H2 k w l2 R2 rk _ P2 => cE_use R2 P2 fun ρ3 st3 H3 x u l3 R3 rx _ P3 => ?_⟩
      have S := R3.s
      have rd := Rep.later (l2.trans l3) _ _ rd
      have rk := Rep.later l3 _ _ rk
      unfold vGet at P3
      split at P3
      · rename_i ks xs e
        split at P3
        · rename_i kk ek
          obtain ⟨a', vs, ea, l, ha, r⟩ := rep_dct S rd e
          cases ea
          have h := kLook_rep (k := kk) l r
          refine ⟨_, by rw [rep_key rk ek]; exact DGet.k ha, ?_⟩
          cases e1 : kLook ks xs kk with
          | none =>
            rw [e1] at P3 h
            cases e2 : valV (ks.zip vs) kk with
            | some v' => rw [e2] at h; exact False.elim h
            | none => exact P3.val S rx (fun z => nomatch z)
          | some p =>
            rw [e1] at P3 h
            cases e2 : valV (ks.zip vs) kk with
            | none => rw [e2] at h; exact False.elim h
            | some v' =>
              rw [e2] at h
              exact P3.val S h (fun z => nomatch z)
        · exact False.elim P3
      · exact False.elim P3
    · exact False.elim P1
end

/-! ## hidden objects -/
def Gx.hide (G : Gx) (d : Addr) : Gx := { G with hid := d :: G.hid }
mutual
theorem rep_hide {G : Gx} {ρ : List Addr} {H : Hp} {d : Addr} {o : HO} (hd : H d = none) : ∀ (p : PV) (v : V), Rep G ρ H p v → Rep (G.hide d) ρ (upd H d o) p v
  | .non, v, h => h
  | .bl b, v, h => h
  | .int i, v, h => h
  | .str x, v, h => h
  | .tup xs, v, h => by
    obtain ⟨a, vs, e, s, r⟩ := h
    exact ⟨a, vs, e, sqT_later (Later.new (ρ := ρ) hd) s, reps_hide hd xs vs r⟩
  | .lst xs, v, h => by
    obtain ⟨a, vs, e, n, n2, s, r⟩ := h
    have ne := ne_of_none s hd
    exact ⟨a, vs, e, n, fun z => (List.mem_cons.mp z).elim ne n2, by rw [upd_ne ne]; exact s, reps_hide hd xs vs r⟩
  | .dct ks xs, v, h => by
    obtain ⟨a, vs, e, n, n2, z, s, r⟩ := h
    have ne := ne_of_none s hd
    exact ⟨a, vs, e, n, fun z => (List.mem_cons.mp z).elim ne n2, z, by rw [upd_ne ne]; exact s, reps_hide hd xs vs r⟩
  | .sset xs, v, h => by
    obtain ⟨a, e, n, n2, s⟩ := h
    have ne := ne_of_none s hd
    exact ⟨a, e, n, fun z => (List.mem_cons.mp z).elim ne n2, by rw [upd_ne ne]; exact s⟩
  | .scr ns, v, h => by
    obtain ⟨a, e, s⟩ := h
    refine ⟨a, e, ?_⟩
    rcases s with ⟨h, n, n2⟩ | h
    · have ne : a ≠ d := by rcases h with h | ⟨u, h⟩ <;> exact ne_of_none h hd
      exact .inl ⟨(rd_later (Later.new (ρ := ρ) hd) h n).1, n, fun z => (List.mem_cons.mp z).elim ne n2⟩
    · exact .inr h
  | .loc n, v, h => h
theorem reps_hide {G : Gx} {ρ : List Addr} {H : Hp} {d : Addr} {o : HO} (hd : H d = none) : ∀ (ps : List PV) (vs : List V), Reps G ρ H ps vs → Reps (G.hide d) ρ (upd H d o) ps vs
  | [], vs, h => h
  | p :: ps, vs, h => by
    obtain ⟨v, r, e, h1, h2⟩ := h
    exact ⟨v, r, e, rep_hide hd p v h1, reps_hide hd ps r h2⟩
end
mutual
theorem rep_show {G : Gx} {ρ : List Addr} {H : Hp} {d : Addr} : ∀ (p : PV) (v : V), Rep (G.hide d) ρ H p v → Rep G ρ H p v
  | .non, v, h => h
  | .bl b, v, h => h
  | .int i, v, h => h
  | .str x, v, h => h
  | .tup xs, v, h => by
    obtain ⟨a, vs, e, s, r⟩ := h
    exact ⟨a, vs, e, s, reps_show xs vs r⟩
  | .lst xs, v, h => by
    obtain ⟨a, vs, e, n, n2, s, r⟩ := h
    exact ⟨a, vs, e, n, fun z => n2 (List.mem_cons_of_mem _ z), s, reps_show xs vs r⟩
  | .dct ks xs, v, h => by
    obtain ⟨a, vs, e, n, n2, z, s, r⟩ := h
    exact ⟨a, vs, e, n, fun z => n2 (List.mem_cons_of_mem _ z), z, s, reps_show xs vs r⟩
  | .sset xs, v, h => by
    obtain ⟨a, e, n, n2, s⟩ := h
    exact ⟨a, e, n, fun z => n2 (List.mem_cons_of_mem _ z), s⟩
  | .scr ns, v, h => by
    obtain ⟨a, e, s⟩ := h
    refine ⟨a, e, ?_⟩
    rcases s with ⟨h, n, n2⟩ | h
    · exact .inl ⟨h, n, fun z => n2 (List.mem_cons_of_mem _ z)⟩
    · exact .inr h
  | .loc n, v, h => h
theorem reps_show {G : Gx} {ρ : List Addr} {H : Hp} {d : Addr} : ∀ (ps : List PV) (vs : List V), Reps (G.hide d) ρ H ps vs → Reps G ρ H ps vs
  | [], vs, h => h
  | p :: ps, vs, h => by
    obtain ⟨v, r, e, h1, h2⟩ := h
    exact ⟨v, r, e, rep_show p v h1, reps_show ps r h2⟩
end
theorem objR_hide {G : Gx} {ρ : List Addr} {H : Hp} {d : Addr} {o : HO} (hd : H d = none) {p : PV} {a : Addr} (h : ObjR G ρ H p a) : ObjR (G.hide d) ρ (upd H d o) p a := by
  obtain ⟨u, e⟩ := h.some
  have ne := ne_of_none e hd
  cases p with
  | lst xs => obtain ⟨vs, h, r⟩ := h; exact ⟨vs, by rw [upd_ne ne]; exact h, reps_hide hd _ _ r⟩
  | dct ks xs => obtain ⟨vs, z, h, r⟩ := h; exact ⟨vs, z, by rw [upd_ne ne]; exact h, reps_hide hd _ _ r⟩
  | sset xs => exact (upd_ne ne).trans h
  | _ => exact h.elim
theorem objR_show {G : Gx} {ρ : List Addr} {H : Hp} {d : Addr} {p : PV} {a : Addr} (h : ObjR (G.hide d) ρ H p a) : ObjR G ρ H p a := by
  cases p with
  | lst xs => obtain ⟨vs, h, r⟩ := h; exact ⟨vs, h, reps_show _ _ r⟩
  | dct ks xs => obtain ⟨vs, z, h, r⟩ := h; exact ⟨vs, z, h, reps_show _ _ r⟩
  | sset xs => exact h
  | _ => exact h.elim
theorem srel_hide {G : Gx} {ρ : List Addr} {st : VSt} {H : Hp} {d : Addr} {o : HO} (hd : H d = none) (s : SRel G ρ st H) : SRel (G.hide d) ρ st (upd H d o) :=
  ⟨s.nd, s.len, fun n p a e1 e2 => ⟨objR_hide hd (s.obj n p a e1 e2).1, (s.obj n p a e1 e2).2⟩, fun b hb => by
    rcases List.mem_cons.mp hb with rfl | hb
    · exact ⟨s.fresh hd, o, upd_same⟩
    · obtain ⟨h1, u, e⟩ := s.hid b hb
      exact ⟨h1, u, by rw [upd_ne (ne_of_none e hd)]; exact e⟩⟩
theorem srel_show {G : Gx} {ρ : List Addr} {st : VSt} {H : Hp} {d : Addr} (s : SRel (G.hide d) ρ st H) : SRel G ρ st H :=
  ⟨s.nd, s.len, fun n p a e1 e2 => ⟨objR_show (s.obj n p a e1 e2).1, (s.obj n p a e1 e2).2⟩, fun b hb => s.hid b (List.mem_cons_of_mem _ hb)⟩
theorem envR_hide {G : Gx} {ρ : List Addr} {H : Hp} {env : VEnv} {σ : L2.St} {d : Addr} {o : HO} (hd : H d = none) (h : EnvR G ρ H env σ) : EnvR (G.hide d) ρ (upd H d o) env σ :=
  ⟨h.1, fun i p e => by obtain ⟨v, a, b⟩ := h.2 i p e; exact ⟨v, a, rep_hide hd p v b⟩⟩

mutual
theorem rep_wr {G : Gx} {ρ : List Addr} {H : Hp} {d : Addr} {o : HO} (hd : d ∈ ρ ∨ d ∈ G.hid) (mu : Mut (H d)) : ∀ (p : PV) (v : V), Rep G ρ H p v → Rep G ρ (upd H d o) p v
  | .non, v, h => h
  | .bl b, v, h => h
  | .int i, v, h => h
  | .str x, v, h => h
  | .tup xs, v, h => by
    obtain ⟨a, vs, e, s, r⟩ := h
    refine ⟨a, vs, e, ?_, reps_wr hd mu xs vs r⟩
    rcases s with (h | ⟨u, h⟩) | h
    · exact .inl (.inl (by rw [upd_ne (fun e => by rw [← e, h] at mu; exact mu)]; exact h))
    · exact .inl (.inr ⟨u, by rw [upd_ne (fun e => by rw [← e, h] at mu; exact mu)]; exact h⟩)
    · exact .inr h
  | .lst xs, v, h => by
    obtain ⟨a, vs, e, n, n2, s, r⟩ := h
    have ne : a ≠ d := fun e => by subst e; exact hd.elim n n2
    exact ⟨a, vs, e, n, n2, by rw [upd_ne ne]; exact s, reps_wr hd mu xs vs r⟩
  | .dct ks xs, v, h => by
    obtain ⟨a, vs, e, n, n2, z, s, r⟩ := h
    have ne : a ≠ d := fun e => by subst e; exact hd.elim n n2
    exact ⟨a, vs, e, n, n2, z, by rw [upd_ne ne]; exact s, reps_wr hd mu xs vs r⟩
  | .sset xs, v, h => by
    obtain ⟨a, e, n, n2, s⟩ := h
    have ne : a ≠ d := fun e => by subst e; exact hd.elim n n2
    exact ⟨a, e, n, n2, by rw [upd_ne ne]; exact s⟩
  | .scr ns, v, h => by
    obtain ⟨a, e, s⟩ := h
    refine ⟨a, e, ?_⟩
    rcases s with ⟨h, n, n2⟩ | h
    · have ne : a ≠ d := fun e => by subst e; exact hd.elim n n2
      refine .inl ⟨?_, n, n2⟩
      rcases h with h | ⟨u, h⟩
      · exact .inl (by rw [upd_ne ne]; exact h)
      · exact .inr ⟨u, by rw [upd_ne ne]; exact h⟩
    · exact .inr h
  | .loc n, v, h => h
theorem reps_wr {G : Gx} {ρ : List Addr} {H : Hp} {d : Addr} {o : HO} (hd : d ∈ ρ ∨ d ∈ G.hid) (mu : Mut (H d)) : ∀ (ps : List PV) (vs : List V), Reps G ρ H ps vs → Reps G ρ (upd H d o) ps vs
  | [], vs, h => h
  | p :: ps, vs, h => by
    obtain ⟨v, r, e, h1, h2⟩ := h
    exact ⟨v, r, e, rep_wr hd mu p v h1, reps_wr hd mu ps r h2⟩
end
theorem nodup_ix' {N : List Addr} (hN : N.Nodup) {i j : Nat} {x : Addr} (a : N[i]? = some x) (b : N[j]? = some x) : i = j := by
  obtain ⟨h1, e1⟩ := List.getElem?_eq_some_iff.mp a
  obtain ⟨h2, e2⟩ := List.getElem?_eq_some_iff.mp b
  exact (List.getElem_inj hN).mp (e1.trans e2.symm)
theorem objR_wr {G : Gx} {ρ : List Addr} {H : Hp} {d : Addr} {o : HO} (hd : d ∈ ρ ∨ d ∈ G.hid) (mu : Mut (H d)) {p : PV} {a : Addr} (ne : a ≠ d) (h : ObjR G ρ H p a) : ObjR G ρ (upd H d o) p a := by
  cases p with
  | lst xs => obtain ⟨vs, h, r⟩ := h; exact ⟨vs, by rw [upd_ne ne]; exact h, reps_wr hd mu _ _ r⟩
  | dct ks xs => obtain ⟨vs, z, h, r⟩ := h; exact ⟨vs, z, by rw [upd_ne ne]; exact h, reps_wr hd mu _ _ r⟩
  | sset xs => exact (upd_ne ne).trans h
  | _ => exact h.elim
/-- the hidden object changes -/
theorem srel_hwr {G : Gx} {ρ : List Addr} {st : VSt} {H : Hp} {d : Addr} {o : HO} (hd : d ∈ G.hid) (mu : Mut (H d)) (s : SRel G ρ st H) : SRel G ρ st (upd H d o) :=
  ⟨s.nd, s.len, fun n p a e1 e2 => ⟨objR_wr (.inr hd) mu (fun e => (s.hid d hd).1 (by rw [← e]; exact List.mem_of_getElem? e2)) (s.obj n p a e1 e2).1, (s.obj n p a e1 e2).2⟩, fun b hb => by
    obtain ⟨h1, u, e⟩ := s.hid b hb
    refine ⟨h1, ?_⟩
    by_cases hbd : b = d
    · subst hbd; exact ⟨o, upd_same⟩
    · exact ⟨u, by rw [upd_ne hbd]; exact e⟩⟩
theorem envR_wr {G : Gx} {ρ : List Addr} {H : Hp} {env : VEnv} {σ : L2.St} {d : Addr} {o : HO} (hd : d ∈ ρ ∨ d ∈ G.hid) (mu : Mut (H d)) (h : EnvR G ρ H env σ) : EnvR G ρ (upd H d o) env σ :=
  ⟨h.1, fun i p e => by obtain ⟨v, a, b⟩ := h.2 i p e; exact ⟨v, a, rep_wr hd mu p v b⟩⟩
/-- a boxed object changes -/
theorem srel_wr {G : Gx} {ρ : List Addr} {st : VSt} {H : Hp} {n : Nat} {d : Addr} {o : HO} {q : PV} (hn : ρ[n]? = some d) (mu : Mut (H d)) (s : SRel G ρ st H) (new : ObjR G ρ (upd H d o) q d) (nl : noLoc q = true) : SRel G ρ (st.set n q) (upd H d o) := by
  have hd : d ∈ ρ := List.mem_of_getElem? hn
  have hlt : n < st.length := by rw [← s.len]; exact (List.getElem?_eq_some_iff.mp hn).1
  refine ⟨s.nd, by rw [List.length_set]; exact s.len, fun m p a e1 e2 => ?_, fun b hb => ?_⟩
  · by_cases hm : n = m
    · subst hm
      rw [List.getElem?_set_self hlt] at e1
      cases e1
      rw [hn] at e2
      cases e2
      exact ⟨new, nl⟩
    · rw [List.getElem?_set_ne hm] at e1
      have ne : a ≠ d := fun e => by
        subst e
        exact hm (nodup_ix' s.nd hn e2)
      exact ⟨objR_wr (.inl hd) mu ne (s.obj m p a e1 e2).1, (s.obj m p a e1 e2).2⟩
  · obtain ⟨h1, u, e⟩ := s.hid b hb
    refine ⟨h1, u, ?_⟩
    rw [upd_ne (fun e' => h1 (by rw [e']; exact hd))]
    exact e
theorem Later.wr {ρ : List Addr} {H : Hp} {d : Addr} {o : HO} (hd : d ∈ ρ) (mu : Mut (H d)) : Later ρ H ρ (upd H d o) where
  ext := ⟨[], by simp, by simp⟩
  keep := fun a u e n => by rw [upd_ne (fun z => n (by rw [z]; exact hd))]; exact e
  dom := fun a u e => by
    by_cases h : a = d
    · subst h; exact ⟨o, upd_same⟩
    · exact ⟨u, by rw [upd_ne h]; exact e⟩
  tup := fun a xs e => by rw [upd_ne (fun z => by rw [← z, e] at mu; exact mu)]; exact e
  frz := fun a u z e => by rw [upd_ne (fun z => by rw [← z, e] at mu; exact mu)]; exact e
end Vm

namespace Vm
open PySem PySem.Spec L2

/-! ## scalars and tuples of them do not lean on what is boxed -/
mutual
theorem rep_pure {G G' : Gx} (hK : G.K = G'.K) {ρ ρ' : List Addr} {H : Hp} : ∀ (p : PV) (v : V), pureP p = true → Rep G ρ H p v → Rep G' ρ' H p v
  | .non, v, _, h => h
  | .bl b, v, _, h => h
  | .int i, v, _, h => h
  | .str x, v, _, h => h
  | .tup xs, v, f, h => by
    obtain ⟨a, vs, e, s, r⟩ := h
    exact ⟨a, vs, e, by rw [← hK]; exact s, reps_pure hK xs vs f r⟩
  | .lst _, _, f, _ => by cases f
  | .dct _ _, _, f, _ => by cases f
  | .sset _, _, f, _ => by cases f
  | .scr _, _, f, _ => by cases f
  | .loc _, _, f, _ => by cases f
theorem reps_pure {G G' : Gx} (hK : G.K = G'.K) {ρ ρ' : List Addr} {H : Hp} : ∀ (ps : List PV) (vs : List V), pures ps = true → Reps G ρ H ps vs → Reps G' ρ' H ps vs
  | [], vs, _, h => h
  | p :: ps, vs, f, h => by
    obtain ⟨v, r, e, h1, h2⟩ := h
    unfold pures at f
    rw [Bool.and_eq_true] at f
    exact ⟨v, r, e, rep_pure hK p v f.1 h1, reps_pure hK ps r f.2 h2⟩
end
theorem objR_pure {G : Gx} {ρ ρ' : List Addr} {H : Hp} {p : PV} {a : Addr} (f : noLoc p = true) (h : ObjR G ρ H p a) : ObjR G ρ' H p a := by
  cases p with
  | lst xs => obtain ⟨vs, h, r⟩ := h; exact ⟨vs, h, reps_pure rfl _ _ f r⟩
  | dct ks xs => obtain ⟨vs, z, h, r⟩ := h; exact ⟨vs, z, h, reps_pure rfl _ _ f r⟩
  | sset xs => exact h
  | _ => exact h.elim
/-- a boxed object as a value -/
theorem objR_rep {G : Gx} {ρ ρ' : List Addr} {H : Hp} {p : PV} {a : Addr} (f : noLoc p = true) (h : ObjR G ρ H p a) (n : a ∉ ρ') (n2 : a ∉ G.hid) : Rep G ρ' H p (.ref a) := by
  cases p with
  | lst xs => obtain ⟨vs, h, r⟩ := h; exact ⟨a, vs, rfl, n, n2, h, reps_pure rfl _ _ f r⟩
  | dct ks xs => obtain ⟨vs, z, h, r⟩ := h; exact ⟨a, vs, rfl, n, n2, z, h, reps_pure rfl _ _ f r⟩
  | sset xs => exact ⟨a, rfl, n, n2, h⟩
  | _ => exact h.elim
theorem rep_objR {G : Gx} {ρ ρ' : List Addr} {H : Hp} {p : PV} {v : V} (f : noLoc p = true) (h : Rep G ρ H p v) : ∃ a, v = .ref a ∧ a ∉ ρ ∧ a ∉ G.hid ∧ ObjR G ρ' H p a := by
  cases p with
  | lst xs => obtain ⟨a, vs, e, n, n2, h, r⟩ := h; exact ⟨a, e, n, n2, vs, h, reps_pure rfl _ _ f r⟩
  | dct ks xs => obtain ⟨a, vs, e, n, n2, z, h, r⟩ := h; exact ⟨a, e, n, n2, vs, z, h, reps_pure rfl _ _ f r⟩
  | sset xs => obtain ⟨a, e, n, n2, h⟩ := h; exact ⟨a, e, n, n2, h⟩
  | _ => cases f

/-! ## boxing -/
def boxV (p : PV) (st : VSt) : Res PV := if noLoc p = true then .ok (.loc st.length) (st ++ [p]) else .bad
def eBox (m : EM) : EM := fun env st => (m env st).bind boxV
theorem srel_box {G : Gx} {ρ : List Addr} {st : VSt} {H : Hp} {p : PV} {a : Addr} (s : SRel G ρ st H) (f : noLoc p = true) (n : a ∉ ρ) (n2 : a ∉ G.hid) (o : ObjR G ρ H p a) : SRel G (ρ ++ [a]) (st ++ [p]) H := by
  refine ⟨?_, by rw [List.length_append, List.length_append, s.len]; rfl, fun i q b e1 e2 => ?_, fun d hd => ?_⟩
  · rw [List.nodup_append]
    exact ⟨s.nd, by simp, fun x hx y hy => by rw [List.mem_singleton] at hy; subst hy; intro e; subst e; exact n hx⟩
  · by_cases hi : i < st.length
    · rw [List.getElem?_append_left hi] at e1
      rw [List.getElem?_append_left (by rw [s.len]; exact hi)] at e2
      obtain ⟨h1, h2⟩ := s.obj i q b e1 e2
      exact ⟨objR_pure h2 h1, h2⟩
    · rw [List.getElem?_append_right (by omega)] at e1
      rw [List.getElem?_append_right (by rw [s.len]; omega), s.len] at e2
      have : i - st.length = 0 := by
        have := (List.getElem?_eq_some_iff.mp e1).1
        simp at this
        omega
      rw [this] at e1 e2
      simp at e1 e2
      subst e1 e2
      exact ⟨objR_pure f o, f⟩
  · obtain ⟨h1, u, e⟩ := s.hid d hd
    refine ⟨fun z => ?_, u, e⟩
    rcases List.mem_append.mp z with z | z
    · exact h1 z
    · rw [List.mem_singleton] at z; subst z; exact n2 hd
section
variable {X : Cx} {fr : Bool} {e : Expr} {m : EM}
theorem box_rd {σ : L2.St} {H : Hp} {Q : VK} (h : cE X false (eBox m) σ H Q) : cE X true m σ H Q := by
  obtain ⟨hid, ρ, env, st, R, P⟩ := h
  refine ⟨hid, ρ, env, st, R, ?_⟩
  unfold eBox at P
  cases e : m env st with
  | bad => rw [e] at P; exact P
  | ok p st1 =>
    rw [e] at P
    intro ρ1 H1 l s v rp f
    replace P : Post (gx X hid) ρ H (boxV p st1) (kE (gx X hid) H false Q) := P
    unfold boxV at P
    split at P
    · rename_i hz
      obtain ⟨a, rfl, n, n2, o⟩ := rep_objR (ρ' := ρ1) hz rp
      have ha := f rfl a rfl
      obtain ⟨δ, rfl, hδ⟩ := l.ext
      refine P (ρ ++ δ ++ [a]) H1 ⟨⟨δ ++ [a], by rw [List.append_assoc], fun q hq => ?_⟩, l.keep, l.dom, l.tup, l.frz⟩ (srel_box s hz n n2 o) (.ref a) ⟨a, rfl, ?_⟩ (fun z => nomatch z)
      · rcases List.mem_append.mp hq with z | z
        · exact hδ q z
        · rw [List.mem_singleton] at z; rw [z]; exact ha
      · rw [← s.len, List.getElem?_append_right (Nat.le_refl _)]
        simp
    · exact False.elim P
theorem ev_box (h : Ev X true e m) : Ev X false e (eBox m) := PE.anti h fun σ H Q => box_rd
end

/-! ## statements -/
inductive SR where
  | nx (env : VEnv) (st : VSt)
  | rt (p : PV) (st : VSt)
  | bk (env : VEnv) (st : VSt)
  | ct (env : VEnv) (st : VSt)
  | bad
abbrev SM := VEnv → VSt → SR
def SR.bind (r : SR) (k : SM) (_ : Fx k := ⟨⟩) : SR := match r with
  | .nx e s => k e s
  | .rt p s => .rt p s
  | .bk e s => .bk e s
  | .ct e s => .ct e s
  | .bad => .bad
def Res.s {α : Type} (r : Res α) (k : α → VSt → SR) (_ : Fx k := ⟨⟩) : SR := match r with
  | .ok a st => k a st
  | .bad => .bad
def PostS (G : Gx) (ρ : List Addr) (H : Hp) (fr : Bool) (r : SR) (D : Ends) : Prop := match r with
  | .nx env' st' => ∀ ρ' H' σ', Later ρ H ρ' H' → Rel G ρ' env' st' σ' H' → D.nx σ' H'
  | .bk env' st' => ∀ ρ' H' σ', Later ρ H ρ' H' → Rel G ρ' env' st' σ' H' → D.bk σ' H'
  | .ct env' st' => ∀ ρ' H' σ', Later ρ H ρ' H' → Rel G ρ' env' st' σ' H' → D.ct σ' H'
  | .rt p st' => ∀ ρ' H' v, Later ρ H ρ' H' → SRel G ρ' st' H' → Rep G ρ' H' p v → (fr = true → (∃ n, p = .loc n) ∨ ∀ a, v = .ref a → H a = none) → D.rt v H'
  | .bad => False
theorem PostS.move {G : Gx} {ρ ρ1 : List Addr} {H H1 : Hp} {fr : Bool} {r : SR} {D : Ends} (l : Later ρ H ρ1 H1) (h : PostS G ρ H fr r D) : PostS G ρ1 H1 fr r D := by
  cases r with
  | nx e s => exact fun ρ' H' σ' l' R => h ρ' H' σ' (l.trans l') R
  | bk e s => exact fun ρ' H' σ' l' R => h ρ' H' σ' (l.trans l') R
  | ct e s => exact fun ρ' H' σ' l' R => h ρ' H' σ' (l.trans l') R
  | rt p s => exact fun ρ' H' v l' S rp f => h ρ' H' v (l.trans l') S rp fun z => (f z).imp id fun g a ha => l.back (g a ha)
  | bad => exact h
def cS (X : Cx) (fr : Bool) (m : SM) : TS := fun D σ H => ∃ hid ρ env st, Rel (gx X hid) ρ env st σ H ∧ PostS (gx X hid) ρ H fr (m env st) D
def EvS (X : Cx) (fr : Bool) (st : Stmt) (m : SM) : Prop := PS X st (cS X fr m)
def EvSs (X : Cx) (fr : Bool) (st : List Stmt) (m : SM) : Prop := PSs X st (cS X fr m)
theorem PS.anti {X : Cx} {e : Stmt} {t u : TS} (h : PS X e t) (k : ∀ D σ H, u D σ H → t D σ H) : PS X e u := ⟨fun pins s σ H D I w => h.run pins s σ H D I (k D σ H w)⟩
theorem PSs.anti {X : Cx} {e : List Stmt} {t u : TS} (h : PSs X e t) (k : ∀ D σ H, u D σ H → t D σ H) : PSs X e u := ⟨fun pins s σ H D I w => h.run pins s σ H D I (k D σ H w)⟩
section
variable {X : Cx} {hid ρ : List Addr} {env : VEnv} {st : VSt} {σ : L2.St} {H : Hp} {fr : Bool} {D : Ends}
theorem PostS.ofRes {α : Type} {G : Gx} {r : Res α} {k : α → VSt → SR} (P : PostS G ρ H fr (r.s k) D) : Post G ρ H r (fun ρ1 st1 H1 a => PostS G ρ1 H1 fr (k a st1) D) := by
  cases r with
  | bad => exact P
  | ok a st' => exact fun ρ1 H1 l s => PostS.move l P
theorem sE_use {f : Bool} {m : EM} {k : PV → VSt → SR} {Q : VK} (R : Rel (gx X hid) ρ env st σ H) (P : PostS (gx X hid) ρ H fr ((m env st).s k) D)
    (q : ∀ ρ1 st1 H1 p v, Later ρ H ρ1 H1 → Rel (gx X hid) ρ1 env st1 σ H1 → Rep (gx X hid) ρ1 H1 p v → (f = true → ∀ a, v = .ref a → H a = none) → PostS (gx X hid) ρ1 H1 fr (k p st1) D → Q v H1) : cE X f m σ H Q :=
  ⟨hid, ρ, env, st, R, P.ofRes.imp fun ρ1 st1 H1 p l s kk v rp f => q ρ1 st1 H1 p v l (R.later l s) rp f kk⟩
def onBS (k : Bool → VSt → SR) : PV → VSt → SR := fun p st => match p with
  | .bl b => k b st
  | _ => .bad
theorem sT_use {m : EM} {k : Bool → VSt → SR} {Q : Bool → Hp → Prop} (R : Rel (gx X hid) ρ env st σ H) (P : PostS (gx X hid) ρ H fr ((m env st).s (onBS k)) D)
    (q : ∀ ρ1 st1 H1 b, Later ρ H ρ1 H1 → Rel (gx X hid) ρ1 env st1 σ H1 → PostS (gx X hid) ρ1 H1 fr (k b st1) D → Q b H1) : cT X m σ H Q :=
  ⟨hid, ρ, env, st, R, P.ofRes.imp fun ρ1 st1 H1 p l s kk => by
    cases p with
    | bl b => exact q ρ1 st1 H1 b l (R.later l s) kk
    | _ => exact False.elim kk⟩
theorem PostS.seq {G : Gx} {r : SR} {k : SM} {N : L2.St → Hp → Prop} (P : PostS G ρ H fr (r.bind k) D)
    (q : ∀ ρ1 env1 st1 σ1 H1, Later ρ H ρ1 H1 → Rel G ρ1 env1 st1 σ1 H1 → PostS G ρ1 H1 fr (k env1 st1) D → N σ1 H1) : PostS G ρ H fr r { D with nx := N } := by
  cases r with
  | nx e s => exact fun ρ1 H1 σ1 l R => q ρ1 e s σ1 H1 l R (PostS.move l P)
  | bk e s => exact P
  | ct e s => exact P
  | rt p s => exact P
  | bad => exact P
end
def sNil : SM := fun env st => .nx env st
def sCons (a b : SM) : SM := fun env st => (a env st).bind b
def sSet (i : Nat) (a : EM) : SM := fun env st => (a env st).s fun p s1 => .nx (env.set i (some p)) s1
def sExpr (a : EM) : SM := fun env st => (a env st).s fun _ s1 => .nx env s1
def sRet (a : EM) : SM := fun env st => (a env st).s fun p s1 => .rt p s1
def sIf (c : EM) (a b : SM) : SM := fun env st => (c env st).s (onBS fun c s1 => if c = true then a env s1 else b env s1)
def sBreak : SM := fun env st => .bk env st
def sCont : SM := fun env st => .ct env st
section
variable {X : Cx} {fr f : Bool} {st : Stmt} {rest sa sb : List Stmt} {e c : Expr} {m me mc : EM} {ms mr a b : SM} {pos : Pos}
theorem evss_nil : EvSs X fr [] sNil := PSs.anti pss_nil fun D σ H ⟨hid, ρ, env, st, R, P⟩ => P ρ H σ (Later.refl _ _) R
theorem evss_cons (h1 : EvS X fr st ms) (h2 : EvSs X fr rest mr) : EvSs X fr (st :: rest) (sCons ms mr) :=
  PSs.anti (pss_cons h1 h2) fun D σ H ⟨hid, ρ, env, st, R, P⟩ => ⟨hid, ρ, env, st, R, P.seq fun ρ1 env1 st1 σ1 H1 l R1 P1 => ⟨hid, ρ1, env1, st1, R1, P1⟩⟩
theorem evs_pass : EvS X fr (.Pass pos) sNil := PS.anti ps_pass fun D σ H ⟨hid, ρ, env, st, R, P⟩ => P ρ H σ (Later.refl _ _) R
theorem evs_doc {x j pos'} : EvS X fr (.Expr (.Constant (.str x) j pos) pos') sNil := PS.anti ps_doc fun D σ H ⟨hid, ρ, env, st, R, P⟩ => P ρ H σ (Later.refl _ _) R
theorem evs_break : EvS X fr (.Break pos) sBreak := PS.anti ps_break fun D σ H ⟨hid, ρ, env, st, R, P⟩ => P ρ H σ (Later.refl _ _) R
theorem evs_cont : EvS X fr (.Continue pos) sCont := PS.anti ps_continue fun D σ H ⟨hid, ρ, env, st, R, P⟩ => P ρ H σ (Later.refl _ _) R
theorem evs_set {i : Nat} {x : Str} {pos' : Pos} (nd : X.N.Nodup) (he : Ev X f e me) (hx : Loc X.env.scope x := by first | exact Or.inl rfl | exact Or.inr rfl) (hi : X.N[i]? = some x := by rfl) (hs : swapsWith e (some (.Name x pos')) pos.line X.env = pure false := by rfl)
    (hf : X.fn x = true ∨ X.env.scope.names.lookup x = some .local := by first | exact .inl rfl | exact .inr rfl | assumption) : EvS X fr (.Assign [.Name x pos'] e pos) (sSet i me) :=
  PS.anti (ps_set nd hi hx he hs hf) fun D σ H ⟨hid, ρ, env, st, R, P⟩ => sE_use R P fun ρ1 st1 H1 p v l R1 rp _ P1 => P1 ρ1 H1 _ (Later.refl _ _) ⟨R1.s, R1.e.set rp i⟩
theorem evs_expr (he : Ev X f e me) (hs : swapsWith e none pos.line X.env = pure false := by rfl) : EvS X fr (.Expr e pos) (sExpr me) :=
  PS.anti (ps_expr he hs) fun D σ H ⟨hid, ρ, env, st, R, P⟩ => sE_use R P fun ρ1 st1 H1 p v l R1 rp _ P1 => P1 ρ1 H1 _ (Later.refl _ _) R1
theorem evs_ret (he : Ev X fr e me) : EvS X fr (.Return (some e) pos) (sRet me) :=
  PS.anti (ps_ret he) fun D σ H ⟨hid, ρ, env, st, R, P⟩ => ⟨hid, ρ, env, st, R, by
    unfold sRet at P
    cases e : me env st with
    | bad => rw [e] at P; exact P
    | ok q s =>
      rw [e] at P
      exact fun ρ1 H1 l S v rp f => P ρ1 H1 v l S rp fun z => .inr (f z)⟩
/-- a boxed list (dict, set) is handed back -/
def sRetB (a : EM) : SM := fun env st => (a env st).s fun p s1 => match p with
  | .loc n => .rt (.loc n) s1
  | _ => .bad
theorem evs_retB (he : Ev X f e me) : EvS X fr (.Return (some e) pos) (sRetB me) :=
  PS.anti (ps_ret he) fun D σ H ⟨hid, ρ, env, st, R, P⟩ => ⟨hid, ρ, env, st, R, by
    unfold sRetB at P
    cases e : me env st with
    | bad => rw [e] at P; exact P
    | ok q s =>
      rw [e] at P
      cases q with
      | loc n => exact fun ρ1 H1 l S v rp f => P ρ1 H1 v l S rp fun z => .inl ⟨n, rfl⟩
      | _ => exact False.elim P⟩
def sRetN : SM := fun _ st => .rt .non st
theorem evs_retN : EvS X fr (.Return none pos) sRetN := PS.anti ps_retN fun D σ H ⟨hid, ρ, env, st, R, P⟩ => P ρ H .non (Later.refl _ _) R.s rfl fun _ => .inr fun a e => nomatch e
theorem evs_if (hc : EvT X c mc) (ha : EvSs X fr sa a) (hb : EvSs X fr sb b) : EvS X fr (.If c sa sb pos) (sIf mc a b) :=
  PS.anti (ps_if hc ha hb) fun D σ H ⟨hid, ρ, env, st, R, P⟩ => sT_use R P fun ρ1 st1 H1 c l R1 P1 => by
    cases c with
    | true => exact ⟨hid, ρ1, env, st1, R1, P1⟩
    | false => exact ⟨hid, ρ1, env, st1, R1, P1⟩
end

/-! ## targets -/
abbrev GM := PV → VEnv → Option VEnv
def cG (X : Cx) (vs : List Nat) (g : GM) : TG := fun v σ H Q => ∃ hid ρ env st p env', Rel (gx X hid) ρ env st σ H ∧ Rep (gx X hid) ρ H p v ∧ g p env = some env' ∧ ∀ σ', EnvR (gx X hid) ρ H env' σ' → L2.wipe σ' vs = L2.wipe σ vs → Q σ' H
def EvG (X : Cx) (vs : List Nat) (tg : Expr) (g : GM) : Prop := PG X tg (cG X vs g)
theorem PG.anti {X : Cx} {e : Expr} {t u : TG} (h : PG X e t) (k : ∀ v σ H Q, u v σ H Q → t v σ H Q) : PG X e u := ⟨fun pins s σ H v w Q I r q => h.run pins s σ H v w Q I r (k v σ H Q q)⟩
abbrev GMs := List PV → VEnv → Option VEnv
def cGs (X : Cx) (vs : List Nat) (g : GMs) : TGs := fun v σ H Q => ∃ hid ρ env st p env', Rel (gx X hid) ρ env st σ H ∧ Reps (gx X hid) ρ H p v ∧ g p env = some env' ∧ ∀ σ', EnvR (gx X hid) ρ H env' σ' → L2.wipe σ' vs = L2.wipe σ vs → Q σ' H
def EvGs (X : Cx) (vs : List Nat) (tg : List Expr) (g : GMs) : Prop := PGs X tg (cGs X vs g)
theorem PGs.anti {X : Cx} {e : List Expr} {t u : TGs} (h : PGs X e t) (k : ∀ v σ H Q, u v σ H Q → t v σ H Q) : PGs X e u := ⟨fun pins s σ H v w Q I r q => h.run pins s σ H v w Q I r (k v σ H Q q)⟩
def gName (i : Nat) : GM := fun p env => some (env.set i (some p))
def gsNil : GMs := fun ps env => match ps with
  | [] => some env
  | _ => none
def gsCons (g : GM) (r : GMs) : GMs := fun ps env => match ps with
  | p :: ps => (g p env).bind (r ps)
  | [] => none
def gTup (n : Nat) (g : GMs) : GM := fun p env => match p with
  | .tup xs => if xs.length = n then g xs env else none
  | _ => none
theorem wipe_set {σ : L2.St} {i : Nat} {x : Option V} : ∀ {vs : List Nat}, i ∈ vs → L2.wipe (σ.set i x) vs = L2.wipe σ vs
  | [], h => by simp at h
  | v :: vs, h => by
    show (L2.wipe (σ.set i x) vs).set v none = (L2.wipe σ vs).set v none
    by_cases hv : i ∈ vs
    · rw [wipe_set hv]
    · have hvi : i = v := (List.mem_cons.mp h).resolve_right hv
      subst hvi
      have key : ∀ ws : List Nat, (L2.wipe (σ.set i x) ws).set i none = (L2.wipe σ ws).set i none := by
        intro ws
        induction ws with
        | nil => show (σ.set i x).set i none = σ.set i none; rw [List.set_set]
        | cons w ws ih =>
          show ((L2.wipe (σ.set i x) ws).set w none).set i none = ((L2.wipe σ ws).set w none).set i none
          by_cases hw : w = i
          · subst hw; rw [List.set_set, List.set_set, ih]
          · rw [List.set_comm _ _ hw, List.set_comm _ _ hw, ih]
      exact key vs
section
variable {X : Cx} {vs : List Nat} {pos : Pos}
theorem evg_name (nd : X.N.Nodup) {i : Nat} {x : Str} (hv : i ∈ vs := by decide) (hi : X.N[i]? = some x := by rfl) (hx : Loc X.env.scope x := by first | exact Or.inl rfl | exact Or.inr rfl)
    (hf : X.fn x = true ∨ X.env.scope.names.lookup x = some .local := by first | exact .inl rfl | exact .inr rfl | assumption) : EvG X vs (.Name x pos) (gName i) :=
  PG.anti (pg_name nd hi hx hf) fun v σ H Q ⟨hid, ρ, env, st, p, env', R, rp, e, q⟩ => by
    cases e
    exact q _ (R.e.set rp i) (wipe_set hv)
theorem evgs_nil : EvGs X vs [] gsNil := PGs.anti pgs_nil fun v σ H Q ⟨hid, ρ, env, st, p, env', R, rp, e, q⟩ => by
  unfold gsNil at e
  split at e
  · cases e
    exact ⟨rp, q σ R.e rfl⟩
  · cases e
theorem evgs_cons {e : Expr} {es : List Expr} {g : GM} {r : GMs} (h1 : EvG X vs e g) (h2 : EvGs X vs es r) (hs : (assignEach (e :: es) X.env).map (·.2) = assign e X.env :: (assignEach es X.env).map (·.2) := by rfl) : EvGs X vs (e :: es) (gsCons g r) :=
  PGs.anti (pgs_cons h1 h2 hs) fun v σ H Q ⟨hid, ρ, env, st, p, env', R, rp, e, q⟩ => by
    unfold gsCons at e
    split at e
    · rename_i p ps
      obtain ⟨v, w, rfl, r1, r2⟩ := rp
      obtain ⟨env1, e1, e2⟩ := Option.bind_eq_some_iff.mp e
      exact ⟨v, w, rfl, hid, ρ, env, st, p, env1, R, r1, e1, fun σ1 E1 w1 => ⟨hid, ρ, env1, st, ps, env', ⟨R.s, E1⟩, r2, e2, fun σ2 E2 w2 => q σ2 E2 (w2.trans w1)⟩⟩
    · cases e
theorem evg_tup {es : List Expr} {k n : Nat} {g : GMs} (hc : X.calm = true) (h : EvGs X vs es g) (hn : (assignEach es X.env).length = n := by rfl) (hst : (assignEach es X.env).findIdx? (·.1) = none := by rfl) : EvG X vs (.Tuple es k pos) (gTup n g) :=
  PG.anti (pg_tup hc h hn hst) fun v σ H Q ⟨hid, ρ, env, st, p, env', R, rp, e, q⟩ => by
    unfold gTup at e
    split at e
    · rename_i xs
      split at e
      · rename_i hl
        obtain ⟨a, ws, rfl, s, r⟩ := rp
        exact ⟨a, ws, rfl, s, by rw [r.length]; exact hl, hid, ρ, env, st, xs, env', R, r, e, q⟩
      · cases e
    · cases e
def sAsg (g : GM) (a : EM) : SM := fun env st => (a env st).s fun p s1 => match g p env with
  | some env' => .nx env' s1
  | none => .bad
theorem evs_asg {fr f : Bool} {tg e : Expr} {me : EM} {g : GM} (he : Ev X f e me) (hg : EvG X vs tg g) (hs : swapsWithSole [tg] e pos.line X.env = pure false := by rfl) (hw : swappedStores [tg] e X.env = pure none := by rfl)
    (h1 : (assignEach [tg] X.env).map (·.2) = [assign tg X.env] := by rfl) : EvS X fr (.Assign [tg] e pos) (sAsg g me) :=
  PS.anti (ps_asg he hg hs hw h1) fun D σ H ⟨hid, ρ, env, st, R, P⟩ => sE_use R P fun ρ1 st1 H1 p v l R1 rp _ P1 => by
    split at P1
    · rename_i env' e
      exact ⟨hid, ρ1, env, st1, p, env', R1, rp, e, fun σ' E' _ => P1 ρ1 H1 σ' (Later.refl _ _) ⟨R1.s, E'⟩⟩
    · exact False.elim P1
/-- name += e, of whole numbers -/
def vAddI (x y : PV) (st : VSt) : Res PV := match x, y with
  | .int i, .int j => .ok (.int (i + j)) st
  | _, _ => .bad
def sAug (i : Nat) (f : PV → PV → VSt → Res PV) (a : EM) : SM := fun env st => (eVar i env st).s fun x s0 => (a env s0).s fun y s1 => (f x y s1).s fun z s2 => .nx (env.set i (some z)) s2
theorem evs_augI {fr fa : Bool} {i : Nat} {x : Str} {e : Expr} {me : EM} {pos' : Pos} (nd : X.N.Nodup) (he : Ev X fa e me) (hi : X.N[i]? = some x := by rfl) (hx : Loc X.env.scope x := by first | exact Or.inl rfl | exact Or.inr rfl)
    (hf : X.fn x = true ∨ X.env.scope.names.lookup x = some .local := by first | exact .inl rfl | exact .inr rfl | assumption) : EvS X fr (.AugAssign (.Name x pos') .Add e pos) (sAug i vAddI me) :=
  PS.anti (ps_aug nd hi hx he ip_add hf) fun D σ H ⟨hid, ρ, env, st, R, P⟩ => by
    unfold sAug eVar at P
    split at P
    · rename_i p e
      obtain ⟨v, h1, h2⟩ := R.e.2 i p e
      refine ⟨v, h1, sE_use R P fun ρ1 st1 H1 q w l R1 rq _ P1 => ?_⟩
      replace h2 := Rep.later l _ _ h2
      unfold vAddI at P1
      split at P1
      · rename_i a b
        exact ⟨a, b, h2, rq, P1 ρ1 H1 _ (Later.refl _ _) ⟨R1.s, R1.e.set (show Rep (gx X hid) ρ1 H1 (.int (a + b)) (.int (a + b)) from rfl) i⟩⟩
      · exact False.elim P1
    · exact False.elim P
end
end Vm

namespace Vm
open PySem PySem.Spec L2

/-! ## what is walked -/
inductive IT where
  | seq (p : PV)
  | rng (lo : Int) (n : Nat)
def Itm (j : IT) (st : VSt) : Option (List PV) := match j with
  | .seq p => seqOf st p
  | .rng lo n => some ((List.range n).map fun (k : Nat) => .int (lo + (k : Int)))
def RepJ (G : Gx) (ρ : List Addr) (H : Hp) (j : IT) (v : V) : Prop := match j with
  | .seq p => Rep G ρ H p v
  | .rng _ _ => True
theorem RepJ.later {G : Gx} {ρ ρ' : List Addr} {H H' : Hp} (l : Later ρ H ρ' H') {j : IT} {v : V} (h : RepJ G ρ H j v) : RepJ G ρ' H' j v := by
  cases j with
  | seq p => exact Rep.later l p v h
  | rng _ _ => trivial
def JOk (X : Cx) (j : IT) (v : V) (J : It) : Prop := ∀ (hid ρ : List Addr) (st : VSt) (H : Hp), SRel (gx X hid) ρ st H → RepJ (gx X hid) ρ H j v → ∀ xs, Itm j st = some xs →
  ∃ vs, Reps (gx X hid) ρ H xs vs ∧ (∀ i, xs.length ≤ i → J.stop i H) ∧ ∀ i, i < xs.length → J.go i H ∧ ∀ x H2, J.yld i H x H2 → H2 = H ∧ vs[i]? = some x
abbrev IM := VEnv → VSt → Res IT
def kI (X : Cx) (hid : List Addr) (R : It → Hp → Prop) : KF IT := fun ρ' st' H' j => (Itm j st').isSome = true ∧ ∃ v, RepJ (gx X hid) ρ' H' j v ∧ ∀ J, JOk X j v J → R J H'
def cI (X : Cx) (m : IM) : TI := fun σ H R => ∃ hid ρ env st, Rel (gx X hid) ρ env st σ H ∧ Post (gx X hid) ρ H (m env st) (fun ρ' st' H' j => (Itm j st').isSome = true ∧ ∀ v, RepJ (gx X hid) ρ' H' j v → ∀ J, JOk X j v J → R J H')
def EvI (X : Cx) (tg iter : Expr) (m : IM) : Prop := PI X tg iter (cI X m)
theorem PI.anti {X : Cx} {tg e : Expr} {t u : TI} (h : PI X tg e t) (k : ∀ σ H Q, u σ H Q → t σ H Q) : PI X tg e u := ⟨fun pins s σ H Q I w => h.run pins s σ H Q I (k σ H Q w)⟩
section
variable {X : Cx} {tg : Expr}
/-- a list or a tuple -/
theorem pi_seq {l : Expr} {tl : TE} (hl : PE X l tl) : PI X tg l (fun σ H R => tl σ H fun x H1 => ∃ a, x = .ref a ∧ (((∃ xs, SqL X.K H1 a xs) ∧ R (Itl X.K a) H1) ∨ ((∃ xs, SqT X.K H1 a xs) ∧ R (Itt X.K a) H1))) := by
  refine ⟨fun pins s σ H R I h => ?_⟩
  refine thn (hl.run pins s σ H _ I h) fun v s1 ⟨x, H1, I1, r1, q1⟩ => ?_
  obtain ⟨a, e, q⟩ := q1
  subst e
  cases r1
  rcases q with ⟨⟨xs, hq⟩, q⟩ | ⟨⟨xs, hq⟩, q⟩
  · obtain ⟨its, rv, p, hz⟩ := I1.list hq
    refine wpAny_pyIter_list p.isList ?_
    refine ⟨s1.heap.objs.size, [s1.heap.objs.size], _, _, H1, rfl, I1.kept (t' := s1.toks) fun b o e => Heap.get?_push_of_some _ e, turn_list a _, ⟨_, Heap.get?_push_size _ rfl, rfl, rfl⟩, fun b hb => ?_, q⟩
    have e : b = s1.heap.objs.size := by simpa using hb
    subst e
    exact I1.fpOk (Nat.le_refl _) (I1.hok.fresh (Nat.le_refl _))
  · obtain ⟨its, rv, p, hz⟩ := I1.tuple hq
    refine wpAny_pyIter_tuple (show s1.heap.IsTuple a its.toArray from p) ?_
    refine ⟨s1.heap.objs.size, [s1.heap.objs.size], _, _, H1, rfl, I1.kept (t' := s1.toks) fun b o e => Heap.get?_push_of_some _ e, turn_tuple a _, ⟨_, Heap.get?_push_size _ rfl, rfl, rfl⟩, fun b hb => ?_, q⟩
    have e : b = s1.heap.objs.size := by simpa using hb
    subst e
    exact I1.fpOk (Nat.le_refl _) (I1.hok.fresh (Nat.le_refl _))
def iSeq (a : EM) : IM := fun env st => (a env st).bind fun p s => if (seqOf s p).isSome = true then .ok (.seq p) s else .bad
theorem jok_l {p : PV} {a : Addr} (n : ∀ (hid ρ : List Addr) (st : VSt) (H : Hp), SRel (gx X hid) ρ st H → Rep (gx X hid) ρ H p (.ref a) → ∀ xs, seqOf st p = some xs → ∃ vs, SqL X.K H a vs ∧ Reps (gx X hid) ρ H xs vs) : JOk X (.seq p) (.ref a) (Itl X.K a) := by
  intro hid ρ st H S r xs e
  obtain ⟨vs, h1, h2⟩ := n hid ρ st H S r xs e
  refine ⟨vs, h2, fun i hi => ⟨vs, h1, by rw [h2.length]; exact hi⟩, fun i hi => ⟨?_, fun x H2 h => ⟨h.1, h.2 vs h1⟩⟩⟩
  have hv : i < vs.length := by rw [h2.length]; exact hi
  exact ⟨vs, vs[i], h1, List.getElem?_eq_getElem hv⟩
theorem jok_t {p : PV} {a : Addr} (n : ∀ (hid ρ : List Addr) (st : VSt) (H : Hp), SRel (gx X hid) ρ st H → Rep (gx X hid) ρ H p (.ref a) → ∀ xs, seqOf st p = some xs → ∃ vs, SqT X.K H a vs ∧ Reps (gx X hid) ρ H xs vs) : JOk X (.seq p) (.ref a) (Itt X.K a) := by
  intro hid ρ st H S r xs e
  obtain ⟨vs, h1, h2⟩ := n hid ρ st H S r xs e
  refine ⟨vs, h2, fun i hi => ⟨vs, h1, by rw [h2.length]; exact hi⟩, fun i hi => ⟨?_, fun x H2 h => ⟨h.1, h.2 vs h1⟩⟩⟩
  have hv : i < vs.length := by rw [h2.length]; exact hi
  exact ⟨vs, vs[i], h1, List.getElem?_eq_getElem hv⟩
theorem evi_seq {l : Expr} {m : EM} {f : Bool} (h : Ev X f l m) : EvI X tg l (iSeq m) :=
  PI.anti (pi_seq h) fun σ H R ⟨hid, ρ, env, st, Re, P⟩ => cE_use Re P fun ρ1 st1 H1 p v l R1 rp _ P1 => by
    split at P1
    · rename_i hz
      obtain ⟨xs, e⟩ := Option.isSome_iff_exists.mp hz
      have P2 := (P1.now R1.s).2 v rp
      by_cases ht : ∃ ys, p = .tup ys
      · obtain ⟨ys, rfl⟩ := ht
        obtain ⟨a, vs, rfl, s, r⟩ := rp
        refine ⟨a, rfl, .inr ⟨⟨vs, s⟩, P2 _ (jok_t fun hid ρ st H S r xs e => ?_)⟩⟩
        obtain ⟨b, ws, eb, s, r⟩ := r
        cases eb
        have e : some ys = some xs := e
        cases e
        exact ⟨ws, s, r⟩
      · obtain ⟨a, vs, rfl, s, r⟩ := rep_seq R1.s rp e
        have key : ∀ (hid ρ : List Addr) (st : VSt) (H : Hp), SRel (gx X hid) ρ st H → Rep (gx X hid) ρ H p (.ref a) → ∀ xs, seqOf st p = some xs → ∃ vs, SqL X.K H a vs ∧ Reps (gx X hid) ρ H xs vs := by
          intro hid ρ st H S r xs e
          unfold seqOf at e
          split at e
          · rename_i zs ez
            cases e
            obtain ⟨b, ws, eb, hb, rb⟩ := rep_lst S r ez
            cases eb
            exact ⟨ws, SqL.of hb, rb⟩
          · rename_i zs ez
            rcases rep_deref S r with ⟨n, b, _, _, o⟩ | ⟨_, z⟩
            · rw [ez] at o; exact False.elim o
            · rw [z] at ez; exact absurd ⟨zs, ez⟩ ht
          · cases e
        obtain ⟨ws, hs, _⟩ := key hid ρ1 st1 H1 R1.s rp xs e
        exact ⟨a, rfl, .inl ⟨⟨ws, hs⟩, P2 _ (jok_l key)⟩⟩
    · exact False.elim P1
def mkRng (lo hi : Int) (st : VSt) : Res IT := if -(2 ^ 62) ≤ lo ∧ lo < 2 ^ 62 ∧ -(2 ^ 62) ≤ hi ∧ hi < 2 ^ 62 then .ok (.rng lo (hi - lo).toNat) st else .bad
def iRng1' (a : EM) : IM := fun env st => (a env st).bind fun p s => match p with
  | .int n => mkRng 0 n s
  | _ => .bad
def iRng2' (a b : EM) : IM := fun env st => (a env st).bind fun p s => (b env s).bind fun q s2 => match p, q with
  | .int lo, .int hi => mkRng lo hi s2
  | _, _ => .bad
theorem jok_r {lo : Int} {n : Nat} {v : V} : JOk X (.rng lo n) v (Itr lo n) := by
  intro hid ρ st H S _ xs e
  have e : some ((List.range n).map fun (k : Nat) => PV.int (lo + (k : Int))) = some xs := e
  cases e
  refine ⟨(List.range n).map fun (k : Nat) => V.int (lo + (k : Int)), ?_, fun i hi => ?_, fun i hi => ⟨?_, fun x H2 h => ⟨h.1, ?_⟩⟩⟩
  · have : ∀ l : List Nat, Reps (gx X hid) ρ H (l.map fun (k : Nat) => PV.int (lo + (k : Int))) (l.map fun (k : Nat) => V.int (lo + (k : Int))) := by
      intro l
      induction l with
      | nil => rfl
      | cons k l ih => exact ⟨_, _, rfl, rfl, ih⟩
    exact this _
  · show n ≤ i
    simpa using hi
  · show i < n
    simpa using hi
  · have hi : i < n := by simpa using hi
    rw [h.2]
    simp [hi]
theorem evi_rng1 {a : Expr} {m : EM} {f : Bool} {p pos : Pos} (ha : Ev X f a m) (hm : X.mg "range" = none) (hg : Gl X "range" := by rfl) (hs : starEach [a] X.env = [(false, eval a X.env)] := by rfl) : EvI X tg (.Call (.Name "range" p) [a] [] pos) (iRng1' m) :=
  PI.anti (pi_range1 hg hm (pa_cons ha pa_nil hs) hs) fun σ H R ⟨hid, ρ, env, st, Re, P⟩ => cE_use Re P fun ρ1 st1 H1 p v l R1 rp _ P1 => by
    cases p with
    | int n =>
      replace P1 : Post (gx X hid) ρ1 H1 (mkRng 0 n st1) _ := P1
      unfold mkRng at P1
      split at P1
      · rename_i hz
        rw [Int.sub_zero] at P1
        refine ⟨n, by rw [show v = .int n from rp], hz.2.2.1, hz.2.2.2, (P1.now R1.s).2 v trivial _ jok_r⟩
      · exact False.elim P1
    | _ => exact False.elim P1
theorem evi_rng2 {a b : Expr} {ma mb : EM} {f f2 : Bool} {p pos : Pos} (ha : Ev X f a ma) (hb : Ev X f2 b mb) (hm : X.mg "range" = none) (hg : Gl X "range" := by rfl) (hs : starEach [a, b] X.env = [(false, eval a X.env), (false, eval b X.env)] := by rfl)
    (hs2 : starEach [b] X.env = [(false, eval b X.env)] := by rfl) : EvI X tg (.Call (.Name "range" p) [a, b] [] pos) (iRng2' ma mb) :=
  PI.anti (pi_range2 hg hm (pa_cons ha (pa_cons hb pa_nil hs2) (by rw [hs, hs2])) hs hs2) fun σ H R ⟨hid, ρ, env, st, Re, P⟩ => cE_use Re P fun ρ1 st1 H1 p v l R1 rp _ P1 => cE_use R1 P1 fun ρ2 st2 H2 q w l2 R2 rq _ P2 => by
    replace rp := Rep.later l2 _ _ rp
    clear P1
    split at P2
    · rename_i lo hi
      unfold mkRng at P2
      split at P2
      · rename_i hz
        refine ⟨lo, hi, by rw [show v = .int lo from rp, show w = .int hi from rq], hz, (P2.now R2.s).2 v trivial _ jok_r⟩
      · exact False.elim P2
    · exact False.elim P2
end

/-! ## for -/
def forP (j : IT) (L : Nat) (B : PV → VEnv → VSt → SR) : Nat → VEnv → VSt → SR
  | 0, env, st => match Itm j st with
    | some xs => if xs.length = L then .nx env st else .bad
    | none => .bad
  | m + 1, env, st => match Itm j st with
    | some xs => if xs.length = L then match xs[L - (m + 1)]? with
        | some x => match B x env st with
          | .nx e s => forP j L B m e s
          | .ct e s => forP j L B m e s
          | .bk e s => .nx e s
          | .rt p s => .rt p s
          | .bad => .bad
        | none => .bad
      else .bad
    | none => .bad
def bodyP (g : GM) (body : SM) : PV → VEnv → VSt → SR := fun x e s => match g x e with
  | some e' => body e' s
  | none => .bad
def sFor (it : IM) (g : GM) (body : SM) : SM := fun env st => (it env st).s fun j s1 => match Itm j s1 with
  | some xs => forP j xs.length (bodyP g body) xs.length env s1
  | none => .bad
theorem evs_for {X : Cx} {fr : Bool} {vs : List Nat} {tg iter : Expr} {body : List Stmt} {it : IM} {g : GM} {mb : SM} {pos : Pos} (hp : PassesOwn (model X.prog X.w) X.A X.env X.xe) (hc : X.calm = true) (hi : EvI X tg iter it) (hg : EvG X vs tg g) (hb : EvSs X fr body mb)
    (hs : ∀ x, foldedSetIterable iter X.env x = pure x := by intro _; rfl) : EvS X fr (.For tg iter body [] pos) (sFor it g mb) :=
  PS.anti (ps_for hp hc hi hg hb hs) fun D σ H ⟨hid, ρ, env, st, R, P⟩ => by
    refine ⟨hid, ρ, env, st, R, (PostS.ofRes P).imp fun ρ1 st1 H1 j l1 S1 P1 => ⟨?_, fun v rj J hJ => ?_⟩⟩
    · cases e : Itm j st1 with
      | none => rw [e] at P1; exact False.elim P1
      | some xs => rfl
    · split at P1
      · rename_i xs ex
        have R1 := R.later l1 S1
        refine ⟨fun i m σ' H' => ∃ ρ' env' st', Later ρ1 H1 ρ' H' ∧ Rel (gx X hid) ρ' env' st' σ' H' ∧ m + i = xs.length ∧ PostS (gx X hid) ρ' H' fr (forP j xs.length (bodyP g mb) m env' st') D, ⟨xs.length, ρ1, env, st1, Later.refl _ _, R1, by omega, P1⟩, ?_⟩
        rintro i m σ' H' ⟨ρ', env', st', l, R', hm, P'⟩
        have rj' := rj.later l
        cases m with
        | zero =>
          unfold forP at P'
          split at P'
          · rename_i ys ey
            split at P'
            · rename_i hl
              obtain ⟨ws, _, h1, _⟩ := hJ hid ρ' st' H' R'.s rj' ys ey
              exact .inl ⟨h1 i (by omega), P' ρ' H' σ' (Later.refl _ _) R'⟩
            · exact False.elim P'
          · exact False.elim P'
        | succ m =>
          unfold forP at P'
          split at P'
          · rename_i ys ey
            split at P'
            · rename_i hl
              obtain ⟨ws, hr, _, h2⟩ := hJ hid ρ' st' H' R'.s rj' ys ey
              have hi : i < ys.length := by omega
              obtain ⟨h3, h4⟩ := h2 i hi
              have ei : xs.length - (m + 1) = i := by omega
              rw [ei] at P'
              rw [List.getElem?_eq_getElem hi] at P'
              refine .inr ⟨h3, fun σ2 H2 => ∃ ρ2 env2 st2, Later ρ1 H1 ρ2 H2 ∧ Rel (gx X hid) ρ2 env2 st2 σ2 H2 ∧ PostS (gx X hid) ρ2 H2 fr (forP j xs.length (bodyP g mb) m env2 st2) D, fun σ2 H2 ⟨ρ2, env2, st2, l2, R2, P2⟩ => ⟨m, by omega, ρ2, env2, st2, l2, R2, by omega, P2⟩, fun x H2 hy => ?_⟩
              obtain ⟨rfl, hx⟩ := h4 x H2 hy
              obtain ⟨w, hw, rw'⟩ := hr.get (List.getElem?_eq_getElem hi)
              rw [hx] at hw
              cases hw
              cases eg : g ys[i] env' with
              | none =>
                simp only [bodyP, eg] at P'
                exact False.elim P'
              | some env2 =>
                refine ⟨hid, ρ', env', st', ys[i], env2, R', rw', eg, fun σ3 E3 _ => ⟨hid, ρ', env2, st', ⟨R'.s, E3⟩, ?_⟩⟩
                simp only [bodyP, eg] at P'
                cases eb : mb env2 st' with
                | nx e s =>
                  rw [eb] at P'
                  exact fun ρ4 H4 σ4 l4 R4 => ⟨ρ4, e, s, l.trans l4, R4, PostS.move l4 P'⟩
                | ct e s =>
                  rw [eb] at P'
                  exact fun ρ4 H4 σ4 l4 R4 => ⟨ρ4, e, s, l.trans l4, R4, PostS.move l4 P'⟩
                | bk e s =>
                  rw [eb] at P'
                  exact P'
                | rt p s =>
                  rw [eb] at P'
                  exact P'
                | bad =>
                  rw [eb] at P'
                  exact P'
            · exact False.elim P'
          · exact False.elim P'
      · exact False.elim P1
end Vm

namespace Vm
open PySem PySem.Spec L2

/-! ## comprehensions -/
def compP (j : IT) (L : Nat) (f : PV → VSt → Res (Option PV)) : Nat → List PV → VSt → Res (List PV)
  | 0, acc, st => match Itm j st with
    | some xs => if xs.length = L then .ok acc st else .bad
    | none => .bad
  | m + 1, acc, st => match Itm j st with
    | some xs => if xs.length = L ∧ acc.length < 1000000 then match xs[L - (m + 1)]? with
        | some x => (f x st).bind fun o s => compP j L f m (match o with
          | some y => acc ++ [y]
          | none => acc) s
        | none => .bad
      else .bad
    | none => .bad
def compF (g : GM) (tst elt : EM) (vs : List Nat) (env : VEnv) : PV → VSt → Res (Option PV) := fun x s => match g x (wipeE env vs) with
  | some e => (tst e s).bind (onB fun b s2 => if b = true then (elt e s2).bind fun y s3 => .ok (some y) s3 else .ok none s2)
  | none => .bad
def tTrue : EM := fun _ st => .ok (.bl true) st
def eComp (it : IM) (g : GM) (tst elt : EM) (vs : List Nat) : EM := fun env st => (it env st).bind fun j s1 => match Itm j s1 with
  | some xs => (compP j xs.length (compF g tst elt vs env) xs.length [] s1).bind fun ys s => .ok (.lst ys) s
  | none => .bad
def EvTs (X : Cx) (ifs : List Expr) (m : EM) : Prop := PTs X ifs (cT X m)
theorem PTs.anti {X : Cx} {e : List Expr} {t u : TT} (h : PTs X e t) (k : ∀ σ H Q, u σ H Q → t σ H Q) : PTs X e u := ⟨fun pins s σ H Q I w => h.run pins s σ H Q I (k σ H Q w)⟩
theorem evts_nil {X : Cx} : EvTs X [] tTrue := PTs.anti pts_nil fun σ H Q ⟨hid, ρ, env, st, R, P⟩ => P.now R.s
theorem evts_one {X : Cx} {c : Expr} {m : EM} (h : EvT X c m) : EvTs X [c] m := pts_one h

theorem Res.bind_assoc {α β γ : Type} (r : Res α) (a : α → VSt → Res β) (b : β → VSt → Res γ) : (r.bind a).bind b = r.bind fun x s => (a x s).bind b := by cases r <;> rfl
theorem Post.bind0 {α β : Type} {G : Gx} {ρ : List Addr} {H : Hp} {r : Res α} {k : α → VSt → Res β} {K : KF β} (h : Post G ρ H (r.bind k) K) : Post G ρ H r (fun _ st1 _ a => Post G ρ H (k a st1) K) := by
  cases r with
  | bad => exact h
  | ok a st' => exact fun _ _ _ _ => h
theorem Post.move {α : Type} {G : Gx} {ρ ρ1 : List Addr} {H H1 : Hp} {r : Res α} {K : KF α} (l : Later ρ H ρ1 H1) (h : Post G ρ H r K) : Post G ρ1 H1 r K := by
  cases r with
  | bad => exact h
  | ok a st' => exact fun ρ' H' l' s => h ρ' H' (l.trans l') s
theorem Post.hide {α : Type} {G : Gx} {ρ : List Addr} {H : Hp} {d : Addr} {r : Res α} {K : KF α} (h : Post G ρ H r K) : Post (G.hide d) ρ H r K := by
  cases r with
  | bad => exact h
  | ok a st' => exact fun ρ' H' l' s => h ρ' H' l' (srel_show s)
theorem repJ_hide {G : Gx} {ρ : List Addr} {H : Hp} {d : Addr} {o : HO} (hd : H d = none) {j : IT} {v : V} (h : RepJ G ρ H j v) : RepJ (G.hide d) ρ (upd H d o) j v := by
  cases j with
  | seq p => exact rep_hide hd p v h
  | rng _ _ => trivial
theorem repJ_wr {G : Gx} {ρ : List Addr} {H : Hp} {d : Addr} {o : HO} (hd : d ∈ ρ ∨ d ∈ G.hid) (mu : Mut (H d)) {j : IT} {v : V} (h : RepJ G ρ H j v) : RepJ G ρ (upd H d o) j v := by
  cases j with
  | seq p => exact rep_wr hd mu p v h
  | rng _ _ => trivial
theorem gx_hide (X : Cx) (hid : List Addr) (d : Addr) : (gx X hid).hide d = gx X (d :: hid) := rfl
section
variable {X : Cx} {elt tg iter : Expr} {ifs : List Expr} {scope : Scope} {own : List (Str × Nat)} {pos : Pos} {it : IM} {g : GM} {mt me : EM} {fe : Bool}
/-- the reading of a comprehension, by the meanings of its parts -/
theorem lc_rd {vs : List Nat} {σ : L2.St} {H : Hp} {Q : VK} (h : cE X true (eComp it g mt me vs) σ H Q) : tLc (cI X it) (cG X vs g) (cT X mt) (cE X fe me) vs σ H Q := by
  obtain ⟨hid, ρ, env, st, R, P⟩ := h
  refine ⟨hid, ρ, env, st, R, P.bind.imp fun ρ1 st1 H1 j l1 S1 P1 => ?_⟩
  have P1' : Post (gx X hid) ρ1 H1 (match Itm j st1 with
      | some xs => (compP j xs.length (compF g mt me vs env) xs.length [] st1).bind fun ys s => .ok (.lst ys) s
      | none => .bad) (kE (gx X hid) H true Q) := P1
  cases ex : Itm j st1 with
  | none => rw [ex] at P1'; exact False.elim P1'
  | some xs =>
    rw [ex] at P1'
    refine ⟨rfl, fun v rj J hJ D hD => ?_⟩
    have hDH : H D = none := l1.back hD
    have R1 := R.later l1 S1
    let G' := gx X (D :: hid)
    refine ⟨fun i m H' => ∃ ρ' st' acc accV, Later ρ1 H1 ρ' H' ∧ SRel G' ρ' st' H' ∧ EnvR G' ρ' H' (wipeE env vs) (L2.wipe σ vs) ∧ RepJ G' ρ' H' j v ∧ H' D = some (.lst accV) ∧ Reps G' ρ' H' acc accV ∧ m + i = xs.length ∧
        Post (gx X hid) ρ1 H1 ((compP j xs.length (compF g mt me vs env) m acc st').bind fun ys s => .ok (.lst ys) s) (kE (gx X hid) H true Q),
      ⟨xs.length, ρ1, st1, [], [], Later.new hD, srel_hide hD S1, (envR_hide hD R1.e).wipe vs, repJ_hide hD rj, upd_same, rfl, by omega, P1'⟩, ?_⟩
    rintro i m H' ⟨ρ', st', acc, accV, l, S', E', rj', hD', ra, hm, P'⟩
    have hDin : D ∈ ρ' ∨ D ∈ G'.hid := .inr List.mem_cons_self
    have nD : D ∉ ρ' := (S'.hid D List.mem_cons_self).1
    cases m with
    | zero =>
      unfold compP at P'
      split at P'
      · rename_i ys ey
        split at P'
        · rename_i hl
          obtain ⟨ws, _, h1, _⟩ := hJ (D :: hid) ρ' st' H' S' rj' ys ey
          have l' : Later ρ H ρ' H' := l1.trans l
          have nh : D ∉ hid := (S1.freshH hD : D ∉ (gx X hid).hid)
          refine .inl ⟨h1 i (by omega), ?_⟩
          have P2 : Post (gx X hid) ρ1 H1 (.ok (.lst acc) st') (kE (gx X hid) H true Q) := P'
          exact P2 ρ' H' l (srel_show (G := gx X hid) S') (.ref D) ⟨D, accV, rfl, nD, nh, hD', reps_show (G := gx X hid) acc accV ra⟩ fun _ a e => by cases e; exact hDH
        · exact False.elim P'
      · exact False.elim P'
    | succ m =>
      unfold compP at P'
      split at P'
      · rename_i ys ey
        split at P'
        · rename_i hl
          obtain ⟨ws, hr, _, h2⟩ := hJ (D :: hid) ρ' st' H' S' rj' ys ey
          have hi : i < ys.length := by omega
          obtain ⟨h3, h4⟩ := h2 i hi
          have ei : xs.length - (m + 1) = i := by omega
          rw [ei, List.getElem?_eq_getElem hi] at P'
          refine .inr ⟨h3, fun H2 => ∃ ρ2 st2 acc2 accV2, Later ρ1 H1 ρ2 H2 ∧ SRel G' ρ2 st2 H2 ∧ EnvR G' ρ2 H2 (wipeE env vs) (L2.wipe σ vs) ∧ RepJ G' ρ2 H2 j v ∧ H2 D = some (.lst accV2) ∧ Reps G' ρ2 H2 acc2 accV2 ∧
              Post (gx X hid) ρ1 H1 ((compP j xs.length (compF g mt me vs env) m acc2 st2).bind fun ys s => .ok (.lst ys) s) (kE (gx X hid) H true Q),
            fun H2 ⟨ρ2, st2, acc2, accV2, a1, a2, a3, a4, a5, a6, a7⟩ => ⟨m, by omega, ρ2, st2, acc2, accV2, a1, a2, a3, a4, a5, a6, by omega, a7⟩, fun x H2 hy => ?_⟩
          obtain ⟨rfl, hx⟩ := h4 x H2 hy
          obtain ⟨w, hw, rw'⟩ := hr.get (List.getElem?_eq_getElem hi)
          rw [hx] at hw
          cases hw
          replace P' : Post (gx X hid) ρ1 H1 (((compF g mt me vs env ys[i] st').bind fun o s => compP j xs.length (compF g mt me vs env) m (match o with
            | some y => acc ++ [y]
            | none => acc) s).bind fun ys s => .ok (.lst ys) s) (kE (gx X hid) H true Q) := P'
          cases eg : g ys[i] (wipeE env vs) with
          | none =>
            simp only [compF, eg] at P'
            exact False.elim P'
          | some env2 =>
            refine ⟨D :: hid, ρ', wipeE env vs, st', ys[i], env2, ⟨S', E'⟩, rw', eg, fun σ3 E3 hw3 => ⟨?_, D :: hid, ρ', env2, st', ⟨S', E3⟩, ?_⟩⟩
            · rw [hw3]
              have idem : ∀ us : List Nat, ∀ τ : L2.St, L2.wipe (L2.wipe τ us) us = L2.wipe τ us := by
                intro us
                intro τ
                have h1 : ∀ (as bs : List Nat) (τ : L2.St), (∀ a ∈ as, a ∈ bs) → L2.wipe (L2.wipe τ as) bs = L2.wipe τ bs := by
                  intro as
                  induction as with
                  | nil => intro bs τ _; rfl
                  | cons a as ih =>
                    intro bs τ hs
                    show L2.wipe ((L2.wipe τ as).set a none) bs = _
                    rw [wipe_set (hs a List.mem_cons_self)]
                    exact ih bs τ fun b hb => hs b (List.mem_cons_of_mem _ hb)
                exact h1 us us τ fun a h => h
              exact idem vs σ
            · simp only [compF, eg] at P'
              rw [Res.bind_assoc, Res.bind_assoc] at P'
              refine (Post.hide (G := gx X hid) (d := D) (Post.move l P'.bind0)).imp fun ρ4 st4 H4 b l4 S4 P4 => ?_
              have hD4 : H4 D = some (.lst accV) := l4.keep D _ hD' nD
              cases b with
              | bl b =>
                cases b with
                | false =>
                  exact ⟨ρ4, st4, acc, accV, l.trans l4, S4, E'.later l4, rj'.later l4, hD4, Reps.later l4 _ _ ra, P4⟩
                | true =>
                  refine ⟨D :: hid, ρ4, env2, st4, ⟨S4, E3.later l4⟩, ?_⟩
                  replace P4 : Post (gx X hid) ρ1 H1 (((me env2 st4).bind fun y s3 => Res.ok (some y) s3).bind fun o s => (compP j xs.length (compF g mt me vs env) m (match o with
                    | some y => acc ++ [y]
                    | none => acc) s).bind fun ys s => .ok (.lst ys) s) (kE (gx X hid) H true Q) := P4
                  rw [Res.bind_assoc] at P4
                  refine (Post.hide (G := gx X hid) (d := D) (Post.move (l.trans l4) P4.bind0)).imp fun ρ5 st5 H5 y l5 S5 P6 u ry _ => ?_
                  have hD5 : H5 D = some (.lst accV) := l5.keep D _ hD4 (S4.hid D List.mem_cons_self).1
                  have ra5 := Reps.later (l4.trans l5) _ _ ra
                  have mu : Mut (H5 D) := by rw [hD5]; trivial
                  have hin : D ∈ ρ5 ∨ D ∈ (gx X (D :: hid)).hid := .inr List.mem_cons_self
                  refine ⟨accV, hD5, ?_, ρ5, st5, acc ++ [y], accV ++ [u], (l.trans (l4.trans l5)).mut hD, srel_hwr List.mem_cons_self mu S5, envR_wr hin mu (E'.later (l4.trans l5)), repJ_wr hin mu (rj'.later (l4.trans l5)), upd_same, reps_wr hin mu _ _ (ra5.append (Reps.one ry)), P6⟩
                  rw [ra.length]
                  exact szl _ (by omega)
              | _ => exact False.elim P4
        · exact False.elim P'
      · exact False.elim P'
theorem ev_comp (hc : X.calm = true) (nd : X.N.Nodup) (hi : EvI X tg iter it) (ok : BlkOk X.N X.env.scope scope own)
    (hg : ∀ (s : Shared) (H : Hp) (C : Addr) (cl : List (Str × Addr)) (fp : List Addr), EvG (X.blk s H scope (compEnvC scope cl C X.env) fp) (own.map Prod.snd) tg g)
    (ht : ∀ (s : Shared) (H : Hp) (C : Addr) (cl : List (Str × Addr)) (fp : List Addr), EvTs (X.blk s H scope (compEnvC scope cl C X.env) fp) ifs mt)
    (he : ∀ (s : Shared) (H : Hp) (C : Addr) (cl : List (Str × Addr)) (fp : List Addr), Ev (X.blk s H scope (compEnvC scope cl C X.env) fp) fe elt me) (hs : ∀ x, foldedSetIterable iter X.env x = pure x := by intro _; rfl) :
    Ev X true (.ListComp elt [⟨tg, iter, ifs, 0⟩] scope pos) (eComp it g mt me (own.map Prod.snd)) :=
  PE.anti (pe_lc (g := cG X (own.map Prod.snd) g) (tt := cT X mt) (te := cE X fe me) hc nd hi ok hg ht he hs) fun σ H Q h => lc_rd h
/-- name = [..], the name a local: m is the comprehension, or the comprehension boxed -/
theorem evs_setLc {fr f : Bool} {i : Nat} {y : Str} {py spos : Pos} {m : EM} (hc : X.calm = true) (nd : X.N.Nodup) (hm : ∀ σ H Q, cE X f m σ H Q → cE X true (eComp it g mt me (own.map Prod.snd)) σ H Q) (hi : EvI X tg iter it) (ok : BlkOk X.N X.env.scope scope own)
    (hg : ∀ (s : Shared) (H : Hp) (C : Addr) (cl : List (Str × Addr)) (fp : List Addr), EvG (X.blk s H scope (compEnvC scope cl C X.env) fp) (own.map Prod.snd) tg g)
    (ht : ∀ (s : Shared) (H : Hp) (C : Addr) (cl : List (Str × Addr)) (fp : List Addr), EvTs (X.blk s H scope (compEnvC scope cl C X.env) fp) ifs mt)
    (he : ∀ (s : Shared) (H : Hp) (C : Addr) (cl : List (Str × Addr)) (fp : List Addr), Ev (X.blk s H scope (compEnvC scope cl C X.env) fp) fe elt me)
    (hsw : swapsWith (.ListComp elt [⟨tg, iter, ifs, 0⟩] scope pos) (some (.Name y py)) spos.line X.env = pure true := by exact sw_true rfl rfl rfl (by decide +kernel)) (hy : X.N[i]? = some y := by rfl) (hyl : X.env.scope.names.lookup y = some .local := by rfl)
    (hs : ∀ x, foldedSetIterable iter X.env x = pure x := by intro _; rfl) : EvS X fr (.Assign [.Name y py] (.ListComp elt [⟨tg, iter, ifs, 0⟩] scope pos) spos) (sSet i m) :=
  PS.anti (ps_setLc (g := cG X (own.map Prod.snd) g) (tt := cT X mt) (te := cE X fe me) hc nd hy hyl hsw hi ok hg ht he hs) fun D σ H ⟨hid, ρ, env, st, R, P⟩ =>
    lc_rd (hm _ _ _ (sE_use (f := f) R P fun ρ1 st1 H1 p v l R1 rp _ P1 => P1 ρ1 H1 _ (Later.refl _ _) ⟨R1.s, R1.e.set rp i⟩))
theorem lc_plain {m : EM} : ∀ σ H Q, cE X true m σ H Q → cE X true m σ H Q := fun _ _ _ h => h
theorem lc_box {m : EM} : ∀ σ H Q, cE X false (eBox m) σ H Q → cE X true m σ H Q := fun _ _ _ h => box_rd h
end
end Vm

namespace Vm
open PySem PySem.Spec L2

/-! ## what a def means -/
structure FnD where
  np : Nat
  ns : Nat
  fr : Bool
  body : Tbl → SM
def oldLoc (k : Nat) (p : PV) : Bool := match p with
  | .loc n => decide (n < k)
  | _ => false
def endI (fr : Bool) (k : Nat) (r : SR) : Res PV := match r with
  | .rt p st' => if (fr && oldLoc k p) = true then .bad else .ok (freeze st' k p) (st'.take k)
  | .nx _ st' => .ok .non (st'.take k)
  | _ => .bad
def callI (d : FnD) (T : Tbl) (args : List PV) (st : VSt) : Res PV := if args.length = d.np then endI d.fr st.length (d.body T (args.map some ++ List.replicate (d.ns - d.np) none) st) else .bad

mutual
theorem rep_freeze {G : Gx} {ρ δ : List Addr} {st : VSt} {H : Hp} (S : SRel G (ρ ++ δ) st H) : ∀ (p : PV) (v : V), Rep G (ρ ++ δ) H p v → Rep G ρ H (freeze st ρ.length p) v
  | .non, v, h => h
  | .bl b, v, h => h
  | .int i, v, h => h
  | .str x, v, h => h
  | .tup xs, v, h => by
    obtain ⟨a, vs, e, s, r⟩ := h
    exact ⟨a, vs, e, s, reps_freeze S xs vs r⟩
  | .lst xs, v, h => by
    obtain ⟨a, vs, e, n, n2, s, r⟩ := h
    exact ⟨a, vs, e, fun z => n (List.mem_append_left _ z), n2, s, reps_freeze S xs vs r⟩
  | .dct ks xs, v, h => by
    obtain ⟨a, vs, e, n, n2, z, s, r⟩ := h
    exact ⟨a, vs, e, fun z => n (List.mem_append_left _ z), n2, z, s, reps_freeze S xs vs r⟩
  | .sset xs, v, h => by
    obtain ⟨a, e, n, n2, s⟩ := h
    exact ⟨a, e, fun z => n (List.mem_append_left _ z), n2, s⟩
  | .scr ns, v, h => by
    obtain ⟨a, e, s⟩ := h
    refine ⟨a, e, ?_⟩
    rcases s with ⟨h, n, n2⟩ | h
    · exact .inl ⟨h, fun z => n (List.mem_append_left _ z), n2⟩
    · exact .inr h
  | .loc n, v, h => by
    obtain ⟨a, e, hn⟩ := h
    by_cases hlt : n < ρ.length
    · have : freeze st ρ.length (.loc n) = .loc n := by unfold freeze; rw [if_pos hlt]
      rw [this]
      exact ⟨a, e, by rw [List.getElem?_append_left hlt] at hn; exact hn⟩
    · have h1 : n < st.length := by rw [← S.len]; exact (List.getElem?_eq_some_iff.mp hn).1
      have : freeze st ρ.length (.loc n) = st[n] := by
        unfold freeze
        rw [if_neg hlt, List.getD_eq_getElem?_getD, List.getElem?_eq_getElem h1]; rfl
      rw [this, e]
      obtain ⟨o, f⟩ := S.obj n st[n] a (List.getElem?_eq_getElem h1) hn
      refine objR_rep f o (fun z => ?_) fun z => (S.hid a z).1 (List.mem_of_getElem? hn)
      obtain ⟨i, hi, ei⟩ := List.getElem_of_mem z
      have e2 : (ρ ++ δ)[i]? = some a := by rw [List.getElem?_append_left hi, List.getElem?_eq_getElem hi, ei]
      have := nodup_ix' S.nd hn e2
      omega
theorem reps_freeze {G : Gx} {ρ δ : List Addr} {st : VSt} {H : Hp} (S : SRel G (ρ ++ δ) st H) : ∀ (ps : List PV) (vs : List V), Reps G (ρ ++ δ) H ps vs → Reps G ρ H (freezes st ρ.length ps) vs
  | [], vs, h => h
  | p :: ps, vs, h => by
    obtain ⟨v, r, e, h1, h2⟩ := h
    exact ⟨v, r, e, rep_freeze S p v h1, reps_freeze S ps r h2⟩
end
theorem srel_cut {G : Gx} {ρ δ : List Addr} {st : VSt} {H : Hp} (S : SRel G (ρ ++ δ) st H) : SRel G ρ (st.take ρ.length) H := by
  refine ⟨(List.nodup_append.mp S.nd).1, ?_, fun n p a e1 e2 => ?_, fun d hd => ?_⟩
  · have := S.len
    rw [List.length_append] at this
    rw [List.length_take]; omega
  · have hn := (List.getElem?_eq_some_iff.mp e2).1
    rw [List.getElem?_take_of_lt hn] at e1
    obtain ⟨o, f⟩ := S.obj n p a e1 (by rw [List.getElem?_append_left hn]; exact e2)
    exact ⟨objR_pure f o, f⟩
  · obtain ⟨h1, u, e⟩ := S.hid d hd
    exact ⟨fun z => h1 (List.mem_append_left _ z), u, e⟩
theorem Later.cut {ρ ρ' : List Addr} {H H' : Hp} (l : Later ρ H ρ' H') : Later ρ H ρ H' := ⟨⟨[], by simp, by simp⟩, l.keep, l.dom, l.tup, l.frz⟩

def gk (P : Program) (w : World) (K : PySem.W.Frag) (hid : List Addr) : Gx := ⟨P, w, K, hid⟩
/-- what a def promises: its meaning -/
def spI (P : Program) (w : World) (K : PySem.W.Frag) (fr : Bool) (I : List PV → VSt → Res PV) : Sp := fun vs H Q _ => ∃ hid ρ st args, SRel (gk P w K hid) ρ st H ∧ Reps (gk P w K hid) ρ H args vs ∧ Post (gk P w K hid) ρ H (I args st) (kE (gk P w K hid) H fr Q)
structure Prg where
  nm : Nat → Str
  fr : Nat → Bool
  cnt : Nat
def FnAt (P : Program) (w : World) (K : PySem.W.Frag) (mg : Str → Option Value) (base : Heap) (pr : Prg) (T : Tbl) (n : Nat) : Prop := ∀ i, i < pr.cnt → ∃ f fd ps, mg (pr.nm i) = some (.ref f) ∧ PySem.W.keepIn K (.ref f) = true ∧ Binds K fd ps [] ∧
  FnOk P w K mg base CX0 n f fd ps (spI P w K (pr.fr i) (T i))
structure Cok (X : Cx) (pr : Prg) (T : Tbl) (n : Nat) (bs : List Str) (cs : List (Str × Int)) : Prop where
  calm : X.calm = true
  nd : X.N.Nodup
  room : Room n X.A
  fns : FnAt X.prog X.w X.K X.mg X.base pr T n
  blt : ∀ x ∈ bs, X.mg x = none
  cst : ∀ p ∈ cs, ∃ u, X.mg p.1 = some u ∧ RelV (.int p.2) u
section
variable {X : Cx} {pr : Prg} {T : Tbl} {n : Nat} {bs : List Str} {cs : List (Str × Int)}
theorem Cok.blk (c : Cok X pr T n bs cs) (s : Shared) (H : Hp) (scope : Scope) (cenv : Env) (fp : List Addr) : Cok (X.blk s H scope cenv fp) pr T n bs cs := ⟨c.calm, c.nd, c.room, c.fns, c.blt, c.cst⟩
theorem Cok.u (c : Cok X pr T n bs cs) : X.A.units + 64 < cLine := c.room.units
variable {e : Expr} {es : List Expr} {m : AM} {p pos : Pos} {x : Str}
theorem ev_call (c : Cok X pr T n bs cs) (i : Nat) (ha : EvA X (e :: es) m) (hi : i < pr.cnt := by decide) (hx : pr.nm i = x := by rfl) (hg : Gl X x := by rfl) (hdb : (x == ("__debug__" : Str)) = false := by decide)
    (he : starEach (e :: es) X.env = (false, eval e X.env) :: starEach es X.env := by rfl) (hpl : (backTo pos (starEach es X.env)).any (·.1) = false := by rfl) : Ev X (pr.fr i) (.Call (.Name x p) (e :: es) [] pos) (eApp (T i) m) := by
  obtain ⟨f, fd, ps, hm, hk, hb, F⟩ := c.fns i hi
  rw [hx] at hm
  refine PE.anti (pe_call F c.room hg hm hk hb .nil pass0 ha hdb he hpl) fun σ H Q ⟨hid, ρ, env, st, R, P⟩ => cA_use R P fun ρ1 st1 H1 args vs l R1 ra P1 => ?_
  exact ⟨hid, ρ1, st1, args, R1.s, by rw [List.append_nil]; exact ra, kE.back l P1⟩
theorem ev_blt {T' : Str} (c : Cok X pr T n bs cs) (h : T' ∈ bs) : X.mg T' = none := c.blt T' h
end
section
variable {P : Program} {w : World} {K : PySem.W.Frag} {mg : Str → Option Value} {base : Heap}
theorem envR_start {G : Gx} {ρ : List Addr} {H : Hp} {N : List Str} {args : List PV} {vs : List V} {np ns : Nat} (r : Reps G ρ H args vs) (hn : args.length = np) (hs : ns = N.length) : EnvR G ρ H (args.map some ++ List.replicate (ns - np) none) (L2.start N vs) := by
  have hl := r.length
  subst hn hs
  unfold L2.start
  refine ⟨by simp [hl], fun i p e => ?_⟩
  by_cases hi : i < args.length
  · rw [List.getElem?_append_left (by simpa using hi), List.getElem?_map] at e
    cases q : args[i]? with
    | none => rw [q] at e; cases e
    | some x =>
      rw [q] at e
      cases e
      obtain ⟨v, h1, h2⟩ := r.get q
      exact ⟨v, by rw [List.getElem?_append_left (by simpa [hl] using hi), List.getElem?_map, h1]; rfl, h2⟩
  · rw [List.getElem?_append_right (by simpa using hi)] at e
    have := List.mem_of_getElem? e
    rw [List.mem_replicate] at this
    cases this.2
theorem fn_ok {x qual : Str} {st : Stmt} {f : Addr} {fd : FuncData} {N ps : List Str} {n : Nat} {d : FnD} {T : Tbl} (F : Fun K x qual st f fd) (S : FnScope N ps (defScope st)) (hnp : d.np = ps.length) (hns : d.ns = N.length)
    (hb : ∀ (cdv : Value) (A : Around) (outer : List Env) (s : Shared) (H : Hp) (E : XK), Room n (A.deeper (PyProof.Rows.envOfC qual (defScope st) s.heap.objs.size f cdv)) → EvSs (cxOf CX0 P w K mg base N qual (defScope st) f cdv A outer s H E).nox d.fr (defBody st) (d.body T)) :
    FnOk P w K mg base CX0 (n + 1) f fd ps (spI P w K d.fr (callI d T)) := by
  have hlen : ∀ {args : List PV} {st : VSt} {G : Gx} {ρ : List Addr} {H : Hp} {k : KF PV}, Post G ρ H (callI d T args st) k → args.length = d.np := fun {args st G ρ H k} h => by
    unfold callI at h
    split at h
    · assumption
    · exact False.elim h
  refine F.ok S (fun vs H Q E h => ?_) (fun cdv A outer s H vs Q E hr h => ?_)
  · obtain ⟨hid, ρ, st, args, _, r, P⟩ := h
    rw [r.length, hlen P, hnp]
  · obtain ⟨hid, ρ, st0, args, S0, r, P0⟩ := h
    have hl := hlen P0
    refine ⟨_, hb cdv A outer s H E hr, hid, ρ, _, st0, ⟨S0, envR_start r hl hns⟩, ?_⟩
    unfold callI at P0
    rw [if_pos hl] at P0
    have hk : st0.length = ρ.length := S0.len.symm
    rw [hk] at P0
    generalize d.body T (args.map some ++ List.replicate (d.ns - d.np) none) st0 = r0 at P0
    cases r0 with
    | bad => exact False.elim P0
    | bk _ _ => exact False.elim P0
    | ct _ _ => exact False.elim P0
    | nx env' st' =>
      intro ρ' H' σ' l R'
      obtain ⟨δ, rfl, _⟩ := l.ext
      exact P0 ρ H' l.cut (srel_cut R'.s) .non rfl fun _ a e => nomatch e
    | rt p st' =>
      intro ρ' H' v l S' rp f
      obtain ⟨δ, rfl, hδ⟩ := l.ext
      replace S' : SRel (gk P w K hid) (ρ ++ δ) st' H' := S'
      replace rp : Rep (gk P w K hid) (ρ ++ δ) H' p v := rp
      replace P0 : Post (gk P w K hid) ρ H (if (d.fr && oldLoc ρ.length p) = true then .bad else .ok (freeze st' ρ.length p) (st'.take ρ.length)) (kE (gk P w K hid) H d.fr Q) := P0
      split at P0
      · exact False.elim P0
      · rename_i hz
        refine P0 ρ H' l.cut (srel_cut S') v (rep_freeze S' p v rp) fun hf a ea => ?_
        rcases f hf with ⟨m, rfl⟩ | g
        · rw [hf] at hz
          have hm : ¬ m < ρ.length := fun z => hz (by show (true && decide (m < ρ.length)) = true; simp [z])
          obtain ⟨b, eb, hb⟩ := rp
          rw [ea] at eb
          cases eb
          rw [List.getElem?_append_right (by omega)] at hb
          exact hδ _ (List.mem_of_getElem? hb)
        · exact g a ea
theorem fn_zero {f : Addr} {fd : FuncData} {ps : List Str} {fr : Bool} : FnOk P w K mg base CX0 0 f fd ps (spI P w K fr fun _ _ => .bad) :=
  ⟨fun vs H Q E ⟨_, _, _, _, _, _, h⟩ => False.elim h, fun A outer s H args us vs Q E _ _ _ _ ⟨_, _, _, _, _, _, h⟩ => False.elim h⟩
/-- all defs, by levels -/
def Fm (D : Nat → FnD) : Nat → Tbl
  | 0 => fun _ _ _ => .bad
  | n + 1 => fun i => callI (D i) (Fm D n)
theorem all_fn {pr : Prg} {D : Nat → FnD} (h : ∀ i, i < pr.cnt → ∃ f fd ps, mg (pr.nm i) = some (.ref f) ∧ PySem.W.keepIn K (.ref f) = true ∧ Binds K fd ps [] ∧
    ∀ n T, FnAt P w K mg base pr T n → FnOk P w K mg base CX0 (n + 1) f fd ps (spI P w K (pr.fr i) (callI (D i) T))) : ∀ n, FnAt P w K mg base pr (Fm D n) n
  | 0 => fun i hi => by
    obtain ⟨f, fd, ps, h1, h2, h3, _⟩ := h i hi
    exact ⟨f, fd, ps, h1, h2, h3, fn_zero⟩
  | n + 1 => fun i hi => by
    obtain ⟨f, fd, ps, h1, h2, h3, h4⟩ := h i hi
    exact ⟨f, fd, ps, h1, h2, h3, h4 n _ (all_fn h n)⟩
end
def spLaw (K : PySem.W.Frag) : Sp := fun vs H Q _ => ∃ (a : Addr) (ns : List Int), vs = [.ref a] ∧ SqL K H a (ns.map V.int) ∧ ns.length ≤ 63 ∧ ∀ H', Q (.bl true) H'
theorem law_ok {P : Program} {w : World} {K : PySem.W.Frag} {I : List PV → VSt → Res PV} {fr : Bool} (h : ∀ ns : List Int, ns.length ≤ 63 → ∃ st, I [.scr ns] [] = .ok (.bl true) st) : ∀ vs H Q E, spLaw K vs H Q E → spI P w K fr I vs H Q E := by
  rintro vs H Q E ⟨a, ns, rfl, hS, hl, q⟩
  obtain ⟨st, e⟩ := h ns hl
  refine ⟨[], [], [], [.scr ns], ⟨List.nodup_nil, rfl, fun n p a e => by simp at e, fun d hd => by cases hd⟩, ⟨.ref a, [], rfl, ⟨a, rfl, ?_⟩, rfl⟩, ?_⟩
  · rcases hS with h | h
    · exact .inl ⟨h, by simp, by intro z; cases z⟩
    · exact .inr h
  · rw [e]
    intro ρ' H' l S v rv _
    obtain rfl : v = .bl true := rv
    exact q H'

/-! ## statements that change an object -/
def sApp (l a : EM) : SM := fun env st => (l env st).s fun x s1 => match x with
  | .loc n => match deref s1 (.loc n) with
    | .lst _ => (a env s1).s fun y s2 => match deref s2 (.loc n) with
      | .lst xs => if xs.length < 1000000 ∧ pureP y = true then .nx env (s2.set n (.lst (xs ++ [y]))) else .bad
      | _ => .bad
    | _ => .bad
  | _ => .bad
theorem pures_app : ∀ (xs ys : List PV), pures (xs ++ ys) = (pures xs && pures ys)
  | [], ys => by simp [pures]
  | x :: xs, ys => by simp [pures, pures_app xs ys, Bool.and_assoc]
theorem loc_obj {G : Gx} {ρ : List Addr} {st : VSt} {H : Hp} {n : Nat} {v : V} (S : SRel G ρ st H) (h : Rep G ρ H (.loc n) v) : ∃ a, v = .ref a ∧ ρ[n]? = some a ∧ ObjR G ρ H (deref st (.loc n)) a ∧ noLoc (deref st (.loc n)) = true := by
  obtain ⟨a, e, hn⟩ := h
  have h1 : n < st.length := by rw [← S.len]; exact (List.getElem?_eq_some_iff.mp hn).1
  have e2 : deref st (.loc n) = st[n] := by
    show st.getD n .non = st[n]
    rw [List.getD_eq_getElem?_getD, List.getElem?_eq_getElem h1]; rfl
  rw [e2]
  obtain ⟨o, f⟩ := S.obj n st[n] a (List.getElem?_eq_getElem h1) hn
  exact ⟨a, e, hn, o, f⟩
/-- xs.append(e) as a statement -/
theorem evs_app {X : Cx} {fr f1 f2 : Bool} {l e : Expr} {ml me : EM} {apos cpos pos : Pos} (hl : Ev X f1 l ml) (he : Ev X f2 e me)
    (hbase : attributeBase l "append" X.env (eval l X.env) = eval l X.env := by rfl)
    (hfew : ((backTo cpos (starEach [e] X.env)).all (fun x => !x.1) && (backToKw cpos (keywordEach [] X.env)).all (fun x => x.1.isSome)
      && decide (([e] : List Expr).length + ([] : List Keyword).length + (if ([] : List Keyword).isEmpty then 0 else 1) < 30)) = true := by rfl)
    (hline : (apos.endLine == cpos.line) = true := by rfl) (hse : starEach [e] X.env = (false, eval e X.env) :: starEach [] X.env := by rfl) (hplain : (backTo cpos (starEach [] X.env)).any (·.1) = false := by rfl)
    (hs : swapsWith (.Call (.Attribute l "append" apos) [e] [] cpos) none pos.line X.env = pure false := by rfl) : EvS X fr (.Expr (.Call (.Attribute l "append" apos) [e] [] cpos) pos) (sApp ml me) :=
  PS.anti (ps_expr (pe_bm PySem.F.plainAttrs_list PySem.F.slot_list_append PySem.F.type_list_append mt_append hl (pa_cons he pa_nil hse) hbase hfew hline hse hplain) hs) fun D σ H ⟨hid, ρ, env, st, R, P⟩ => sE_use R P fun ρ1 st1 H1 x v l1 R1 rx _ P1 => by
    split at P1
    · rename_i n
      split at P1
      · rename_i zs ez
        obtain ⟨a, rfl, hn, o, _⟩ := loc_obj R1.s rx
        rw [ez] at o
        obtain ⟨ws, ho, _⟩ := o
        refine ⟨.inl ⟨rfl, _, SqL.of ho⟩, sE_use R1 P1 fun ρ2 st2 H2 y u l2 R2 ry _ P2 => ?_⟩
        split at P2
        · rename_i xs ex
          split at P2
          · rename_i hz
            obtain ⟨b, eb, hn2, o2, f2⟩ := loc_obj R2.s (Rep.later l2 _ _ rx)
            cases eb
            rw [ex] at o2 f2
            obtain ⟨vs, hv, rv⟩ := o2
            have mu : Mut (H2 a) := by rw [hv]; trivial
            have hin : a ∈ ρ2 := List.mem_of_getElem? hn2
            refine ⟨a, vs, u, rfl, rfl, hv, by rw [rv.length]; exact szl _ (by omega), ?_⟩
            refine P2 ρ2 _ σ (Later.wr hin mu) ⟨srel_wr hn2 mu R2.s ⟨vs ++ [u], upd_same, reps_wr (.inl hin) mu _ _ (rv.append (Reps.one ry))⟩ ?_, envR_wr (.inl hin) mu R2.e⟩
            show pures (xs ++ [y]) = true
            rw [pures_app, show pures xs = true from f2]
            simp [pures, hz.2]
          · exact False.elim P2
        · exact False.elim P2
      · exact False.elim P1
    · exact False.elim P1
/-! ### d[k] = v -/
def hasK (ks : List Key) (k : Key) : Bool := ks.any fun k' => decide (k' = k)
def kPutK (ks : List Key) (k : Key) : List Key := if hasK ks k = true then ks else ks ++ [k]
def kPutV {α : Type} (ks : List Key) (xs : List α) (k : Key) (v : α) : List α := if hasK ks k = true then (ks.zip xs).map (fun kv => if kv.1 = k then v else kv.2) else xs ++ [v]
theorem any_zip {k : Key} : ∀ {ks : List Key} {vs : List V}, ks.length = vs.length → ((ks.zip vs).any fun kv => decide (kv.1 = k)) = hasK ks k
  | [], vs, _ => rfl
  | k' :: ks, [], h => by simp at h
  | k' :: ks, v :: vs, h => by
    rw [List.zip_cons_cons, List.any_cons, any_zip (by simpa using h)]
    rfl
theorem map_zip {k : Key} {v : V} : ∀ {ks : List Key} {vs : List V}, ks.length = vs.length → (ks.zip vs).map (fun kv => if kv.1 = k then (kv.1, v) else kv) = ks.zip ((ks.zip vs).map fun kv => if kv.1 = k then v else kv.2)
  | [], vs, _ => by simp
  | k' :: ks, [], h => by simp at h
  | k' :: ks, v' :: vs, h => by
    rw [List.zip_cons_cons, List.map_cons, List.map_cons, List.zip_cons_cons, map_zip (by simpa using h)]
    by_cases e : k' = k <;> simp [e]
theorem putK_zip {ks : List Key} {vs : List V} {k : Key} {v : V} (h : ks.length = vs.length) : putK (ks.zip vs) k v = (kPutK ks k).zip (kPutV ks vs k v) ∧ (kPutK ks k).length = (kPutV ks vs k v).length := by
  unfold putK kPutK kPutV
  rw [any_zip h]
  by_cases hk : hasK ks k = true
  · rw [if_pos hk, if_pos hk, if_pos hk]
    exact ⟨map_zip h, by simp [h]⟩
  · rw [if_neg hk, if_neg hk, if_neg hk]
    exact ⟨by rw [List.zip_append h]; rfl, by simp [h]⟩
theorem reps_put {G : Gx} {ρ : List Addr} {H : Hp} {k : Key} {p : PV} {v : V} (r : Rep G ρ H p v) : ∀ {ks : List Key} {xs : List PV} {vs : List V}, ks.length = vs.length → Reps G ρ H xs vs → Reps G ρ H (kPutV ks xs k p) (kPutV ks vs k v) := by
  intro ks xs vs hl rs
  unfold kPutV
  by_cases hk : hasK ks k = true
  · rw [if_pos hk, if_pos hk]
    have : ∀ {ks : List Key} {xs : List PV} {vs : List V}, ks.length = vs.length → Reps G ρ H xs vs → Reps G ρ H ((ks.zip xs).map fun kv => if kv.1 = k then p else kv.2) ((ks.zip vs).map fun kv => if kv.1 = k then v else kv.2) := by
      intro ks
      induction ks with
      | nil => intro xs vs _ _; simp only [List.zip_nil_left, List.map_nil]; rfl
      | cons k' ks ih =>
        intro xs vs hl rs
        cases xs with
        | nil => rw [show vs = [] from rs]; simp only [List.zip_nil_right, List.map_nil]; rfl
        | cons x xs =>
          obtain ⟨w, q, rfl, h1, h2⟩ := rs
          rw [List.zip_cons_cons, List.zip_cons_cons, List.map_cons, List.map_cons]
          refine ⟨_, _, rfl, ?_, ih (by simpa using hl) h2⟩
          by_cases e : k' = k <;> simp [e, r, h1]
    exact this hl rs
  · rw [if_neg hk, if_neg hk]
    exact rs.append (Reps.one r)
theorem pures_put {k : Key} {p : PV} (hp : pureP p = true) {ks : List Key} {xs : List PV} (hx : pures xs = true) : pures (kPutV ks xs k p) = true := by
  unfold kPutV
  split
  · have : ∀ (ks : List Key) (xs : List PV), pures xs = true → pures ((ks.zip xs).map fun kv => if kv.1 = k then p else kv.2) = true := by
      intro ks
      induction ks with
      | nil => intro xs _; rfl
      | cons k' ks ih =>
        intro xs hx
        cases xs with
        | nil => rfl
        | cons x xs =>
          unfold pures at hx
          rw [Bool.and_eq_true] at hx
          rw [List.zip_cons_cons, List.map_cons]
          unfold pures
          rw [ih xs hx.2]
          by_cases e : k' = k <;> simp [e, hp, hx.1]
    exact this ks xs hx
  · rw [pures_app, hx]; simp [pures, hp]
def sPut (d k v : EM) : SM := fun env st => (v env st).s fun y s1 => (d env s1).s fun x s2 => (k env s2).s fun kk s3 => match x with
  | .loc n => match deref s3 (.loc n), keyP kk with
    | .dct ks xs, some key => if ks.length < 1000000 ∧ pureP y = true then .nx env (s3.set n (.dct (kPutK ks key) (kPutV ks xs key y))) else .bad
    | _, _ => .bad
  | _ => .bad
theorem evs_put {X : Cx} {fr f1 f2 f3 : Bool} {d k v : Expr} {md mk mv : EM} {pos pos' : Pos} (hu : X.A.units + 64 < cLine) (hd : Ev X f1 d md) (hk : Ev X f2 k mk) (hv : Ev X f3 v mv) (hs : swapsWith v (some (.Subscript d k pos')) pos.line X.env = pure false := by rfl) :
    EvS X fr (.Assign [.Subscript d k pos'] v pos) (sPut md mk mv) :=
  PS.anti (ps_dput (by omega) hd hk hv hs) fun D σ H ⟨hid, ρ, env, st, R, P⟩ => sE_use R P fun ρ1 st1 H1 y u l1 R1 ry _ P1 => sE_use R1 P1 fun ρ2 st2 H2 x w l2 R2 rx _ P2 => sE_use R2 P2 fun ρ3 st3 H3 kk z l3 R3 rk _ P3 => by
    split at P3
    · rename_i n
      split at P3
      · rename_i ks xs key ex ek
        split at P3
        · rename_i hz
          obtain ⟨a, rfl, hn, o, f⟩ := loc_obj R3.s (Rep.later l3 _ _ rx)
          rw [ex] at o f
          obtain ⟨vs, hl, hv, rv⟩ := o
          have mu : Mut (H3 a) := by rw [hv]; trivial
          have hin : a ∈ ρ3 := List.mem_of_getElem? hn
          have ry3 := Rep.later (l2.trans l3) _ _ ry
          obtain ⟨e1, e2⟩ := putK_zip (k := key) (v := u) hl
          refine ⟨a, _, rfl, by rw [rep_key rk ek]; exact DPut.k hv (by rw [List.length_zip, hl, Nat.min_self, ← hl]; exact szl _ (by omega)), ?_⟩
          refine P3 ρ3 _ σ (Later.wr hin mu) ⟨srel_wr hn mu R3.s ⟨_, e2, by rw [upd_same, e1], reps_wr (.inl hin) mu _ _ (reps_put ry3 hl rv)⟩ (pures_put hz.2 f), envR_wr (.inl hin) mu R3.e⟩
        · exact False.elim P3
      · exact False.elim P3
    · exact False.elim P3
/-! ### dict displays -/
theorem ev_dnew {X : Cx} {pos : Pos} : Ev X true (.Dict [] [] pos) (fun _ st => .ok (.dct [] []) st) := PE.anti pe_dnewK fun σ H Q ⟨hid, ρ, env, st, R, P⟩ p hp => Post.give P R.s hp hp (new_dct (ks := []) (vs := []) R.s rfl rfl hp)
/-- {'text': n}: one written entry -/
theorem ev_disp1 {X : Cx} {pos : Pos} {i : Int} {p1 p2 : Pos} {j1 j2 : Nat} {x : Str} : Ev X true (.Dict [some (.Constant (.str x) j1 p1)] [.Constant (.int i) j2 p2] pos) (fun _ st => .ok (.dct [.inr x] [.int i]) st) :=
  PE.anti (pe_disp (pps_cons pe_str pe_int pps_nil) (by rfl) (by rfl) (fun z => by cases z) (by show 1 ≤ 15; decide)) fun σ H Q ⟨hid, ρ, env, st, R, P⟩ p hp => by
    refine ⟨upd_same, [(.inr x, .int i)], rfl, (by show 1 ≤ 15; decide), ?_⟩
    have e : upd (upd H p (.dK [])) p (.dK (mergeK [] [(Sum.inr x, V.int i)])) = upd H p (.dK ([(Sum.inr x : Key)].zip [V.int i])) := by rw [upd_upd]; rfl
    rw [e]
    exact Post.give P R.s hp hp (new_dct (ks := [.inr x]) (xs := [.int i]) (vs := [.int i]) R.s rfl ⟨_, _, rfl, rfl, rfl⟩ hp)
end Vm

namespace Vm
open PySem PySem.Spec L2
section
variable {X : Cx}
/-! ### list(x) of a list, a tuple, a dict -/
def keyV : Key → PV
  | .inl i => .int i
  | .inr x => .str x
def vListA (xs : List PV) (st : VSt) : Res PV := match xs with
  | [p] => match deref st p with
    | .lst xs => .ok (.lst xs) st
    | .tup xs => .ok (.lst xs) st
    | .dct ks _ => .ok (.lst (ks.map keyV)) st
    | _ => .bad
  | _ => .bad
def rListA (K : PySem.W.Frag) : List V → Hp → VK → Prop := fun xs H Q => (∃ p ys, xs = [.ref p] ∧ (SqL K H p ys ∨ SqT K H p ys) ∧ ∀ l, H l = none → Q (.ref l) (upd H l (.lst ys))) ∨ (∃ p kvs, xs = [.ref p] ∧ H p = some (.dK kvs) ∧ ∀ q, H q = none → Q (.ref q) (upd H q (.lst (kvs.map fun kv => kV kv.1))))
theorem call_listA (hc : X.calm = true) : CallR X (.type "list") (rListA X.K) := CallR.or call_list_of (call_list_dK hc)
theorem reps_keys {G : Gx} {ρ : List Addr} {H : Hp} : ∀ {ks : List Key} {vs : List V}, ks.length = vs.length → Reps G ρ H (ks.map keyV) ((ks.zip vs).map fun kv => kV kv.1)
  | [], vs, _ => rfl
  | k :: ks, [], h => by simp at h
  | k :: ks, v :: vs, h => ⟨kV k, _, rfl, by cases k <;> rfl, reps_keys (by simpa using h)⟩
theorem cs_listA : CallSem X true (rListA X.K) vListA := by
  intro hid ρ st H xs vs Q S r P
  unfold vListA at P
  split at P
  · rename_i p
    obtain ⟨v, rfl, rp⟩ := reps1 r
    split at P
    · rename_i xs e
      obtain ⟨a, ws, rfl, ha, r1⟩ := rep_lst S rp e
      exact .inl ⟨a, ws, rfl, .inl (SqL.of ha), fun l hl => P.give S hl hl (new_lst S r1 hl)⟩
    · rename_i xs e
      obtain ⟨a, ws, rfl, ha, r1⟩ := rep_tup S rp e
      exact .inl ⟨a, ws, rfl, .inr ha, fun l hl => P.give S hl hl (new_lst S r1 hl)⟩
    · rename_i ks xs e
      obtain ⟨a, ws, rfl, l, ha, r1⟩ := rep_dct S rp e
      exact .inr ⟨a, _, rfl, ha, fun q hq => P.give S hq hq (new_lst S (reps_keys l) hq)⟩
    · exact False.elim P
  · exact False.elim P
/-! ### a module's constant -/
theorem ev_const {pr : Prg} {T : Tbl} {n : Nat} {bs : List Str} {cs : List (Str × Int)} {pos : Pos} {x : Str} {i : Int} (c : Cok X pr T n bs cs) (h : (x, i) ∈ cs) (hg : Gl X x := by rfl) (hd : (x == ("__debug__" : Str)) = false := by decide) : Ev X true (.Name x pos) (eC (.int i)) := by
  obtain ⟨u, hm, r⟩ := c.cst _ h
  exact ev_glob hm r hg hd
variable {elt tg iter : Expr} {ifs : List Expr} {scope : Scope} {own : List (Str × Nat)} {pos : Pos} {it : IM} {g : GM} {mt me : EM} {fe : Bool} {pr : Prg} {T : Tbl} {n : Nat} {bs : List Str} {cs : List (Str × Int)}
theorem ev_compC (own : List (Str × Nat)) (c : Cok X pr T n bs cs) (hi : EvI X tg iter it) (ok : BlkOk X.N X.env.scope scope own)
    (hg : ∀ (s : Shared) (H : Hp) (C : Addr) (cl : List (Str × Addr)) (fp : List Addr), Cok (X.blk s H scope (compEnvC scope cl C X.env) fp) pr T n bs cs → EvG (X.blk s H scope (compEnvC scope cl C X.env) fp) (own.map Prod.snd) tg g)
    (ht : ∀ (s : Shared) (H : Hp) (C : Addr) (cl : List (Str × Addr)) (fp : List Addr), Cok (X.blk s H scope (compEnvC scope cl C X.env) fp) pr T n bs cs → EvTs (X.blk s H scope (compEnvC scope cl C X.env) fp) ifs mt)
    (he : ∀ (s : Shared) (H : Hp) (C : Addr) (cl : List (Str × Addr)) (fp : List Addr), Cok (X.blk s H scope (compEnvC scope cl C X.env) fp) pr T n bs cs → Ev (X.blk s H scope (compEnvC scope cl C X.env) fp) fe elt me) (hs : ∀ x, foldedSetIterable iter X.env x = pure x := by intro _; rfl) :
    Ev X true (.ListComp elt [⟨tg, iter, ifs, 0⟩] scope pos) (eComp it g mt me (own.map Prod.snd)) :=
  ev_comp c.calm c.nd hi ok (fun s H C cl fp => hg s H C cl fp (c.blk s H _ _ fp)) (fun s H C cl fp => ht s H C cl fp (c.blk s H _ _ fp)) (fun s H C cl fp => he s H C cl fp (c.blk s H _ _ fp)) hs
theorem evs_setLcC {fr f : Bool} {i : Nat} {y : Str} {py spos : Pos} {m : EM} (own : List (Str × Nat)) (c : Cok X pr T n bs cs) (hm : ∀ σ H Q, cE X f m σ H Q → cE X true (eComp it g mt me (own.map Prod.snd)) σ H Q) (hi : EvI X tg iter it) (ok : BlkOk X.N X.env.scope scope own)
    (hg : ∀ (s : Shared) (H : Hp) (C : Addr) (cl : List (Str × Addr)) (fp : List Addr), Cok (X.blk s H scope (compEnvC scope cl C X.env) fp) pr T n bs cs → EvG (X.blk s H scope (compEnvC scope cl C X.env) fp) (own.map Prod.snd) tg g)
    (ht : ∀ (s : Shared) (H : Hp) (C : Addr) (cl : List (Str × Addr)) (fp : List Addr), Cok (X.blk s H scope (compEnvC scope cl C X.env) fp) pr T n bs cs → EvTs (X.blk s H scope (compEnvC scope cl C X.env) fp) ifs mt)
    (he : ∀ (s : Shared) (H : Hp) (C : Addr) (cl : List (Str × Addr)) (fp : List Addr), Cok (X.blk s H scope (compEnvC scope cl C X.env) fp) pr T n bs cs → Ev (X.blk s H scope (compEnvC scope cl C X.env) fp) fe elt me)
    (hsw : swapsWith (.ListComp elt [⟨tg, iter, ifs, 0⟩] scope pos) (some (.Name y py)) spos.line X.env = pure true := by exact sw_true rfl rfl rfl (by decide +kernel)) (hy : X.N[i]? = some y := by rfl) (hyl : X.env.scope.names.lookup y = some .local := by rfl)
    (hs : ∀ x, foldedSetIterable iter X.env x = pure x := by intro _; rfl) : EvS X fr (.Assign [.Name y py] (.ListComp elt [⟨tg, iter, ifs, 0⟩] scope pos) spos) (sSet i m) :=
  evs_setLc c.calm c.nd hm hi ok (fun s H C cl fp => hg s H C cl fp (c.blk s H _ _ fp)) (fun s H C cl fp => ht s H C cl fp (c.blk s H _ _ fp)) (fun s H C cl fp => he s H C cl fp (c.blk s H _ _ fp)) hsw hy hyl hs
end
end Vm

namespace Vm
open PySem PySem.Spec L2
/-! ## running a meaning: the rules of the words -/
section
variable {α β : Type} {a : α} {st : VSt} {env : VEnv}
theorem bind_ok {k : α → VSt → Res β} : (Res.ok a st).bind k = k a st := rfl
theorem bind_bad {k : α → VSt → Res β} : (Res.bad : Res α).bind k = .bad := rfl
theorem s_ok {k : α → VSt → SR} : (Res.ok a st).s k = k a st := rfl
theorem s_bad {k : α → VSt → SR} : (Res.bad : Res α).s k = .bad := rfl
theorem sb_nx {k : SM} : (SR.nx env st).bind k = k env st := rfl
theorem sb_rt {k : SM} {p : PV} : (SR.rt p st).bind k = .rt p st := rfl
theorem sb_ct {k : SM} : (SR.ct env st).bind k = .ct env st := rfl
theorem sb_bk {k : SM} : (SR.bk env st).bind k = .bk env st := rfl
theorem onB_bl {k : Bool → VSt → Res β} {b : Bool} : onB k (.bl b) st = k b st := rfl
theorem onBS_bl {k : Bool → VSt → SR} {b : Bool} : onBS k (.bl b) st = k b st := rfl
theorem x_var {i : Nat} : eVar i env st = match env[i]? with
  | some (some p) => .ok p st
  | _ => .bad := rfl
theorem x_c {p : PV} : eC p env st = .ok p st := rfl
theorem x_bin {f : PV → PV → VSt → Res PV} {a b : EM} : eBin f a b env st = (a env st).bind fun x s1 => (b env s1).bind fun y s2 => f x y s2 := rfl
theorem x_un {f : PV → VSt → Res PV} {a : EM} : eUn f a env st = (a env st).bind f := rfl
theorem x_nil : aNil env st = .ok [] st := rfl
theorem x_cons {a : EM} {r : AM} : aCons a r env st = (a env st).bind fun x s1 => (r env s1).bind fun xs s2 => .ok (x :: xs) s2 := rfl
theorem x_tup {es : AM} : eTup es env st = (es env st).bind mkTup := rfl
theorem x_lst {es : AM} : eLst es env st = (es env st).bind mkLst := rfl
theorem x_app {f : List PV → VSt → Res PV} {es : AM} : eApp f es env st = (es env st).bind f := rfl
theorem x_and {a b : EM} : eAnd a b env st = (a env st).bind (onB fun c s1 => if c = true then b env s1 else .ok (.bl false) s1) := rfl
theorem x_or {a b : EM} : eOr a b env st = (a env st).bind (onB fun c s1 => if c = true then .ok (.bl true) s1 else b env s1) := rfl
theorem x_not {a : EM} : eNot a env st = (a env st).bind (onB fun c s1 => .ok (.bl (!c)) s1) := rfl
theorem x_if {c a b : EM} : eIf c a b env st = (c env st).bind (onB fun c s1 => if c = true then a env s1 else b env s1) := rfl
theorem x_box {m : EM} : eBox m env st = (m env st).bind boxV := rfl
theorem x_get {d k x : EM} : eGet d k x env st = (d env st).bind fun d s1 => if isDct s1 d = true then (k env s1).bind fun k s2 => (x env s2).bind fun x s3 => vGet d k x s3 else .bad := rfl
theorem x_sl {a : EM} {lo hi : OM} : eSl a lo hi env st = (a env st).bind fun x s1 => (lo env s1).bind fun l s2 => (hi env s2).bind fun h s3 => vSl x l h s3 := rfl
theorem x_onone : oNone env st = .ok none st := rfl
theorem x_osome {a : EM} : oSome a env st = (a env st).bind fun p s => match p with
  | .int i => .ok (some i) s
  | _ => .bad := rfl
theorem x_snil : sNil env st = .nx env st := rfl
theorem x_scons {a b : SM} : sCons a b env st = (a env st).bind b := rfl
theorem x_set {i : Nat} {a : EM} : sSet i a env st = (a env st).s fun p s1 => .nx (env.set i (some p)) s1 := rfl
theorem x_expr {a : EM} : sExpr a env st = (a env st).s fun _ s1 => .nx env s1 := rfl
theorem x_ret {a : EM} : sRet a env st = (a env st).s fun p s1 => .rt p s1 := rfl
theorem x_retB {a : EM} : sRetB a env st = (a env st).s fun p s1 => match p with
  | .loc n => .rt (.loc n) s1
  | _ => .bad := rfl
theorem x_sif {c : EM} {a b : SM} : sIf c a b env st = (c env st).s (onBS fun c s1 => if c = true then a env s1 else b env s1) := rfl
theorem x_bk : sBreak env st = .bk env st := rfl
theorem x_ct : sCont env st = .ct env st := rfl
theorem x_aug {i : Nat} {f : PV → PV → VSt → Res PV} {a : EM} : sAug i f a env st = (eVar i env st).s fun x s0 => (a env s0).s fun y s1 => (f x y s1).s fun z s2 => .nx (env.set i (some z)) s2 := rfl
theorem x_asg {g : GM} {a : EM} : sAsg g a env st = (a env st).s fun p s1 => match g p env with
  | some env' => .nx env' s1
  | none => .bad := rfl
theorem x_gname {i : Nat} {p : PV} : gName i p env = some (env.set i (some p)) := rfl
theorem x_gtup {n : Nat} {g : GMs} {xs : List PV} : gTup n g (.tup xs) env = if xs.length = n then g xs env else none := rfl
theorem x_gnil : gsNil [] env = some env := rfl
theorem x_gcons {g : GM} {r : GMs} {p : PV} {ps : List PV} : gsCons g r (p :: ps) env = (g p env).bind (r ps) := rfl
theorem x_mktup {xs : List PV} (h : xs.length ≤ 1000000) : mkTup xs st = .ok (.tup xs) st := if_pos h
theorem x_mklst {xs : List PV} (h : xs.length ≤ 1000000) : mkLst xs st = .ok (.lst xs) st := if_pos h
theorem x_boxV {p : PV} (h : noLoc p = true) : boxV p st = .ok (.loc st.length) (st ++ [p]) := if_pos h
/-! values -/
theorem v_add {i j : Int} : vAdd (.int i) (.int j) st = .ok (.int (i + j)) st := rfl
theorem v_addI {i j : Int} : vAddI (.int i) (.int j) st = .ok (.int (i + j)) st := rfl
theorem v_sub {i j : Int} : vSub (.int i) (.int j) st = .ok (.int (i - j)) st := rfl
theorem v_neg {i : Int} : vNeg (.int i) st = .ok (.int (-i)) st := rfl
theorem v_mul {i j : Int} (h : (-(2 ^ 64) < i ∧ i < 2 ^ 64) ∨ (-(2 ^ 64) < j ∧ j < 2 ^ 64)) : vMul (.int i) (.int j) st = .ok (.int (i * j)) st := if_pos h
theorem v_fdv {i j : Int} (h : 0 < j ∧ j < 2 ^ 100) : vFdv (.int i) (.int j) st = .ok (.int (i / j)) st := if_pos h
theorem v_mod {i j : Int} (h : 0 < j) : vMod (.int i) (.int j) st = .ok (.int (i % j)) st := if_pos h
theorem v_cmp {f : Int → Int → Bool} {i j : Int} : vCmp f (.int i) (.int j) st = .ok (.bl (f i j)) st := rfl
theorem v_eqs {a b : Str} : vEqF false (.str a) (.str b) st = .ok (.bl (decide (a = b))) st := rfl
theorem v_nes {a b : Str} : vEqF true (.str a) (.str b) st = .ok (.bl (!decide (a = b))) st := rfl
theorem v_eqi {a b : Int} : vEqF false (.int a) (.int b) st = .ok (.bl (decide (a = b))) st := rfl
theorem v_nei {a b : Int} : vEqF true (.int a) (.int b) st = .ok (.bl (!decide (a = b))) st := rfl
theorem v_eqb {a b : Bool} : vEqF false (.bl a) (.bl b) st = .ok (.bl (decide (a = b))) st := rfl
theorem v_ixt {xs : List PV} {i : Int} : vIx (.tup xs) (.int i) st = opt (atI xs i) st := rfl
theorem v_ixl {xs : List PV} {i : Int} : vIx (.lst xs) (.int i) st = opt (atI xs i) st := rfl
theorem v_ixc {ns : List Int} {i : Int} : vIx (.scr ns) (.int i) st = opt ((atI ns i).map .int) st := rfl
theorem v_ixs {z : Str} {i : Int} (h : z.length ≤ 1000000) : vIx (.str z) (.int i) st = opt ((atI z.cps.toList i).map fun c => .str ⟨#[c]⟩) st := if_pos h
theorem opt_some {p : PV} : opt (some p) st = .ok p st := rfl
theorem v_lenl {xs : List PV} : vLen [.lst xs] st = .ok (.int xs.length) st := rfl
theorem v_lent {xs : List PV} : vLen [.tup xs] st = .ok (.int xs.length) st := rfl
theorem v_lenc {ns : List Int} : vLen [.scr ns] st = .ok (.int ns.length) st := rfl
theorem v_lens {z : Str} (h : z.length ≤ 1000000) : vLen [.str z] st = .ok (.int z.length) st := if_pos h
theorem v_adds {a b : Str} (h : a.length + b.length ≤ 1000000) : vAdd (.str a) (.str b) st = .ok (.str (a ++ b)) st := if_pos h
theorem v_addt {xs ys : List PV} (h : xs.length + ys.length ≤ 1000000) : vAdd (.tup xs) (.tup ys) st = .ok (.tup (xs ++ ys)) st := if_pos h
theorem v_addl {xs ys : List PV} (h : xs.length + ys.length ≤ 1000000) : vAdd (.lst xs) (.lst ys) st = .ok (.lst (xs ++ ys)) st := if_pos h
theorem v_muls {a : Str} {j : Int} (h : 1 ≤ j ∧ j ≤ 1000 ∧ a.length ≤ 1000) : vMul (.str a) (.int j) st = .ok (.str (repS a j.toNat)) st := if_pos h
theorem v_sls {z : Str} {lo hi : Option Int} (h : z.length ≤ 1000000) : vSl (.str z) lo hi st = .ok (.str (cutS z lo hi)) st := if_pos h
theorem v_slt {xs : List PV} {lo hi : Option Int} : vSl (.tup xs) lo hi st = .ok (.tup (cutP xs lo hi)) st := rfl
theorem v_sll {xs : List PV} {lo hi : Option Int} : vSl (.lst xs) lo hi st = .ok (.lst (cutP xs lo hi)) st := rfl
theorem v_tupt {xs : List PV} : vTuple [.tup xs] st = .ok (.tup xs) st := rfl
theorem v_tupl {xs : List PV} : vTuple [.lst xs] st = .ok (.tup xs) st := rfl
theorem v_intb {b : Bool} : vInt [.bl b] st = .ok (.int (if b then 1 else 0)) st := rfl
theorem v_inti {b : Int} : vInt [.int b] st = .ok (.int b) st := rfl
theorem v_max {i j : Int} : vMax [.int i, .int j] st = .ok (.int (if j > i then j else i)) st := rfl
theorem v_isn {p : PV} : vIsN false p .non st = .ok (.bl (isNon p)) st := rfl
theorem v_isnn {p : PV} : vIsN true p .non st = .ok (.bl (!isNon p)) st := rfl
theorem at_0 {γ : Type} {x : γ} {xs : List γ} : atI (x :: xs) 0 = some x := by
  have := atI_nat (xs := x :: xs) (j := 0) (v := x) rfl
  exact this
theorem at_1 {γ : Type} {x y : γ} {xs : List γ} : atI (x :: y :: xs) 1 = some y := by
  have := atI_nat (xs := x :: y :: xs) (j := 1) (v := y) rfl
  exact this
theorem at_2 {γ : Type} {x y z : γ} {xs : List γ} : atI (x :: y :: z :: xs) 2 = some z := by
  have := atI_nat (xs := x :: y :: z :: xs) (j := 2) (v := z) rfl
  exact this
theorem at_3 {γ : Type} {x y z w : γ} {xs : List γ} : atI (x :: y :: z :: w :: xs) 3 = some w := by
  have := atI_nat (xs := x :: y :: z :: w :: xs) (j := 3) (v := w) rfl
  exact this
/-- at a place within -/
theorem at_in {γ : Type} {xs : List γ} {i : Int} (h0 : 0 ≤ i) (h1 : i < xs.length) : atI xs i = some (xs[i.toNat]'(by omega)) := by
  have e : i = ((i.toNat : Nat) : Int) := by omega
  have h := atI_nat (xs := xs) (j := i.toNat) (v := xs[i.toNat]'(by omega)) (List.getElem?_eq_getElem (by omega))
  rw [← e] at h
  exact h

theorem mkt0 : mkTup [] st = .ok (.tup []) st := if_pos (by decide)
theorem mkl0 : mkLst [] st = .ok (.lst []) st := if_pos (by decide)
theorem mkt1 {x0 : PV} : mkTup [x0] st = .ok (.tup [x0]) st := if_pos (show 1 ≤ 1000000 by decide)
theorem mkl1 {x0 : PV} : mkLst [x0] st = .ok (.lst [x0]) st := if_pos (show 1 ≤ 1000000 by decide)
theorem mkt2 {x0 x1 : PV} : mkTup [x0, x1] st = .ok (.tup [x0, x1]) st := if_pos (show 2 ≤ 1000000 by decide)
theorem mkl2 {x0 x1 : PV} : mkLst [x0, x1] st = .ok (.lst [x0, x1]) st := if_pos (show 2 ≤ 1000000 by decide)
theorem mkt3 {x0 x1 x2 : PV} : mkTup [x0, x1, x2] st = .ok (.tup [x0, x1, x2]) st := if_pos (show 3 ≤ 1000000 by decide)
theorem mkl3 {x0 x1 x2 : PV} : mkLst [x0, x1, x2] st = .ok (.lst [x0, x1, x2]) st := if_pos (show 3 ≤ 1000000 by decide)
theorem mkt4 {x0 x1 x2 x3 : PV} : mkTup [x0, x1, x2, x3] st = .ok (.tup [x0, x1, x2, x3]) st := if_pos (show 4 ≤ 1000000 by decide)
theorem mkl4 {x0 x1 x2 x3 : PV} : mkLst [x0, x1, x2, x3] st = .ok (.lst [x0, x1, x2, x3]) st := if_pos (show 4 ≤ 1000000 by decide)
theorem mkt5 {x0 x1 x2 x3 x4 : PV} : mkTup [x0, x1, x2, x3, x4] st = .ok (.tup [x0, x1, x2, x3, x4]) st := if_pos (show 5 ≤ 1000000 by decide)
theorem mkl5 {x0 x1 x2 x3 x4 : PV} : mkLst [x0, x1, x2, x3, x4] st = .ok (.lst [x0, x1, x2, x3, x4]) st := if_pos (show 5 ≤ 1000000 by decide)
theorem mkt6 {x0 x1 x2 x3 x4 x5 : PV} : mkTup [x0, x1, x2, x3, x4, x5] st = .ok (.tup [x0, x1, x2, x3, x4, x5]) st := if_pos (show 6 ≤ 1000000 by decide)
theorem mkl6 {x0 x1 x2 x3 x4 x5 : PV} : mkLst [x0, x1, x2, x3, x4, x5] st = .ok (.lst [x0, x1, x2, x3, x4, x5]) st := if_pos (show 6 ≤ 1000000 by decide)
theorem mkt7 {x0 x1 x2 x3 x4 x5 x6 : PV} : mkTup [x0, x1, x2, x3, x4, x5, x6] st = .ok (.tup [x0, x1, x2, x3, x4, x5, x6]) st := if_pos (show 7 ≤ 1000000 by decide)
theorem mkl7 {x0 x1 x2 x3 x4 x5 x6 : PV} : mkLst [x0, x1, x2, x3, x4, x5, x6] st = .ok (.lst [x0, x1, x2, x3, x4, x5, x6]) st := if_pos (show 7 ≤ 1000000 by decide)
theorem v_il0 {x0 : PV} {xs : List PV} : vIx (.lst (x0 :: xs)) (.int 0) st = .ok x0 st := by
  show opt (atI (x0 :: xs) 0) st = _
  rw [show (0 : Int) = ((0 : Nat) : Int) from rfl, atI_nat (v := x0) rfl]; exact Eq.trans rfl rfl
theorem v_it0 {x0 : PV} {xs : List PV} : vIx (.tup (x0 :: xs)) (.int 0) st = .ok x0 st := by
  show opt (atI (x0 :: xs) 0) st = _
  rw [show (0 : Int) = ((0 : Nat) : Int) from rfl, atI_nat (v := x0) rfl]; exact Eq.trans rfl rfl
theorem v_il1 {x0 x1 : PV} {xs : List PV} : vIx (.lst (x0 :: x1 :: xs)) (.int 1) st = .ok x1 st := by
  show opt (atI (x0 :: x1 :: xs) 1) st = _
  rw [show (1 : Int) = ((1 : Nat) : Int) from rfl, atI_nat (v := x1) rfl]; exact Eq.trans rfl rfl
theorem v_it1 {x0 x1 : PV} {xs : List PV} : vIx (.tup (x0 :: x1 :: xs)) (.int 1) st = .ok x1 st := by
  show opt (atI (x0 :: x1 :: xs) 1) st = _
  rw [show (1 : Int) = ((1 : Nat) : Int) from rfl, atI_nat (v := x1) rfl]; exact Eq.trans rfl rfl
theorem v_il2 {x0 x1 x2 : PV} {xs : List PV} : vIx (.lst (x0 :: x1 :: x2 :: xs)) (.int 2) st = .ok x2 st := by
  show opt (atI (x0 :: x1 :: x2 :: xs) 2) st = _
  rw [show (2 : Int) = ((2 : Nat) : Int) from rfl, atI_nat (v := x2) rfl]; exact Eq.trans rfl rfl
theorem v_it2 {x0 x1 x2 : PV} {xs : List PV} : vIx (.tup (x0 :: x1 :: x2 :: xs)) (.int 2) st = .ok x2 st := by
  show opt (atI (x0 :: x1 :: x2 :: xs) 2) st = _
  rw [show (2 : Int) = ((2 : Nat) : Int) from rfl, atI_nat (v := x2) rfl]; exact Eq.trans rfl rfl
theorem v_il3 {x0 x1 x2 x3 : PV} {xs : List PV} : vIx (.lst (x0 :: x1 :: x2 :: x3 :: xs)) (.int 3) st = .ok x3 st := by
  show opt (atI (x0 :: x1 :: x2 :: x3 :: xs) 3) st = _
  rw [show (3 : Int) = ((3 : Nat) : Int) from rfl, atI_nat (v := x3) rfl]; exact Eq.trans rfl rfl
theorem v_it3 {x0 x1 x2 x3 : PV} {xs : List PV} : vIx (.tup (x0 :: x1 :: x2 :: x3 :: xs)) (.int 3) st = .ok x3 st := by
  show opt (atI (x0 :: x1 :: x2 :: x3 :: xs) 3) st = _
  rw [show (3 : Int) = ((3 : Nat) : Int) from rfl, atI_nat (v := x3) rfl]; exact Eq.trans rfl rfl
theorem v_il4 {x0 x1 x2 x3 x4 : PV} {xs : List PV} : vIx (.lst (x0 :: x1 :: x2 :: x3 :: x4 :: xs)) (.int 4) st = .ok x4 st := by
  show opt (atI (x0 :: x1 :: x2 :: x3 :: x4 :: xs) 4) st = _
  rw [show (4 : Int) = ((4 : Nat) : Int) from rfl, atI_nat (v := x4) rfl]; exact Eq.trans rfl rfl
theorem v_it4 {x0 x1 x2 x3 x4 : PV} {xs : List PV} : vIx (.tup (x0 :: x1 :: x2 :: x3 :: x4 :: xs)) (.int 4) st = .ok x4 st := by
  show opt (atI (x0 :: x1 :: x2 :: x3 :: x4 :: xs) 4) st = _
  rw [show (4 : Int) = ((4 : Nat) : Int) from rfl, atI_nat (v := x4) rfl]; exact Eq.trans rfl rfl
theorem v_il5 {x0 x1 x2 x3 x4 x5 : PV} {xs : List PV} : vIx (.lst (x0 :: x1 :: x2 :: x3 :: x4 :: x5 :: xs)) (.int 5) st = .ok x5 st := by
  show opt (atI (x0 :: x1 :: x2 :: x3 :: x4 :: x5 :: xs) 5) st = _
  rw [show (5 : Int) = ((5 : Nat) : Int) from rfl, atI_nat (v := x5) rfl]; exact Eq.trans rfl rfl
theorem v_it5 {x0 x1 x2 x3 x4 x5 : PV} {xs : List PV} : vIx (.tup (x0 :: x1 :: x2 :: x3 :: x4 :: x5 :: xs)) (.int 5) st = .ok x5 st := by
  show opt (atI (x0 :: x1 :: x2 :: x3 :: x4 :: x5 :: xs) 5) st = _
  rw [show (5 : Int) = ((5 : Nat) : Int) from rfl, atI_nat (v := x5) rfl]; exact Eq.trans rfl rfl
/-! the end of a def -/
theorem end_rt {fr : Bool} {k : Nat} {p : PV} : endI fr k (.rt p st) = if (fr && oldLoc k p) = true then .bad else .ok (freeze st k p) (st.take k) := rfl
theorem end_nx {fr : Bool} {k : Nat} : endI fr k (.nx env st) = .ok .non (st.take k) := rfl
theorem call_np {d : FnD} {T : Tbl} {args : List PV} (h : args.length = d.np) : callI d T args st = endI d.fr st.length (d.body T (args.map some ++ List.replicate (d.ns - d.np) none) st) := if_pos h
mutual
theorem freeze_pure {s : VSt} {k : Nat} : ∀ p : PV, pureP p = true → freeze s k p = p
  | .non, _ => rfl
  | .bl _, _ => rfl
  | .int _, _ => rfl
  | .str _, _ => rfl
  | .tup xs, h => by
    show PV.tup (freezes s k xs) = _
    rw [freezes_pure xs h]
  | .lst _, h => by cases h
  | .dct _ _, h => by cases h
  | .sset _, h => by cases h
  | .scr _, h => by cases h
  | .loc _, h => by cases h
theorem freezes_pure {s : VSt} {k : Nat} : ∀ ps : List PV, pures ps = true → freezes s k ps = ps
  | [], _ => rfl
  | p :: ps, h => by
    unfold pures at h
    rw [Bool.and_eq_true] at h
    show freeze s k p :: freezes s k ps = _
    rw [freeze_pure p h.1, freezes_pure ps h.2]
end
theorem fz_lst {s : VSt} {k : Nat} {ps : List PV} (h : pures ps = true) : freeze s k (.lst ps) = .lst ps := by
  show PV.lst (freezes s k ps) = _
  rw [freezes_pure ps h]
theorem fz_int {s : VSt} {k : Nat} {i : Int} : freeze s k (.int i) = .int i := rfl
theorem fz_str {s : VSt} {k : Nat} {i : Str} : freeze s k (.str i) = .str i := rfl
theorem fz_bl {s : VSt} {k : Nat} {i : Bool} : freeze s k (.bl i) = .bl i := rfl
theorem fz_non {s : VSt} {k : Nat} : freeze s k .non = .non := rfl
theorem fz_loc {s : VSt} {p : PV} : freeze (s ++ [p]) s.length (.loc s.length) = p := by
  unfold freeze
  rw [if_neg (Nat.lt_irrefl _), List.getD_eq_getElem?_getD, List.getElem?_append_right (Nat.le_refl _)]
  simp
theorem ol_loc {k n : Nat} : oldLoc k (.loc n) = decide (n < k) := rfl
theorem pures_strs (xs : List Str) : pures (xs.map PV.str) = true := by
  induction xs with
  | nil => rfl
  | cons x xs ih => simp [pures, pureP, ih]
theorem take_app {s : VSt} {r : VSt} : (s ++ r).take s.length = s := by simp
/-! loops over what doesn't change -/
def forL (B : PV → VEnv → VSt → SR) : List PV → VEnv → VSt → SR
  | [], env, st => .nx env st
  | x :: r, env, st => match B x env st with
    | .nx e s => forL B r e s
    | .ct e s => forL B r e s
    | .bk e s => .nx e s
    | .rt p s => .rt p s
    | .bad => .bad
theorem forP_const {j : IT} {xs : List PV} (h : ∀ s, Itm j s = some xs) {B : PV → VEnv → VSt → SR} : ∀ (m : Nat), m ≤ xs.length → ∀ (e : VEnv) (s : VSt), forP j xs.length B m e s = forL B (xs.drop (xs.length - m)) e s
  | 0, _, e, s => by
    unfold forP
    rw [h]
    simp [forL]
  | m + 1, hm, e, s => by
    unfold forP
    rw [h]
    have hi : xs.length - (m + 1) < xs.length := by omega
    simp only [if_true]
    rw [List.getElem?_eq_getElem hi, List.drop_eq_getElem_cons hi]
    have e1 : xs.length - (m + 1) + 1 = xs.length - m := by omega
    rw [e1]
    show (match B xs[xs.length - (m + 1)] e s with
      | .nx e s => forP j xs.length B m e s
      | .ct e s => forP j xs.length B m e s
      | .bk e s => .nx e s
      | .rt p s => .rt p s
      | .bad => .bad) = forL B (xs[xs.length - (m + 1)] :: xs.drop (xs.length - m)) e s
    unfold forL
    cases B xs[xs.length - (m + 1)] e s with
    | nx e2 s2 => exact forP_const h m (by omega) e2 s2
    | ct e2 s2 => exact forP_const h m (by omega) e2 s2
    | _ => rfl
theorem for_lst {a : EM} {g : GM} {body : SM} {xs : List PV} (h : a env st = .ok (.lst xs) st') : sFor (iSeq a) g body env st = forL (bodyP g body) xs env st' := by
  unfold sFor iSeq
  rw [h]
  show forP (.seq (.lst xs)) xs.length (bodyP g body) xs.length env st' = _
  rw [forP_const (j := .seq (.lst xs)) (fun s => rfl) xs.length (Nat.le_refl _)]
  simp
theorem for_tup {a : EM} {g : GM} {body : SM} {xs : List PV} (h : a env st = .ok (.tup xs) st') : sFor (iSeq a) g body env st = forL (bodyP g body) xs env st' := by
  unfold sFor iSeq
  rw [h]
  show forP (.seq (.tup xs)) xs.length (bodyP g body) xs.length env st' = _
  rw [forP_const (j := .seq (.tup xs)) (fun s => rfl) xs.length (Nat.le_refl _)]
  simp
theorem for_rng {a : EM} {g : GM} {body : SM} {i : Int} (h : a env st = .ok (.int i) st') (h2 : i < 2 ^ 62) (h1 : -(2 ^ 62) ≤ i) : sFor (iRng1' a) g body env st = forL (bodyP g body) ((List.range i.toNat).map fun (k : Nat) => .int (0 + (k : Int))) env st' := by
  unfold sFor iRng1'
  rw [h]
  have e : mkRng 0 i st' = .ok (.rng 0 i.toNat) st' := by
    unfold mkRng
    rw [if_pos (by omega), Int.sub_zero]
  show Res.s (mkRng 0 i st') _ = _
  rw [e]
  show forP (.rng 0 i.toNat) ((List.range i.toNat).map fun (k : Nat) => PV.int (0 + (k : Int))).length (bodyP g body) _ env st' = _
  rw [forP_const (j := .rng 0 i.toNat) (fun s => rfl) _ (Nat.le_refl _)]
  simp
/-- one turn -/
theorem forL_nil {B : PV → VEnv → VSt → SR} : forL B [] env st = .nx env st := rfl
theorem forL_cons {B : PV → VEnv → VSt → SR} {x : PV} {r : List PV} : forL B (x :: r) env st = match B x env st with
    | .nx e s => forL B r e s
    | .ct e s => forL B r e s
    | .bk e s => .nx e s
    | .rt p s => .rt p s
    | .bad => .bad := rfl
theorem x_body {g : GM} {body : SM} {x : PV} : bodyP g body x env st = match g x env with
  | some e' => body e' st
  | none => .bad := rfl
/-! comprehensions over what doesn't change -/
def compL (f : PV → VSt → Res (Option PV)) : List PV → List PV → VSt → Res (List PV)
  | [], acc, st => .ok acc st
  | x :: r, acc, st => if acc.length < 1000000 then (f x st).bind fun o s => compL f r (match o with
      | some y => acc ++ [y]
      | none => acc) s else .bad
theorem compP_const {j : IT} {xs : List PV} (h : ∀ s, Itm j s = some xs) {f : PV → VSt → Res (Option PV)} : ∀ (m : Nat), m ≤ xs.length → ∀ (acc : List PV) (s : VSt), compP j xs.length f m acc s = compL f (xs.drop (xs.length - m)) acc s
  | 0, _, acc, s => by
    unfold compP
    rw [h]
    simp [compL]
  | m + 1, hm, acc, s => by
    unfold compP
    rw [h]
    have hi : xs.length - (m + 1) < xs.length := by omega
    simp only [true_and]
    rw [List.getElem?_eq_getElem hi, List.drop_eq_getElem_cons hi]
    have e1 : xs.length - (m + 1) + 1 = xs.length - m := by omega
    rw [e1]
    unfold compL
    split
    · show (f xs[xs.length - (m + 1)] s).bind (fun o s => compP j xs.length f m (match o with
        | some y => acc ++ [y]
        | none => acc) s) = _
      cases f xs[xs.length - (m + 1)] s with
      | bad => rfl
      | ok o s2 => exact compP_const h m (by omega) _ s2
    · rfl
/-- a comprehension whose element and test have values -/
theorem compL_map {f : PV → VSt → Res (Option PV)} {g : PV → Option PV} : ∀ (xs acc : List PV) (s : VSt), (∀ x ∈ xs, f x s = .ok (g x) s) → acc.length + xs.length ≤ 1000000 → compL f xs acc s = .ok (acc ++ xs.filterMap g) s
  | [], acc, s, _, _ => by simp [compL]
  | x :: xs, acc, s, h, hl => by
    rw [List.length_cons] at hl
    unfold compL
    rw [if_pos (by omega), h x List.mem_cons_self, bind_ok]
    cases e : g x with
    | none => rw [compL_map xs acc s (fun y hy => h y (List.mem_cons_of_mem _ hy)) (by omega), List.filterMap_cons_none e]
    | some y => rw [compL_map xs (acc ++ [y]) s (fun y hy => h y (List.mem_cons_of_mem _ hy)) (by rw [List.length_append]; simp; omega), List.filterMap_cons_some e]; simp
theorem comp_const {it : IM} {g : GM} {t el : EM} {vs : List Nat} {j : IT} {xs : List PV} (hi : it env st = .ok j st') (h : ∀ s, Itm j s = some xs) : eComp it g t el vs env st = (compL (compF g t el vs env) xs [] st').bind fun ys s => .ok (.lst ys) s := by
  unfold eComp
  rw [hi, bind_ok]
  simp only [h]
  rw [compP_const h xs.length (Nat.le_refl _)]
  simp
theorem i_lst {a : EM} {xs : List PV} (h : a env st = .ok (.lst xs) st') : iSeq a env st = .ok (.seq (.lst xs)) st' := by unfold iSeq; rw [h]; rfl
theorem i_tup {a : EM} {xs : List PV} (h : a env st = .ok (.tup xs) st') : iSeq a env st = .ok (.seq (.tup xs)) st' := by unfold iSeq; rw [h]; rfl
theorem i_rng {a : EM} {i : Int} (h : a env st = .ok (.int i) st') (h2 : i < 2 ^ 62) (h1 : -(2 ^ 62) ≤ i) : iRng1' a env st = .ok (.rng 0 i.toNat) st' := by
  unfold iRng1'
  rw [h]
  show mkRng 0 i st' = _
  unfold mkRng
  rw [if_pos (by omega), Int.sub_zero]
theorem compF_yes {g : GM} {t el : EM} {vs : List Nat} {x : PV} {e : VEnv} (h : g x (wipeE env vs) = some e) : compF g tTrue el vs env x st = (el e st).bind fun y s3 => .ok (some y) s3 := by
  unfold compF
  rw [h]; rfl

theorem wipe1 {env : VEnv} {i : Nat} {x : PV} : gName i x (wipeE env [i]) = some (env.set i (some x)) := by
  show some ((env.set i none).set i (some x)) = _
  rw [List.set_set]
theorem comp_gen {it : IM} {t el : EM} {i : Nat} {j : IT} {xs : List PV} {p : PV → Bool} {f : PV → PV} (hi : it env st = .ok j st) (hj : ∀ s, Itm j s = some xs) (hl : xs.length ≤ 1000000) (ht : ∀ x ∈ xs, t (env.set i (some x)) st = .ok (.bl (p x)) st) (h : ∀ x ∈ xs, p x = true → el (env.set i (some x)) st = .ok (f x) st) :
    eComp it (gName i) t el [i] env st = .ok (.lst ((xs.filter p).map f)) st := by
  rw [comp_const hi hj, compL_map (g := fun x => if p x = true then some (f x) else none) xs [] st (fun x hx => ?_) (by simpa using hl), bind_ok]
  · congr 2
    show [] ++ xs.filterMap _ = _
    rw [List.nil_append]
    clear hj hl ht h
    induction xs with
    | nil => rfl
    | cons x xs ih =>
      by_cases e : p x = true
      · rw [List.filterMap_cons_some (b := f x) (by simp [e]), ih, List.filter_cons_of_pos e, List.map_cons]
      · rw [List.filterMap_cons_none (by simp [e]), ih, List.filter_cons_of_neg e]
  · unfold compF
    rw [wipe1]
    show Res.bind (t (env.set i (some x)) st) _ = _
    rw [ht x hx, bind_ok, onB_bl]
    by_cases e : p x = true
    · rw [if_pos e, h x hx e, bind_ok, if_pos e]
    · rw [if_neg e, if_neg e]
theorem comp_all {it : IM} {el : EM} {i : Nat} {j : IT} {xs : List PV} {f : PV → PV} (hi : it env st = .ok j st) (hj : ∀ s, Itm j s = some xs) (hl : xs.length ≤ 1000000) (h : ∀ x ∈ xs, el (env.set i (some x)) st = .ok (f x) st) :
    eComp it (gName i) tTrue el [i] env st = .ok (.lst (xs.map f)) st := by
  rw [comp_gen (p := fun _ => true) (f := f) hi hj hl (fun _ _ => rfl) (fun x hx _ => h x hx), List.filter_eq_self.mpr (by simp)]
theorem comp_rng {a el : EM} {i : Nat} {m : Int} {f : Nat → PV} (ha : a env st = .ok (.int m) st) (h0 : 0 ≤ m) (h1 : m ≤ 1000000) (h : ∀ k : Nat, (k : Int) < m → el (env.set i (some (.int (k : Int)))) st = .ok (f k) st) :
    eComp (iRng1' a) (gName i) tTrue el [i] env st = .ok (.lst ((List.range m.toNat).map f)) st := by
  have hh : ∀ k : Nat, k < m.toNat → el (env.set i (some (.int (k : Int)))) st = .ok (f k) st := fun k hk => h k (by omega)
  rw [comp_all (j := .rng 0 m.toNat) (f := fun x => match x with
    | .int k => f k.toNat
    | _ => .non) (i_rng ha (by omega) (by omega)) (fun s => rfl) (by simp; omega) (fun x hx => ?_)]
  · rw [List.map_map]
    congr 3
    funext k
    show f ((0 + (k : Int)).toNat) = f k
    congr 1
    omega
  · obtain ⟨k, hk, rfl⟩ := List.mem_map.mp hx
    rw [List.mem_range] at hk
    have e : (0 + (k : Int)) = (k : Int) := Int.zero_add _
    rw [e]
    rw [hh k hk]
    rfl
end
end Vm

namespace Lk
open PySem PySem.Spec PyProof.Rows L2 Vm
/-! the text by places -/
def topS (i : Nat) : Stmt := PySem.Challenge.pw_safeturn_k01_terms.main.body.getD i (.Pass ⟨0, 0, 0, 0⟩)
def nm : Nat → Str
  | 0 => "names_in"
  | 1 => "_note_names"
  | 2 => "worth"
  | 3 => "_law_cell"
  | 4 => "_law_mixed"
  | 5 => "_law_words"
  | 6 => "_law_term"
  | 7 => "_law_names"
  | 8 => "_law_worth"
  | 9 => "_law_numbers"
  | 10 => "_law_once"
  | 11 => "_law_told"
  | 12 => "law"
  | _ => "?"
def frs : Nat → Bool
  | 0 => true
  | _ => false
abbrev pr : Prg := ⟨nm, frs, 13⟩
abbrev i_names_in : Nat := 0
abbrev i__note_names : Nat := 1
abbrev i_worth : Nat := 2
abbrev i__law_cell : Nat := 3
abbrev i__law_mixed : Nat := 4
abbrev i__law_words : Nat := 5
abbrev i__law_term : Nat := 6
abbrev i__law_names : Nat := 7
abbrev i__law_worth : Nat := 8
abbrev i__law_numbers : Nat := 9
abbrev i__law_once : Nat := 10
abbrev i__law_told : Nat := 11
abbrev i_law : Nat := 12
abbrev bs : List Str := ["bool", "dict", "int", "isinstance", "len", "list", "range", "str"]
abbrev cs : List (Str × Int) := [("RESTS_OF", 1000003)]
/-! names_in -/
abbrev s_names_in : Stmt := topS 2
abbrev N_names_in : List Str := ["term", "found"]
def b_names_in (T : Tbl) : SM :=
      (sCons (sSet 1 (eBox (fun _ st => .ok (.dct [] []) st)))
      (sCons (sExpr (eApp (T i__note_names) (aCons (eVar 0) (aCons (eVar 1) aNil))))
      (sCons (sRet (eApp vListA (aCons (eVar 1) aNil)))
      sNil)))
abbrev d_names_in : FnD := ⟨1, 2, true, b_names_in⟩
theorem sc_names_in : FnScope N_names_in ["term"] (defScope s_names_in) := ⟨rfl, rfl, rfl, by decide +kernel, rfl, by decide +kernel, by decide +kernel⟩
theorem ok_names_in {P : Program} {w : World} {K : PySem.W.Frag} {mg : Str → Option Value} {base : Heap} {f : Addr} {fd : FuncData} {n : Nat} {T : Tbl} (F : Fun K "names_in" "names_in" s_names_in f fd) (hB : ∀ x ∈ bs, mg x = none) (hC : ∀ p ∈ cs, ∃ u, mg p.1 = some u ∧ RelV (.int p.2) u)
    (hF : FnAt P w K mg base pr T n) : FnOk P w K mg base CX0 (n + 1) f fd ["term"] (spI P w K (pr.fr 0) (callI d_names_in T)) :=
  fn_ok F sc_names_in rfl rfl fun cdv A outer s H E hr => by
    have c : Cok (cxOf CX0 P w K mg base N_names_in "names_in" (defScope s_names_in) f cdv A outer s H E).nox pr T n bs cs := ⟨rfl, sc_names_in.nd, hr, hF, hB, hC⟩
    show EvSs _ _ _ (b_names_in T)
    unfold b_names_in
    exact (evss_cons (evs_set c.nd (ev_box ev_dnew))
      (evss_cons (evs_expr (ev_call c i__note_names (eva_cons (ev_var 0) (eva_cons (ev_var 1) eva_nil))))
      (evss_cons (evs_ret (ev_callTy (call_listA c.calm) cs_listA (c.blt "list" (List.mem_of_getElem? (i := 5) rfl)) boot_list (eva_cons (ev_var 1) eva_nil)))
      evss_nil)))

/-! _note_names -/
abbrev s__note_names : Stmt := topS 3
abbrev N__note_names : List Str := ["term", "found", "kind"]
def b__note_names (T : Tbl) : SM :=
      (sCons (sSet 2 (eBin vIx (eVar 0) (eC (.int 0))))
      (sCons (sIf (eBin (vEqF false) (eVar 2) (eC (.str "name")))
      (sCons (sPut (eVar 1) (eBin vIx (eVar 0) (eC (.int 1))) (eC (.bl true)))
      sNil)
      (sCons (sIf (eBin (vEqF true) (eVar 2) (eC (.str "num")))
      (sCons (sExpr (eApp (T i__note_names) (aCons (eBin vIx (eVar 0) (eC (.int 1))) (aCons (eVar 1) aNil))))
      (sCons (sExpr (eApp (T i__note_names) (aCons (eBin vIx (eVar 0) (eC (.int 2))) (aCons (eVar 1) aNil))))
      sNil))
      sNil)
      sNil))
      sNil))
abbrev d__note_names : FnD := ⟨2, 3, false, b__note_names⟩
theorem sc__note_names : FnScope N__note_names ["term", "found"] (defScope s__note_names) := ⟨rfl, rfl, rfl, by decide +kernel, rfl, by decide +kernel, by decide +kernel⟩
theorem ok__note_names {P : Program} {w : World} {K : PySem.W.Frag} {mg : Str → Option Value} {base : Heap} {f : Addr} {fd : FuncData} {n : Nat} {T : Tbl} (F : Fun K "_note_names" "_note_names" s__note_names f fd) (hB : ∀ x ∈ bs, mg x = none) (hC : ∀ p ∈ cs, ∃ u, mg p.1 = some u ∧ RelV (.int p.2) u)
    (hF : FnAt P w K mg base pr T n) : FnOk P w K mg base CX0 (n + 1) f fd ["term", "found"] (spI P w K (pr.fr 1) (callI d__note_names T)) :=
  fn_ok F sc__note_names rfl rfl fun cdv A outer s H E hr => by
    have c : Cok (cxOf CX0 P w K mg base N__note_names "_note_names" (defScope s__note_names) f cdv A outer s H E).nox pr T n bs cs := ⟨rfl, sc__note_names.nd, hr, hF, hB, hC⟩
    show EvSs _ _ _ (b__note_names T)
    unfold b__note_names
    exact (evss_cons (evs_set c.nd (ev_ix (ix_4 c.u) os_ix (ev_var 0) ev_int))
      (evss_cons (evs_if (evt_cmp (op_eq3 c.u) (OpSem.weak os_eq) (ev_var 2) ev_str)
      (evss_cons (evs_put c.u (ev_var 1) (ev_ix (ix_4 c.u) os_ix (ev_var 0) ev_int) ev_bl)
      evss_nil)
      (evss_cons (evs_if (evt_cmp (op_ne3 c.u) (OpSem.weak os_eq) (ev_var 2) ev_str)
      (evss_cons (evs_expr (ev_call c i__note_names (eva_cons (ev_ix (ix_4 c.u) os_ix (ev_var 0) ev_int) (eva_cons (ev_var 1) eva_nil))))
      (evss_cons (evs_expr (ev_call c i__note_names (eva_cons (ev_ix (ix_4 c.u) os_ix (ev_var 0) ev_int) (eva_cons (ev_var 1) eva_nil))))
      evss_nil))
      evss_nil)
      evss_nil))
      evss_nil))

/-! worth -/
abbrev s_worth : Stmt := topS 4
abbrev N_worth : List Str := ["term", "cells", "kind", "one", "other"]
def b_worth (T : Tbl) : SM :=
      (sCons (sSet 2 (eBin vIx (eVar 0) (eC (.int 0))))
      (sCons (sIf (eBin (vEqF false) (eVar 2) (eC (.str "num")))
      (sCons (sRet (eBin vMod (eBin vIx (eVar 0) (eC (.int 1))) (eC (.int 1000003))))
      sNil)
      sNil)
      (sCons (sIf (eBin (vEqF false) (eVar 2) (eC (.str "name")))
      (sCons (sRet (eBin vMod (eGet (eVar 1) (eBin vIx (eVar 0) (eC (.int 1))) (eC (.int 0))) (eC (.int 1000003))))
      sNil)
      sNil)
      (sCons (sSet 3 (eApp (T i_worth) (aCons (eBin vIx (eVar 0) (eC (.int 1))) (aCons (eVar 1) aNil))))
      (sCons (sSet 4 (eApp (T i_worth) (aCons (eBin vIx (eVar 0) (eC (.int 2))) (aCons (eVar 1) aNil))))
      (sCons (sIf (eBin (vEqF false) (eVar 2) (eC (.str "sum")))
      (sCons (sRet (eBin vMod (eBin vAdd (eVar 3) (eVar 4)) (eC (.int 1000003))))
      sNil)
      sNil)
      (sCons (sIf (eBin (vEqF false) (eVar 2) (eC (.str "less")))
      (sCons (sRet (eBin vMod (eBin vSub (eVar 3) (eVar 4)) (eC (.int 1000003))))
      sNil)
      sNil)
      (sCons (sRet (eBin vMod (eBin vMul (eVar 3) (eVar 4)) (eC (.int 1000003))))
      sNil))))))))
abbrev d_worth : FnD := ⟨2, 5, false, b_worth⟩
theorem sc_worth : FnScope N_worth ["term", "cells"] (defScope s_worth) := ⟨rfl, rfl, rfl, by decide +kernel, rfl, by decide +kernel, by decide +kernel⟩
theorem ok_worth {P : Program} {w : World} {K : PySem.W.Frag} {mg : Str → Option Value} {base : Heap} {f : Addr} {fd : FuncData} {n : Nat} {T : Tbl} (F : Fun K "worth" "worth" s_worth f fd) (hB : ∀ x ∈ bs, mg x = none) (hC : ∀ p ∈ cs, ∃ u, mg p.1 = some u ∧ RelV (.int p.2) u)
    (hF : FnAt P w K mg base pr T n) : FnOk P w K mg base CX0 (n + 1) f fd ["term", "cells"] (spI P w K (pr.fr 2) (callI d_worth T)) :=
  fn_ok F sc_worth rfl rfl fun cdv A outer s H E hr => by
    have c : Cok (cxOf CX0 P w K mg base N_worth "worth" (defScope s_worth) f cdv A outer s H E).nox pr T n bs cs := ⟨rfl, sc_worth.nd, hr, hF, hB, hC⟩
    show EvSs _ _ _ (b_worth T)
    unfold b_worth
    exact (evss_cons (evs_set c.nd (ev_ix (ix_4 c.u) os_ix (ev_var 0) ev_int))
      (evss_cons (evs_if (evt_cmp (op_eq3 c.u) (OpSem.weak os_eq) (ev_var 2) ev_str)
      (evss_cons (evs_ret (Ev.weak (ev_op op_mod os_mod (ev_ix (ix_4 c.u) os_ix (ev_var 0) ev_int) (ev_const c (List.mem_of_getElem? (i := 0) rfl)))))
      evss_nil)
      evss_nil)
      (evss_cons (evs_if (evt_cmp (op_eq3 c.u) (OpSem.weak os_eq) (ev_var 2) ev_str)
      (evss_cons (evs_ret (Ev.weak (ev_op op_mod os_mod (ev_get c.u (ev_var 1) (ev_ix (ix_4 c.u) os_ix (ev_var 0) ev_int) ev_int) (ev_const c (List.mem_of_getElem? (i := 0) rfl)))))
      evss_nil)
      evss_nil)
      (evss_cons (evs_set c.nd (ev_call c i_worth (eva_cons (ev_ix (ix_4 c.u) os_ix (ev_var 0) ev_int) (eva_cons (ev_var 1) eva_nil))))
      (evss_cons (evs_set c.nd (ev_call c i_worth (eva_cons (ev_ix (ix_4 c.u) os_ix (ev_var 0) ev_int) (eva_cons (ev_var 1) eva_nil))))
      (evss_cons (evs_if (evt_cmp (op_eq3 c.u) (OpSem.weak os_eq) (ev_var 2) ev_str)
      (evss_cons (evs_ret (Ev.weak (ev_op op_mod os_mod (ev_op op_add4 os_add (ev_var 3) (ev_var 4)) (ev_const c (List.mem_of_getElem? (i := 0) rfl)))))
      evss_nil)
      evss_nil)
      (evss_cons (evs_if (evt_cmp (op_eq3 c.u) (OpSem.weak os_eq) (ev_var 2) ev_str)
      (evss_cons (evs_ret (Ev.weak (ev_op op_mod os_mod (ev_op op_sub os_sub (ev_var 3) (ev_var 4)) (ev_const c (List.mem_of_getElem? (i := 0) rfl)))))
      evss_nil)
      evss_nil)
      (evss_cons (evs_ret (Ev.weak (ev_op op_mod os_mod (ev_op op_mul2 os_mul (ev_var 3) (ev_var 4)) (ev_const c (List.mem_of_getElem? (i := 0) rfl)))))
      evss_nil))))))))

/-! _law_cell -/
abbrev s__law_cell : Stmt := topS 6
abbrev N__law_cell : List Str := ["_law_script", "_law_k", "_law_cell_here", "_law_mark"]
def b__law_cell (T : Tbl) : SM :=
      (sCons (sSet 2 (eIf (eBin vLt (eVar 1) (eApp vLen (aCons (eVar 0) aNil))) (eBin vIx (eVar 0) (eVar 1)) (eC (.int 0))))
      (sCons (sSet 3 (eBin vMod (eBin vMul (eBin vAdd (eBin vMod (eVar 2) (eC (.int 2147483629))) (eBin vMul (eC (.int 7919)) (eBin vAdd (eVar 1) (eC (.int 1))))) (eC (.int 48271))) (eC (.int 2147483647))))
      (sCons (sSet 3 (eBin vMod (eBin vMul (eBin vMod (eBin vMul (eVar 3) (eVar 3)) (eC (.int 2147483629))) (eC (.int 69621))) (eC (.int 2147483647))))
      (sCons (sRet (eBin vAdd (eBin vMul (eBin vAdd (eBin vMul (eBin vFdv (eVar 2) (eC (.int 2147483629))) (eC (.int 2147483647))) (eVar 3)) (eC (.int 2147483629))) (eBin vMod (eBin vMul (eVar 3) (eVar 3)) (eC (.int 2147483629)))))
      sNil))))
abbrev d__law_cell : FnD := ⟨2, 4, false, b__law_cell⟩
theorem sc__law_cell : FnScope N__law_cell ["_law_script", "_law_k"] (defScope s__law_cell) := ⟨rfl, rfl, rfl, by decide +kernel, rfl, by decide +kernel, by decide +kernel⟩
theorem ok__law_cell {P : Program} {w : World} {K : PySem.W.Frag} {mg : Str → Option Value} {base : Heap} {f : Addr} {fd : FuncData} {n : Nat} {T : Tbl} (F : Fun K "_law_cell" "_law_cell" s__law_cell f fd) (hB : ∀ x ∈ bs, mg x = none) (hC : ∀ p ∈ cs, ∃ u, mg p.1 = some u ∧ RelV (.int p.2) u)
    (hF : FnAt P w K mg base pr T n) : FnOk P w K mg base CX0 (n + 1) f fd ["_law_script", "_law_k"] (spI P w K (pr.fr 3) (callI d__law_cell T)) :=
  fn_ok F sc__law_cell rfl rfl fun cdv A outer s H E hr => by
    have c : Cok (cxOf CX0 P w K mg base N__law_cell "_law_cell" (defScope s__law_cell) f cdv A outer s H E).nox pr T n bs cs := ⟨rfl, sc__law_cell.nd, hr, hF, hB, hC⟩
    show EvSs _ _ _ (b__law_cell T)
    unfold b__law_cell
    exact (evss_cons (evs_set c.nd (ev_if (evt_cmp op_lt (OpSem.weak os_cmp) (ev_var 1) (ev_callB call_len2 cs_len (c.blt "len" (List.mem_of_getElem? (i := 4) rfl)) PySem.boot_len (eva_cons (ev_var 0) eva_nil))) (Ev.weak (ev_ix (ix_4 c.u) os_ix (ev_var 0) (ev_var 1))) (Ev.weak ev_int)))
      (evss_cons (evs_set c.nd (ev_op op_mod os_mod (ev_op op_mul2 os_mul (ev_op op_add4 os_add (ev_op op_mod os_mod (ev_var 2) ev_int) (ev_op op_mul2 os_mul ev_int (ev_op op_add4 os_add (ev_var 1) ev_int))) ev_int) ev_int))
      (evss_cons (evs_set c.nd (ev_op op_mod os_mod (ev_op op_mul2 os_mul (ev_op op_mod os_mod (ev_op op_mul2 os_mul (ev_var 3) (ev_var 3)) ev_int) ev_int) ev_int))
      (evss_cons (evs_ret (Ev.weak (ev_op op_add4 os_add (ev_op op_mul2 os_mul (ev_op op_add4 os_add (ev_op op_mul2 os_mul (ev_op op_fdivW os_fdv (ev_var 2) ev_int) ev_int) (ev_var 3)) ev_int) (ev_op op_mod os_mod (ev_op op_mul2 os_mul (ev_var 3) (ev_var 3)) ev_int))))
      evss_nil))))

/-! _law_mixed -/
abbrev s__law_mixed : Stmt := topS 7
abbrev N__law_mixed : List Str := ["_law_cell_here", "_law_k", "_law_mark"]
def b__law_mixed (T : Tbl) : SM :=
      (sCons (sSet 2 (eBin vMod (eBin vAdd (eBin vMul (eVar 0) (eC (.int 48271))) (eBin vMul (eBin vAdd (eVar 1) (eC (.int 1))) (eC (.int 1299721)))) (eC (.int 2147483647))))
      (sCons (sRet (eBin vMod (eBin vMul (eVar 2) (eBin vAdd (eBin vMod (eBin vFdv (eVar 2) (eC (.int 7))) (eC (.int 65536))) (eC (.int 3)))) (eC (.int 2147483647))))
      sNil))
abbrev d__law_mixed : FnD := ⟨2, 3, false, b__law_mixed⟩
theorem sc__law_mixed : FnScope N__law_mixed ["_law_cell_here", "_law_k"] (defScope s__law_mixed) := ⟨rfl, rfl, rfl, by decide +kernel, rfl, by decide +kernel, by decide +kernel⟩
theorem ok__law_mixed {P : Program} {w : World} {K : PySem.W.Frag} {mg : Str → Option Value} {base : Heap} {f : Addr} {fd : FuncData} {n : Nat} {T : Tbl} (F : Fun K "_law_mixed" "_law_mixed" s__law_mixed f fd) (hB : ∀ x ∈ bs, mg x = none) (hC : ∀ p ∈ cs, ∃ u, mg p.1 = some u ∧ RelV (.int p.2) u)
    (hF : FnAt P w K mg base pr T n) : FnOk P w K mg base CX0 (n + 1) f fd ["_law_cell_here", "_law_k"] (spI P w K (pr.fr 4) (callI d__law_mixed T)) :=
  fn_ok F sc__law_mixed rfl rfl fun cdv A outer s H E hr => by
    have c : Cok (cxOf CX0 P w K mg base N__law_mixed "_law_mixed" (defScope s__law_mixed) f cdv A outer s H E).nox pr T n bs cs := ⟨rfl, sc__law_mixed.nd, hr, hF, hB, hC⟩
    show EvSs _ _ _ (b__law_mixed T)
    unfold b__law_mixed
    exact (evss_cons (evs_set c.nd (ev_op op_mod os_mod (ev_op op_add4 os_add (ev_op op_mul2 os_mul (ev_var 0) ev_int) (ev_op op_mul2 os_mul (ev_op op_add4 os_add (ev_var 1) ev_int) ev_int)) ev_int))
      (evss_cons (evs_ret (Ev.weak (ev_op op_mod os_mod (ev_op op_mul2 os_mul (ev_var 2) (ev_op op_add4 os_add (ev_op op_mod os_mod (ev_op op_fdivW os_fdv (ev_var 2) ev_int) ev_int) ev_int)) ev_int)))
      evss_nil))

/-! _law_words -/
abbrev s__law_words : Stmt := topS 8
abbrev N__law_words : List Str := ["_law_cell_here", "_law_many", "_law_letters", "_law_base", "_law_at", "_law_k"]
def b__law_words (T : Tbl) : SM :=
      (sCons (sSet 2 (eC (.str "abcdefghijklmnopqrstuvwxyz")))
      (sCons (sSet 3 (eBin vMul (eBin vIx (eVar 2) (eBin vMod (eVar 0) (eC (.int 26)))) (eBin vAdd (eC (.int 1)) (eBin vMod (eBin vFdv (eVar 0) (eC (.int 26))) (eC (.int 8))))))
      (sCons (sSet 4 (eBin vMod (eBin vFdv (eVar 0) (eC (.int 208))) (eApp vLen (aCons (eVar 3) aNil))))
      (sCons (sIf (eBin (vEqF false) (eBin vMod (eBin vFdv (eVar 0) (eC (.int 1664))) (eC (.int 3))) (eC (.int 1)))
      (sCons (sRet (eComp (iRng1' (eVar 1)) (gName 5) tTrue (eBin vMul (eBin vIx (eVar 2) (eBin vMod (eVar 0) (eC (.int 26)))) (eBin vAdd (eC (.int 1)) (eVar 5))) [5]))
      sNil)
      sNil)
      (sCons (sRet (eComp (iRng1' (eVar 1)) (gName 5) tTrue (eBin vAdd (eBin vAdd (eSl (eVar 3) oNone (oSome (eVar 4))) (eBin vIx (eVar 2) (eBin vMod (eBin vAdd (eBin vFdv (eVar 0) (eC (.int 4992))) (eBin vMul (eC (.int 5)) (eVar 5))) (eC (.int 26))))) (eSl (eVar 3) (oSome (eBin vAdd (eVar 4) (eC (.int 1)))) oNone)) [5]))
      sNil)))))
abbrev d__law_words : FnD := ⟨2, 6, false, b__law_words⟩
theorem sc__law_words : FnScope N__law_words ["_law_cell_here", "_law_many"] (defScope s__law_words) := ⟨rfl, rfl, rfl, by decide +kernel, rfl, by decide +kernel, by decide +kernel⟩
theorem ok__law_words {P : Program} {w : World} {K : PySem.W.Frag} {mg : Str → Option Value} {base : Heap} {f : Addr} {fd : FuncData} {n : Nat} {T : Tbl} (F : Fun K "_law_words" "_law_words" s__law_words f fd) (hB : ∀ x ∈ bs, mg x = none) (hC : ∀ p ∈ cs, ∃ u, mg p.1 = some u ∧ RelV (.int p.2) u)
    (hF : FnAt P w K mg base pr T n) : FnOk P w K mg base CX0 (n + 1) f fd ["_law_cell_here", "_law_many"] (spI P w K (pr.fr 5) (callI d__law_words T)) :=
  fn_ok F sc__law_words rfl rfl fun cdv A outer s H E hr => by
    have c : Cok (cxOf CX0 P w K mg base N__law_words "_law_words" (defScope s__law_words) f cdv A outer s H E).nox pr T n bs cs := ⟨rfl, sc__law_words.nd, hr, hF, hB, hC⟩
    show EvSs _ _ _ (b__law_words T)
    unfold b__law_words
    exact (evss_cons (evs_set c.nd ev_str)
      (evss_cons (evs_set c.nd (ev_op op_mul2 os_mul (ev_ix (ix_4 c.u) os_ix (ev_var 2) (ev_op op_mod os_mod (ev_var 0) ev_int)) (ev_op op_add4 os_add ev_int (ev_op op_mod os_mod (ev_op op_fdivW os_fdv (ev_var 0) ev_int) ev_int))))
      (evss_cons (evs_set c.nd (ev_op op_mod os_mod (ev_op op_fdivW os_fdv (ev_var 0) ev_int) (ev_callB call_len2 cs_len (c.blt "len" (List.mem_of_getElem? (i := 4) rfl)) PySem.boot_len (eva_cons (ev_var 3) eva_nil))))
      (evss_cons (evs_if (evt_cmp (op_eq3 c.u) (OpSem.weak os_eq) (ev_op op_mod os_mod (ev_op op_fdivW os_fdv (ev_var 0) ev_int) ev_int) ev_int)
      (evss_cons (evs_ret (Ev.weak (ev_compC [("_law_k", 5)] c (evi_rng1 (ev_var 1) (c.blt "range" (List.mem_of_getElem? (i := 6) rfl))) (blkOk_by (own := [("_law_k", 5)]) (N := N__law_words) (sc := defScope s__law_words) (by decide +kernel)) (fun _ _ _ _ _ c => (evg_name c.nd)) (fun _ _ _ _ _ c => evts_nil) (fun _ _ _ _ _ c => (ev_op op_mul2 os_mul (ev_ix (ix_4 c.u) os_ix (ev_var 2) (ev_op op_mod os_mod (ev_var 0) ev_int)) (ev_op op_add4 os_add ev_int (ev_var 5)))))))
      evss_nil)
      evss_nil)
      (evss_cons (evs_ret (Ev.weak (ev_compC [("_law_k", 5)] c (evi_rng1 (ev_var 1) (c.blt "range" (List.mem_of_getElem? (i := 6) rfl))) (blkOk_by (own := [("_law_k", 5)]) (N := N__law_words) (sc := defScope s__law_words) (by decide +kernel)) (fun _ _ _ _ _ c => (evg_name c.nd)) (fun _ _ _ _ _ c => evts_nil) (fun _ _ _ _ _ c => (ev_op op_add4 os_add (ev_op op_add4 os_add (ev_sl (ev_var 3) evo_none (evo_some (ev_var 4))) (ev_ix (ix_4 c.u) os_ix (ev_var 2) (ev_op op_mod os_mod (ev_op op_add4 os_add (ev_op op_fdivW os_fdv (ev_var 0) ev_int) (ev_op op_mul2 os_mul ev_int (ev_var 5))) ev_int))) (ev_sl (ev_var 3) (evo_some (ev_op op_add4 os_add (ev_var 4) ev_int)) evo_none))))))
      evss_nil)))))

/-! _law_term -/
abbrev s__law_term : Stmt := topS 9
abbrev N__law_term : List Str := ["_law_cell_here", "_law_words_here", "_law_deep", "_law_kind", "_law_word"]
def b__law_term (T : Tbl) : SM :=
      (sCons (sSet 3 (eBin vMod (eVar 0) (eC (.int 6))))
      (sCons (sIf (eBin (vEqF false) (eVar 3) (eC (.int 0)))
      (sCons (sRet (eTup (aCons (eC (.str "num")) (aCons (eBin vMod (eBin vFdv (eVar 0) (eC (.int 6))) (eC (.int 3))) aNil))))
      sNil)
      sNil)
      (sCons (sIf (eBin (vEqF false) (eVar 3) (eC (.int 1)))
      (sCons (sRet (eTup (aCons (eC (.str "num")) (aCons (eBin vMod (eBin vFdv (eVar 0) (eC (.int 6))) (eC (.int 1000003))) aNil))))
      sNil)
      sNil)
      (sCons (sIf (eOr (eBin vLt (eVar 3) (eC (.int 4))) (eBin (vEqF false) (eVar 2) (eC (.int 0))))
      (sCons (sRet (eTup (aCons (eC (.str "name")) (aCons (eBin vIx (eVar 1) (eBin vMod (eBin vFdv (eVar 0) (eC (.int 6))) (eApp vLen (aCons (eVar 1) aNil)))) aNil))))
      sNil)
      sNil)
      (sCons (sSet 4 (eBin vIx (eLst (aCons (eC (.str "sum")) (aCons (eC (.str "less")) (aCons (eC (.str "times")) aNil)))) (eBin vMod (eBin vFdv (eVar 0) (eC (.int 6))) (eC (.int 3)))))
      (sCons (sRet (eTup (aCons (eVar 4) (aCons (eApp (T i__law_term) (aCons (eApp (T i__law_mixed) (aCons (eVar 0) (aCons (eC (.int 1)) aNil))) (aCons (eVar 1) (aCons (eBin vSub (eVar 2) (eC (.int 1))) aNil)))) (aCons (eApp (T i__law_term) (aCons (eApp (T i__law_mixed) (aCons (eVar 0) (aCons (eC (.int 2)) aNil))) (aCons (eVar 1) (aCons (eBin vSub (eVar 2) (eC (.int 1))) aNil)))) aNil)))))
      sNil))))))
abbrev d__law_term : FnD := ⟨3, 5, false, b__law_term⟩
theorem sc__law_term : FnScope N__law_term ["_law_cell_here", "_law_words_here", "_law_deep"] (defScope s__law_term) := ⟨rfl, rfl, rfl, by decide +kernel, rfl, by decide +kernel, by decide +kernel⟩
theorem ok__law_term {P : Program} {w : World} {K : PySem.W.Frag} {mg : Str → Option Value} {base : Heap} {f : Addr} {fd : FuncData} {n : Nat} {T : Tbl} (F : Fun K "_law_term" "_law_term" s__law_term f fd) (hB : ∀ x ∈ bs, mg x = none) (hC : ∀ p ∈ cs, ∃ u, mg p.1 = some u ∧ RelV (.int p.2) u)
    (hF : FnAt P w K mg base pr T n) : FnOk P w K mg base CX0 (n + 1) f fd ["_law_cell_here", "_law_words_here", "_law_deep"] (spI P w K (pr.fr 6) (callI d__law_term T)) :=
  fn_ok F sc__law_term rfl rfl fun cdv A outer s H E hr => by
    have c : Cok (cxOf CX0 P w K mg base N__law_term "_law_term" (defScope s__law_term) f cdv A outer s H E).nox pr T n bs cs := ⟨rfl, sc__law_term.nd, hr, hF, hB, hC⟩
    show EvSs _ _ _ (b__law_term T)
    unfold b__law_term
    exact (evss_cons (evs_set c.nd (ev_op op_mod os_mod (ev_var 0) ev_int))
      (evss_cons (evs_if (evt_cmp (op_eq3 c.u) (OpSem.weak os_eq) (ev_var 3) ev_int)
      (evss_cons (evs_ret (Ev.weak (ev_tup (eva_cons ev_str (eva_cons (ev_op op_mod os_mod (ev_op op_fdivW os_fdv (ev_var 0) ev_int) ev_int) eva_nil)))))
      evss_nil)
      evss_nil)
      (evss_cons (evs_if (evt_cmp (op_eq3 c.u) (OpSem.weak os_eq) (ev_var 3) ev_int)
      (evss_cons (evs_ret (Ev.weak (ev_tup (eva_cons ev_str (eva_cons (ev_op op_mod os_mod (ev_op op_fdivW os_fdv (ev_var 0) ev_int) ev_int) eva_nil)))))
      evss_nil)
      evss_nil)
      (evss_cons (evs_if (evw_pt (evw_or (evt_cmp op_lt (OpSem.weak os_cmp) (ev_var 3) ev_int) (evw_or1 (evt_cmp (op_eq3 c.u) (OpSem.weak os_eq) (ev_var 2) ev_int))))
      (evss_cons (evs_ret (Ev.weak (ev_tup (eva_cons ev_str (eva_cons (ev_ix (ix_4 c.u) os_ix (ev_var 1) (ev_op op_mod os_mod (ev_op op_fdivW os_fdv (ev_var 0) ev_int) (ev_callB call_len2 cs_len (c.blt "len" (List.mem_of_getElem? (i := 4) rfl)) PySem.boot_len (eva_cons (ev_var 1) eva_nil)))) eva_nil)))))
      evss_nil)
      evss_nil)
      (evss_cons (evs_set c.nd (ev_ix (ix_4 c.u) os_ix (ev_lst (eva_cons ev_str (eva_cons ev_str (eva_cons ev_str eva_nil)))) (ev_op op_mod os_mod (ev_op op_fdivW os_fdv (ev_var 0) ev_int) ev_int)))
      (evss_cons (evs_ret (Ev.weak (ev_tup (eva_cons (ev_var 4) (eva_cons (ev_call c i__law_term (eva_cons (ev_call c i__law_mixed (eva_cons (ev_var 0) (eva_cons ev_int eva_nil))) (eva_cons (ev_var 1) (eva_cons (ev_op op_sub os_sub (ev_var 2) ev_int) eva_nil)))) (eva_cons (ev_call c i__law_term (eva_cons (ev_call c i__law_mixed (eva_cons (ev_var 0) (eva_cons ev_int eva_nil))) (eva_cons (ev_var 1) (eva_cons (ev_op op_sub os_sub (ev_var 2) ev_int) eva_nil)))) eva_nil))))))
      evss_nil))))))

/-! _law_names -/
abbrev s__law_names : Stmt := topS 10
abbrev N__law_names : List Str := ["_law_term_here"]
def b__law_names (T : Tbl) : SM :=
      (sCons (sIf (eBin (vEqF false) (eBin vIx (eVar 0) (eC (.int 0))) (eC (.str "name")))
      (sCons (sRet (eLst (aCons (eBin vIx (eVar 0) (eC (.int 1))) aNil)))
      sNil)
      sNil)
      (sCons (sIf (eBin (vEqF false) (eBin vIx (eVar 0) (eC (.int 0))) (eC (.str "num")))
      (sCons (sRet (eLst aNil))
      sNil)
      sNil)
      (sCons (sRet (eBin vAdd (eApp (T i__law_names) (aCons (eBin vIx (eVar 0) (eC (.int 1))) aNil)) (eApp (T i__law_names) (aCons (eBin vIx (eVar 0) (eC (.int 2))) aNil))))
      sNil)))
abbrev d__law_names : FnD := ⟨1, 1, false, b__law_names⟩
theorem sc__law_names : FnScope N__law_names ["_law_term_here"] (defScope s__law_names) := ⟨rfl, rfl, rfl, by decide +kernel, rfl, by decide +kernel, by decide +kernel⟩
theorem ok__law_names {P : Program} {w : World} {K : PySem.W.Frag} {mg : Str → Option Value} {base : Heap} {f : Addr} {fd : FuncData} {n : Nat} {T : Tbl} (F : Fun K "_law_names" "_law_names" s__law_names f fd) (hB : ∀ x ∈ bs, mg x = none) (hC : ∀ p ∈ cs, ∃ u, mg p.1 = some u ∧ RelV (.int p.2) u)
    (hF : FnAt P w K mg base pr T n) : FnOk P w K mg base CX0 (n + 1) f fd ["_law_term_here"] (spI P w K (pr.fr 7) (callI d__law_names T)) :=
  fn_ok F sc__law_names rfl rfl fun cdv A outer s H E hr => by
    have c : Cok (cxOf CX0 P w K mg base N__law_names "_law_names" (defScope s__law_names) f cdv A outer s H E).nox pr T n bs cs := ⟨rfl, sc__law_names.nd, hr, hF, hB, hC⟩
    show EvSs _ _ _ (b__law_names T)
    unfold b__law_names
    exact (evss_cons (evs_if (evt_cmp (op_eq3 c.u) (OpSem.weak os_eq) (ev_ix (ix_4 c.u) os_ix (ev_var 0) ev_int) ev_str)
      (evss_cons (evs_ret (Ev.weak (ev_lst (eva_cons (ev_ix (ix_4 c.u) os_ix (ev_var 0) ev_int) eva_nil))))
      evss_nil)
      evss_nil)
      (evss_cons (evs_if (evt_cmp (op_eq3 c.u) (OpSem.weak os_eq) (ev_ix (ix_4 c.u) os_ix (ev_var 0) ev_int) ev_str)
      (evss_cons (evs_ret (Ev.weak (ev_lst eva_nil)))
      evss_nil)
      evss_nil)
      (evss_cons (evs_ret (Ev.weak (ev_op op_add4 os_add (ev_call c i__law_names (eva_cons (ev_ix (ix_4 c.u) os_ix (ev_var 0) ev_int) eva_nil)) (ev_call c i__law_names (eva_cons (ev_ix (ix_4 c.u) os_ix (ev_var 0) ev_int) eva_nil)))))
      evss_nil)))

/-! _law_worth -/
abbrev s__law_worth : Stmt := topS 11
abbrev N__law_worth : List Str := ["_law_term_here", "_law_cells", "_law_one", "_law_other"]
def b__law_worth (T : Tbl) : SM :=
      (sCons (sIf (eBin (vEqF false) (eBin vIx (eVar 0) (eC (.int 0))) (eC (.str "num")))
      (sCons (sRet (eBin vIx (eVar 0) (eC (.int 1))))
      sNil)
      sNil)
      (sCons (sIf (eBin (vEqF false) (eBin vIx (eVar 0) (eC (.int 0))) (eC (.str "name")))
      (sCons (sRet (eGet (eVar 1) (eBin vIx (eVar 0) (eC (.int 1))) (eC (.int 0))))
      sNil)
      sNil)
      (sCons (sSet 2 (eApp (T i__law_worth) (aCons (eBin vIx (eVar 0) (eC (.int 1))) (aCons (eVar 1) aNil))))
      (sCons (sSet 3 (eApp (T i__law_worth) (aCons (eBin vIx (eVar 0) (eC (.int 2))) (aCons (eVar 1) aNil))))
      (sCons (sIf (eBin (vEqF false) (eBin vIx (eVar 0) (eC (.int 0))) (eC (.str "less")))
      (sCons (sSet 3 (eUn vNeg (eVar 3)))
      sNil)
      sNil)
      (sCons (sIf (eBin (vEqF false) (eBin vIx (eVar 0) (eC (.int 0))) (eC (.str "times")))
      (sCons (sRet (eBin vMod (eBin vMul (eVar 2) (eVar 3)) (eC (.int 1000003))))
      sNil)
      sNil)
      (sCons (sRet (eBin vMod (eBin vAdd (eVar 2) (eVar 3)) (eC (.int 1000003))))
      sNil)))))))
abbrev d__law_worth : FnD := ⟨2, 4, false, b__law_worth⟩
theorem sc__law_worth : FnScope N__law_worth ["_law_term_here", "_law_cells"] (defScope s__law_worth) := ⟨rfl, rfl, rfl, by decide +kernel, rfl, by decide +kernel, by decide +kernel⟩
theorem ok__law_worth {P : Program} {w : World} {K : PySem.W.Frag} {mg : Str → Option Value} {base : Heap} {f : Addr} {fd : FuncData} {n : Nat} {T : Tbl} (F : Fun K "_law_worth" "_law_worth" s__law_worth f fd) (hB : ∀ x ∈ bs, mg x = none) (hC : ∀ p ∈ cs, ∃ u, mg p.1 = some u ∧ RelV (.int p.2) u)
    (hF : FnAt P w K mg base pr T n) : FnOk P w K mg base CX0 (n + 1) f fd ["_law_term_here", "_law_cells"] (spI P w K (pr.fr 8) (callI d__law_worth T)) :=
  fn_ok F sc__law_worth rfl rfl fun cdv A outer s H E hr => by
    have c : Cok (cxOf CX0 P w K mg base N__law_worth "_law_worth" (defScope s__law_worth) f cdv A outer s H E).nox pr T n bs cs := ⟨rfl, sc__law_worth.nd, hr, hF, hB, hC⟩
    show EvSs _ _ _ (b__law_worth T)
    unfold b__law_worth
    exact (evss_cons (evs_if (evt_cmp (op_eq3 c.u) (OpSem.weak os_eq) (ev_ix (ix_4 c.u) os_ix (ev_var 0) ev_int) ev_str)
      (evss_cons (evs_ret (Ev.weak (ev_ix (ix_4 c.u) os_ix (ev_var 0) ev_int)))
      evss_nil)
      evss_nil)
      (evss_cons (evs_if (evt_cmp (op_eq3 c.u) (OpSem.weak os_eq) (ev_ix (ix_4 c.u) os_ix (ev_var 0) ev_int) ev_str)
      (evss_cons (evs_ret (Ev.weak (ev_get c.u (ev_var 1) (ev_ix (ix_4 c.u) os_ix (ev_var 0) ev_int) ev_int)))
      evss_nil)
      evss_nil)
      (evss_cons (evs_set c.nd (ev_call c i__law_worth (eva_cons (ev_ix (ix_4 c.u) os_ix (ev_var 0) ev_int) (eva_cons (ev_var 1) eva_nil))))
      (evss_cons (evs_set c.nd (ev_call c i__law_worth (eva_cons (ev_ix (ix_4 c.u) os_ix (ev_var 0) ev_int) (eva_cons (ev_var 1) eva_nil))))
      (evss_cons (evs_if (evt_cmp (op_eq3 c.u) (OpSem.weak os_eq) (ev_ix (ix_4 c.u) os_ix (ev_var 0) ev_int) ev_str)
      (evss_cons (evs_set c.nd (ev_un un_neg us_neg (ev_var 3)))
      evss_nil)
      evss_nil)
      (evss_cons (evs_if (evt_cmp (op_eq3 c.u) (OpSem.weak os_eq) (ev_ix (ix_4 c.u) os_ix (ev_var 0) ev_int) ev_str)
      (evss_cons (evs_ret (Ev.weak (ev_op op_mod os_mod (ev_op op_mul2 os_mul (ev_var 2) (ev_var 3)) ev_int)))
      evss_nil)
      evss_nil)
      (evss_cons (evs_ret (Ev.weak (ev_op op_mod os_mod (ev_op op_add4 os_add (ev_var 2) (ev_var 3)) ev_int)))
      evss_nil)))))))

/-! _law_numbers -/
abbrev s__law_numbers : Stmt := topS 12
abbrev N__law_numbers : List Str := ["_law_found", "_law_number"]
def b__law_numbers (T : Tbl) : SM :=
      (sCons (sIf (eNot (eApp (vIsa "list") (aCons (eVar 0) aNil)))
      (sCons (sRet (eC (.bl false)))
      sNil)
      sNil)
      (sCons (sFor (iSeq (eVar 0)) (gName 1)
      (sCons (sIf (eOr (eNot (eApp (vIsa "int") (aCons (eVar 1) aNil))) (eApp (vIsa "bool") (aCons (eVar 1) aNil)))
      (sCons (sRet (eC (.bl false)))
      sNil)
      sNil)
      sNil))
      (sCons (sRet (eC (.bl true)))
      sNil)))
abbrev d__law_numbers : FnD := ⟨1, 2, false, b__law_numbers⟩
theorem sc__law_numbers : FnScope N__law_numbers ["_law_found"] (defScope s__law_numbers) := ⟨rfl, rfl, rfl, by decide +kernel, rfl, by decide +kernel, by decide +kernel⟩
theorem ok__law_numbers {P : Program} {w : World} {K : PySem.W.Frag} {mg : Str → Option Value} {base : Heap} {f : Addr} {fd : FuncData} {n : Nat} {T : Tbl} (F : Fun K "_law_numbers" "_law_numbers" s__law_numbers f fd) (hB : ∀ x ∈ bs, mg x = none) (hC : ∀ p ∈ cs, ∃ u, mg p.1 = some u ∧ RelV (.int p.2) u)
    (hF : FnAt P w K mg base pr T n) : FnOk P w K mg base CX0 (n + 1) f fd ["_law_found"] (spI P w K (pr.fr 9) (callI d__law_numbers T)) :=
  fn_ok F sc__law_numbers rfl rfl fun cdv A outer s H E hr => by
    have c : Cok (cxOf CX0 P w K mg base N__law_numbers "_law_numbers" (defScope s__law_numbers) f cdv A outer s H E).nox pr T n bs cs := ⟨rfl, sc__law_numbers.nd, hr, hF, hB, hC⟩
    show EvSs _ _ _ (b__law_numbers T)
    unfold b__law_numbers
    exact (evss_cons (evs_if (evt_not (evt_val (ev_isa (ev_var 0) (c.blt "isinstance" (List.mem_of_getElem? (i := 3) rfl)) (c.blt "list" (List.mem_of_getElem? (i := 5) rfl)) boot_list)))
      (evss_cons (evs_ret (Ev.weak ev_bl))
      evss_nil)
      evss_nil)
      (evss_cons (evs_for (vs := [1]) PassesOwn.never c.calm (evi_seq (ev_var 0)) (evg_name c.nd)
      (evss_cons (evs_if (evw_pt (evw_or (evt_not (evt_val (ev_isa (ev_var 1) (c.blt "isinstance" (List.mem_of_getElem? (i := 3) rfl)) (c.blt "int" (List.mem_of_getElem? (i := 2) rfl)) boot_int))) (evw_or1 (evt_val (ev_isa (ev_var 1) (c.blt "isinstance" (List.mem_of_getElem? (i := 3) rfl)) (c.blt "bool" (List.mem_of_getElem? (i := 0) rfl)) boot_bool)))))
      (evss_cons (evs_ret (Ev.weak ev_bl))
      evss_nil)
      evss_nil)
      evss_nil))
      (evss_cons (evs_ret (Ev.weak ev_bl))
      evss_nil)))

/-! _law_once -/
abbrev s__law_once : Stmt := topS 13
abbrev N__law_once : List Str := ["_law_names_here", "_law_found", "_law_name"]
def b__law_once (T : Tbl) : SM :=
      (sCons (sSet 1 (eBox (eLst aNil)))
      (sCons (sFor (iSeq (eVar 0)) (gName 2)
      (sCons (sIf (eBin (vIn true) (eVar 2) (eVar 1))
      (sCons (sApp (eVar 1) (eVar 2))
      sNil)
      sNil)
      sNil))
      (sCons (sRet (eVar 1))
      sNil)))
abbrev d__law_once : FnD := ⟨1, 3, false, b__law_once⟩
theorem sc__law_once : FnScope N__law_once ["_law_names_here"] (defScope s__law_once) := ⟨rfl, rfl, rfl, by decide +kernel, rfl, by decide +kernel, by decide +kernel⟩
theorem ok__law_once {P : Program} {w : World} {K : PySem.W.Frag} {mg : Str → Option Value} {base : Heap} {f : Addr} {fd : FuncData} {n : Nat} {T : Tbl} (F : Fun K "_law_once" "_law_once" s__law_once f fd) (hB : ∀ x ∈ bs, mg x = none) (hC : ∀ p ∈ cs, ∃ u, mg p.1 = some u ∧ RelV (.int p.2) u)
    (hF : FnAt P w K mg base pr T n) : FnOk P w K mg base CX0 (n + 1) f fd ["_law_names_here"] (spI P w K (pr.fr 10) (callI d__law_once T)) :=
  fn_ok F sc__law_once rfl rfl fun cdv A outer s H E hr => by
    have c : Cok (cxOf CX0 P w K mg base N__law_once "_law_once" (defScope s__law_once) f cdv A outer s H E).nox pr T n bs cs := ⟨rfl, sc__law_once.nd, hr, hF, hB, hC⟩
    show EvSs _ _ _ (b__law_once T)
    unfold b__law_once
    exact (evss_cons (evs_set c.nd (ev_box (ev_lst eva_nil)))
      (evss_cons (evs_for (vs := [2]) PassesOwn.never c.calm (evi_seq (ev_var 0)) (evg_name c.nd)
      (evss_cons (evs_if (evt_cmp (op_notin3 c.u) (OpSem.weak os_in) (ev_var 2) (ev_var 1))
      (evss_cons (evs_app (ev_var 1) (ev_var 2))
      evss_nil)
      evss_nil)
      evss_nil))
      (evss_cons (evs_ret (Ev.weak (ev_var 1)))
      evss_nil)))

/-! _law_told -/
abbrev s__law_told : Stmt := topS 14
abbrev N__law_told : List Str := ["_law_term_here", "_law_cells", "_law_found", "_law_number", "_law_name"]
def b__law_told (T : Tbl) : SM :=
      (sCons (sSet 2 (eBox (eApp (T i_names_in) (aCons (eVar 0) aNil))))
      (sCons (sSet 3 (eApp (T i_worth) (aCons (eVar 0) (aCons (eVar 1) aNil))))
      (sCons (sIf (eOr (eNot (eApp (vIsa "list") (aCons (eVar 2) aNil))) (eOr (eBin (vEqF true) (eVar 2) (eApp (T i__law_once) (aCons (eApp (T i__law_names) (aCons (eVar 0) aNil)) aNil))) (eNot (eApp (T i__law_numbers) (aCons (eLst (aCons (eVar 3) aNil)) aNil)))))
      (sCons (sRet (eC (.bl false)))
      sNil)
      sNil)
      (sCons (sFor (iSeq (eVar 2)) (gName 4)
      (sCons (sIf (eNot (eApp (vIsa "str") (aCons (eVar 4) aNil)))
      (sCons (sRet (eC (.bl false)))
      sNil)
      sNil)
      sNil))
      (sCons (sApp (eVar 2) (eC (.str "more")))
      (sCons (sRet (eAnd (eBin (vEqF false) (eVar 3) (eApp (T i__law_worth) (aCons (eVar 0) (aCons (eVar 1) aNil)))) (eBin (vEqF false) (eApp (T i_names_in) (aCons (eVar 0) aNil)) (eApp (T i__law_once) (aCons (eApp (T i__law_names) (aCons (eVar 0) aNil)) aNil)))))
      sNil))))))
abbrev d__law_told : FnD := ⟨2, 5, false, b__law_told⟩
theorem sc__law_told : FnScope N__law_told ["_law_term_here", "_law_cells"] (defScope s__law_told) := ⟨rfl, rfl, rfl, by decide +kernel, rfl, by decide +kernel, by decide +kernel⟩
theorem ok__law_told {P : Program} {w : World} {K : PySem.W.Frag} {mg : Str → Option Value} {base : Heap} {f : Addr} {fd : FuncData} {n : Nat} {T : Tbl} (F : Fun K "_law_told" "_law_told" s__law_told f fd) (hB : ∀ x ∈ bs, mg x = none) (hC : ∀ p ∈ cs, ∃ u, mg p.1 = some u ∧ RelV (.int p.2) u)
    (hF : FnAt P w K mg base pr T n) : FnOk P w K mg base CX0 (n + 1) f fd ["_law_term_here", "_law_cells"] (spI P w K (pr.fr 11) (callI d__law_told T)) :=
  fn_ok F sc__law_told rfl rfl fun cdv A outer s H E hr => by
    have c : Cok (cxOf CX0 P w K mg base N__law_told "_law_told" (defScope s__law_told) f cdv A outer s H E).nox pr T n bs cs := ⟨rfl, sc__law_told.nd, hr, hF, hB, hC⟩
    show EvSs _ _ _ (b__law_told T)
    unfold b__law_told
    exact (evss_cons (evs_set c.nd (ev_box (ev_call c i_names_in (eva_cons (ev_var 0) eva_nil))))
      (evss_cons (evs_set c.nd (ev_call c i_worth (eva_cons (ev_var 0) (eva_cons (ev_var 1) eva_nil))))
      (evss_cons (evs_if (evw_pt (evw_or (evt_not (evt_val (ev_isa (ev_var 2) (c.blt "isinstance" (List.mem_of_getElem? (i := 3) rfl)) (c.blt "list" (List.mem_of_getElem? (i := 5) rfl)) boot_list))) (evw_or (evt_cmp (op_ne3 c.u) (OpSem.weak os_eq) (ev_var 2) (ev_call c i__law_once (eva_cons (ev_call c i__law_names (eva_cons (ev_var 0) eva_nil)) eva_nil))) (evw_or1 (evt_not (evt_val (ev_call c i__law_numbers (eva_cons (ev_lst (eva_cons (ev_var 3) eva_nil)) eva_nil))))))))
      (evss_cons (evs_ret (Ev.weak ev_bl))
      evss_nil)
      evss_nil)
      (evss_cons (evs_for (vs := [4]) PassesOwn.never c.calm (evi_seq (ev_var 2)) (evg_name c.nd)
      (evss_cons (evs_if (evt_not (evt_val (ev_isa (ev_var 4) (c.blt "isinstance" (List.mem_of_getElem? (i := 3) rfl)) (c.blt "str" (List.mem_of_getElem? (i := 7) rfl)) boot_str)))
      (evss_cons (evs_ret (Ev.weak ev_bl))
      evss_nil)
      evss_nil)
      evss_nil))
      (evss_cons (evs_app (ev_var 2) ev_str)
      (evss_cons (evs_ret (Ev.weak (ev_and (ev_cmp (op_eq3 c.u) os_eq (ev_var 3) (ev_call c i__law_worth (eva_cons (ev_var 0) (eva_cons (ev_var 1) eva_nil)))) (ev_one (ev_cmp (op_eq3 c.u) os_eq (ev_call c i_names_in (eva_cons (ev_var 0) eva_nil)) (ev_call c i__law_once (eva_cons (ev_call c i__law_names (eva_cons (ev_var 0) eva_nil)) eva_nil)))))))
      evss_nil))))))

/-! law -/
abbrev s_law : Stmt := topS 15
abbrev N_law : List Str := ["_law_script", "_law_words_here", "_law_term_here", "_law_cells", "_law_k", "_law_kept", "_law_name"]
def b_law (T : Tbl) : SM :=
      (sCons (sSet 1 (eApp (T i__law_words) (aCons (eApp (T i__law_cell) (aCons (eVar 0) (aCons (eC (.int 0)) aNil))) (aCons (eC (.int 5)) aNil))))
      (sCons (sSet 2 (eApp (T i__law_term) (aCons (eApp (T i__law_cell) (aCons (eVar 0) (aCons (eC (.int 1)) aNil))) (aCons (eVar 1) (aCons (eBin vMod (eApp (T i__law_cell) (aCons (eVar 0) (aCons (eC (.int 2)) aNil))) (eC (.int 4))) aNil)))))
      (sCons (sIf (eBin (vEqF false) (eBin vMod (eBin vFdv (eApp (T i__law_cell) (aCons (eVar 0) (aCons (eC (.int 2)) aNil))) (eC (.int 16))) (eC (.int 6))) (eC (.int 1)))
      (sCons (sFor (iRng1' (eBin vMod (eBin vFdv (eApp (T i__law_cell) (aCons (eVar 0) (aCons (eC (.int 2)) aNil))) (eC (.int 96))) (eC (.int 16)))) (gName 4)
      (sCons (sSet 6 (eTup (aCons (eC (.str "name")) (aCons (eBin vIx (eVar 1) (eBin vMod (eVar 4) (eC (.int 5)))) aNil))))
      (sCons (sSet 2 (eBin vIx (eLst (aCons (eTup (aCons (eC (.str "sum")) (aCons (eVar 2) (aCons (eTup (aCons (eC (.str "num")) (aCons (eVar 4) aNil))) aNil)))) (aCons (eTup (aCons (eC (.str "less")) (aCons (eVar 6) (aCons (eVar 2) aNil)))) (aCons (eTup (aCons (eC (.str "times")) (aCons (eVar 2) (aCons (eTup (aCons (eC (.str "num")) (aCons (eC (.int 1000002)) aNil))) aNil)))) aNil)))) (eBin vMod (eVar 4) (eC (.int 3)))))
      sNil)))
      sNil)
      sNil)
      (sCons (sSet 3 (eBox (fun _ st => .ok (.dct [.inr "other"] [.int 7]) st)))
      (sCons (sFor (iRng1' (eBin vMod (eBin vFdv (eApp (T i__law_cell) (aCons (eVar 0) (aCons (eC (.int 2)) aNil))) (eC (.int 4))) (eC (.int 4)))) (gName 4)
      (sCons (sPut (eVar 3) (eBin vIx (eVar 1) (eBin vMod (eBin vAdd (eApp (T i__law_cell) (aCons (eVar 0) (aCons (eC (.int 3)) aNil))) (eBin vMul (eC (.int 2)) (eVar 4))) (eC (.int 5)))) (eBin vMod (eApp (T i__law_mixed) (aCons (eApp (T i__law_cell) (aCons (eVar 0) (aCons (eC (.int 4)) aNil))) (aCons (eVar 4) aNil))) (eBin vIx (eLst (aCons (eC (.int 3)) (aCons (eC (.int 1000003)) aNil))) (eBin vMod (eVar 4) (eC (.int 2))))))
      sNil))
      (sCons (sSet 5 (eApp vDictOf (aCons (eVar 3) aNil)))
      (sCons (sIf (eOr (eNot (eApp (T i__law_told) (aCons (eVar 2) (aCons (eVar 3) aNil)))) (eBin (vEqF true) (eVar 3) (eVar 5)))
      (sCons (sRet (eC (.bl false)))
      sNil)
      sNil)
      (sCons (sPut (eVar 3) (eBin vIx (eVar 1) (eBin vMod (eApp (T i__law_cell) (aCons (eVar 0) (aCons (eC (.int 5)) aNil))) (eC (.int 5)))) (eBin vMod (eApp (T i__law_cell) (aCons (eVar 0) (aCons (eC (.int 6)) aNil))) (eC (.int 1000003))))
      (sCons (sSet 5 (eApp vDictOf (aCons (eVar 3) aNil)))
      (sCons (sRet (eAnd (eApp (T i__law_told) (aCons (eVar 2) (aCons (eVar 3) aNil))) (eBin (vEqF false) (eVar 3) (eVar 5))))
      sNil))))))))))
abbrev d_law : FnD := ⟨1, 7, false, b_law⟩
theorem sc_law : FnScope N_law ["_law_script"] (defScope s_law) := ⟨rfl, rfl, rfl, by decide +kernel, rfl, by decide +kernel, by decide +kernel⟩
theorem ok_law {P : Program} {w : World} {K : PySem.W.Frag} {mg : Str → Option Value} {base : Heap} {f : Addr} {fd : FuncData} {n : Nat} {T : Tbl} (F : Fun K "law" "law" s_law f fd) (hB : ∀ x ∈ bs, mg x = none) (hC : ∀ p ∈ cs, ∃ u, mg p.1 = some u ∧ RelV (.int p.2) u)
    (hF : FnAt P w K mg base pr T n) : FnOk P w K mg base CX0 (n + 1) f fd ["_law_script"] (spI P w K (pr.fr 12) (callI d_law T)) :=
  fn_ok F sc_law rfl rfl fun cdv A outer s H E hr => by
    have c : Cok (cxOf CX0 P w K mg base N_law "law" (defScope s_law) f cdv A outer s H E).nox pr T n bs cs := ⟨rfl, sc_law.nd, hr, hF, hB, hC⟩
    show EvSs _ _ _ (b_law T)
    unfold b_law
    exact (evss_cons (evs_set c.nd (ev_call c i__law_words (eva_cons (ev_call c i__law_cell (eva_cons (ev_var 0) (eva_cons ev_int eva_nil))) (eva_cons ev_int eva_nil))))
      (evss_cons (evs_set c.nd (ev_call c i__law_term (eva_cons (ev_call c i__law_cell (eva_cons (ev_var 0) (eva_cons ev_int eva_nil))) (eva_cons (ev_var 1) (eva_cons (ev_op op_mod os_mod (ev_call c i__law_cell (eva_cons (ev_var 0) (eva_cons ev_int eva_nil))) ev_int) eva_nil)))))
      (evss_cons (evs_if (evt_cmp (op_eq3 c.u) (OpSem.weak os_eq) (ev_op op_mod os_mod (ev_op op_fdivW os_fdv (ev_call c i__law_cell (eva_cons (ev_var 0) (eva_cons ev_int eva_nil))) ev_int) ev_int) ev_int)
      (evss_cons (evs_for (vs := [4]) PassesOwn.never c.calm (evi_rng1 (ev_op op_mod os_mod (ev_op op_fdivW os_fdv (ev_call c i__law_cell (eva_cons (ev_var 0) (eva_cons ev_int eva_nil))) ev_int) ev_int) (c.blt "range" (List.mem_of_getElem? (i := 6) rfl))) (evg_name c.nd)
      (evss_cons (evs_set c.nd (ev_tup (eva_cons ev_str (eva_cons (ev_ix (ix_4 c.u) os_ix (ev_var 1) (ev_op op_mod os_mod (ev_var 4) ev_int)) eva_nil))))
      (evss_cons (evs_set c.nd (ev_ix (ix_4 c.u) os_ix (ev_lst (eva_cons (ev_tup (eva_cons ev_str (eva_cons (ev_var 2) (eva_cons (ev_tup (eva_cons ev_str (eva_cons (ev_var 4) eva_nil))) eva_nil)))) (eva_cons (ev_tup (eva_cons ev_str (eva_cons (ev_var 6) (eva_cons (ev_var 2) eva_nil)))) (eva_cons (ev_tup (eva_cons ev_str (eva_cons (ev_var 2) (eva_cons (ev_tup (eva_cons ev_str (eva_cons ev_int eva_nil))) eva_nil)))) eva_nil)))) (ev_op op_mod os_mod (ev_var 4) ev_int)))
      evss_nil)))
      evss_nil)
      evss_nil)
      (evss_cons (evs_set c.nd (ev_box ev_disp1))
      (evss_cons (evs_for (vs := [4]) PassesOwn.never c.calm (evi_rng1 (ev_op op_mod os_mod (ev_op op_fdivW os_fdv (ev_call c i__law_cell (eva_cons (ev_var 0) (eva_cons ev_int eva_nil))) ev_int) ev_int) (c.blt "range" (List.mem_of_getElem? (i := 6) rfl))) (evg_name c.nd)
      (evss_cons (evs_put c.u (ev_var 3) (ev_ix (ix_4 c.u) os_ix (ev_var 1) (ev_op op_mod os_mod (ev_op op_add4 os_add (ev_call c i__law_cell (eva_cons (ev_var 0) (eva_cons ev_int eva_nil))) (ev_op op_mul2 os_mul ev_int (ev_var 4))) ev_int)) (ev_op op_mod os_mod (ev_call c i__law_mixed (eva_cons (ev_call c i__law_cell (eva_cons (ev_var 0) (eva_cons ev_int eva_nil))) (eva_cons (ev_var 4) eva_nil))) (ev_ix (ix_4 c.u) os_ix (ev_lst (eva_cons ev_int (eva_cons ev_int eva_nil))) (ev_op op_mod os_mod (ev_var 4) ev_int))))
      evss_nil))
      (evss_cons (evs_set c.nd (ev_callTy call_dictC cs_dictC (c.blt "dict" (List.mem_of_getElem? (i := 1) rfl)) boot_dict (eva_cons (ev_var 3) eva_nil)))
      (evss_cons (evs_if (evw_pt (evw_or (evt_not (evt_val (ev_call c i__law_told (eva_cons (ev_var 2) (eva_cons (ev_var 3) eva_nil))))) (evw_or1 (evt_cmp (op_ne3 c.u) (OpSem.weak os_eq) (ev_var 3) (ev_var 5)))))
      (evss_cons (evs_ret (Ev.weak ev_bl))
      evss_nil)
      evss_nil)
      (evss_cons (evs_put c.u (ev_var 3) (ev_ix (ix_4 c.u) os_ix (ev_var 1) (ev_op op_mod os_mod (ev_call c i__law_cell (eva_cons (ev_var 0) (eva_cons ev_int eva_nil))) ev_int)) (ev_op op_mod os_mod (ev_call c i__law_cell (eva_cons (ev_var 0) (eva_cons ev_int eva_nil))) ev_int))
      (evss_cons (evs_set c.nd (ev_callTy call_dictC cs_dictC (c.blt "dict" (List.mem_of_getElem? (i := 1) rfl)) boot_dict (eva_cons (ev_var 3) eva_nil)))
      (evss_cons (evs_ret (Ev.weak (ev_and (ev_call c i__law_told (eva_cons (ev_var 2) (eva_cons (ev_var 3) eva_nil))) (ev_one (ev_cmp (op_eq3 c.u) os_eq (ev_var 3) (ev_var 5))))))
      evss_nil))))))))))
def D : Nat → FnD
  | 0 => d_names_in
  | 1 => d__note_names
  | 2 => d_worth
  | 3 => d__law_cell
  | 4 => d__law_mixed
  | 5 => d__law_words
  | 6 => d__law_term
  | 7 => d__law_names
  | 8 => d__law_worth
  | 9 => d__law_numbers
  | 10 => d__law_once
  | 11 => d__law_told
  | 12 => d_law
  | _ => ⟨0, 0, false, fun _ _ _ => .bad⟩
theorem c_names_in (n : Nat) (a0 : PV) (st : VSt) : Fm D (n + 1) i_names_in [a0] st = endI true st.length (b_names_in (Fm D n) [some a0, none] st) := rfl
theorem c__note_names (n : Nat) (a0 a1 : PV) (st : VSt) : Fm D (n + 1) i__note_names [a0, a1] st = endI false st.length (b__note_names (Fm D n) [some a0, some a1, none] st) := rfl
theorem c_worth (n : Nat) (a0 a1 : PV) (st : VSt) : Fm D (n + 1) i_worth [a0, a1] st = endI false st.length (b_worth (Fm D n) [some a0, some a1, none, none, none] st) := rfl
theorem c__law_cell (n : Nat) (a0 a1 : PV) (st : VSt) : Fm D (n + 1) i__law_cell [a0, a1] st = endI false st.length (b__law_cell (Fm D n) [some a0, some a1, none, none] st) := rfl
theorem c__law_mixed (n : Nat) (a0 a1 : PV) (st : VSt) : Fm D (n + 1) i__law_mixed [a0, a1] st = endI false st.length (b__law_mixed (Fm D n) [some a0, some a1, none] st) := rfl
theorem c__law_words (n : Nat) (a0 a1 : PV) (st : VSt) : Fm D (n + 1) i__law_words [a0, a1] st = endI false st.length (b__law_words (Fm D n) [some a0, some a1, none, none, none, none] st) := rfl
theorem c__law_term (n : Nat) (a0 a1 a2 : PV) (st : VSt) : Fm D (n + 1) i__law_term [a0, a1, a2] st = endI false st.length (b__law_term (Fm D n) [some a0, some a1, some a2, none, none] st) := rfl
theorem c__law_names (n : Nat) (a0 : PV) (st : VSt) : Fm D (n + 1) i__law_names [a0] st = endI false st.length (b__law_names (Fm D n) [some a0] st) := rfl
theorem c__law_worth (n : Nat) (a0 a1 : PV) (st : VSt) : Fm D (n + 1) i__law_worth [a0, a1] st = endI false st.length (b__law_worth (Fm D n) [some a0, some a1, none, none] st) := rfl
theorem c__law_numbers (n : Nat) (a0 : PV) (st : VSt) : Fm D (n + 1) i__law_numbers [a0] st = endI false st.length (b__law_numbers (Fm D n) [some a0, none] st) := rfl
theorem c__law_once (n : Nat) (a0 : PV) (st : VSt) : Fm D (n + 1) i__law_once [a0] st = endI false st.length (b__law_once (Fm D n) [some a0, none, none] st) := rfl
theorem c__law_told (n : Nat) (a0 a1 : PV) (st : VSt) : Fm D (n + 1) i__law_told [a0, a1] st = endI false st.length (b__law_told (Fm D n) [some a0, some a1, none, none, none] st) := rfl
theorem c_law (n : Nat) (a0 : PV) (st : VSt) : Fm D (n + 1) i_law [a0] st = endI false st.length (b_law (Fm D n) [some a0, none, none, none, none, none, none] st) := rfl
end Lk

namespace Lk
open PySem L2 Vm
/-! ## what is drawn: cells, mixed numbers, words, terms -/
def mixedF (a k : Int) : Int := (a * 48271 + (k + 1) * 1299721) % 2147483647 * ((a * 48271 + (k + 1) * 1299721) % 2147483647 / 7 % 65536 + 3) % 2147483647
theorem F_mixed (n : Nat) (a k : Int) (st : VSt) : Fm D (n + 1) i__law_mixed [.int a, .int k] st = .ok (.int (mixedF a k)) st := by
  rw [c__law_mixed]
  unfold b__law_mixed
  simp -implicitDefEqProofs (disch := omega) only [bind_ok, s_ok, sb_nx, sb_rt, sb_ct, sb_bk, onB_bl, onBS_bl, x_var, x_c, x_bin, x_un, x_nil, x_cons, x_tup, x_lst, x_app, x_and, x_or, x_not, x_if, x_box, x_get, x_sl, x_onone, x_osome, x_snil, x_scons, x_set, x_expr, x_ret, x_retB, x_sif, x_bk, x_ct, x_aug, x_asg, x_gname, x_gnil, x_gcons, x_gtup, mkt0, mkl0, mkt1, mkl1, mkt2, mkl2, mkt3, mkl3, mkt4, mkl4, mkt5, mkl5, mkt6, mkl6, mkt7, mkl7, v_il0, v_it0, v_il1, v_it1, v_il2, v_it2, v_il3, v_it3, v_il4, v_it4, v_il5, v_it5, v_add, v_addI, v_sub, v_neg, v_mul, v_fdv, v_mod, v_cmp, v_eqs, v_nes, v_eqi, v_nei, v_eqb, v_ixc, opt_some, v_lenl, v_lent, v_lenc, v_tupt, v_tupl, v_intb, v_inti, v_max, v_isn, v_isnn, end_rt, end_nx, fz_int, fz_str, fz_bl, fz_non, List.getElem?_cons_zero, List.getElem?_cons_succ, List.set_cons_zero, List.set_cons_succ, List.length_cons, List.length_nil, List.take_length, Option.map_some, oldLoc, Bool.false_and, Bool.and_false, Bool.true_and, Bool.and_true, Bool.not_true, Bool.not_false, Bool.false_eq_true, decide_true, decide_false, decide_eq_true_eq, if_true, if_false, ↓reduceIte, Nat.reduceAdd, Nat.reduceLeDiff, mixedF]
theorem mixedF_range (a k : Int) : 0 ≤ mixedF a k ∧ mixedF a k < 2147483647 := by
  unfold mixedF
  omega
def mkA (c k : Int) : Int := (c % 2147483629 + 7919 * (k + 1)) * 48271 % 2147483647
def mkB (m : Int) : Int := m * m % 2147483629 * 69621 % 2147483647
def mkC (c m : Int) : Int := (c / 2147483629 * 2147483647 + m) * 2147483629 + m * m % 2147483629
def cellV (c k : Int) : Int := mkC c (mkB (mkA c k))
def cellF (ns : List Int) (k : Nat) : Int := cellV ((ns[k]?).getD 0) k
theorem mkA_r (c k : Int) : 0 ≤ mkA c k ∧ mkA c k < 2147483647 := by unfold mkA; omega
theorem mkB_r (m : Int) : 0 ≤ mkB m ∧ mkB m < 2147483647 := by unfold mkB; omega
theorem F_cell (n : Nat) (ns : List Int) (k : Nat) (st : VSt) : Fm D (n + 1) i__law_cell [.scr ns, .int (k : Int)] st = .ok (.int (cellF ns k)) st := by
  rw [c__law_cell]
  unfold b__law_cell
  have key : ∀ c : Int, (eIf (eBin vLt (eVar 1) (eApp vLen (aCons (eVar 0) aNil))) (eBin vIx (eVar 0) (eVar 1)) (eC (.int 0))) [some (.scr ns), some (.int (k : Int)), none, none] st = .ok (.int c) st → 
      endI false st.length ((sCons (sSet 2 (eIf (eBin vLt (eVar 1) (eApp vLen (aCons (eVar 0) aNil))) (eBin vIx (eVar 0) (eVar 1)) (eC (.int 0)))) 
        (sCons (sSet 3 (eBin vMod (eBin vMul (eBin vAdd (eBin vMod (eVar 2) (eC (.int 2147483629))) (eBin vMul (eC (.int 7919)) (eBin vAdd (eVar 1) (eC (.int 1))))) (eC (.int 48271))) (eC (.int 2147483647))))
        (sCons (sSet 3 (eBin vMod (eBin vMul (eBin vMod (eBin vMul (eVar 3) (eVar 3)) (eC (.int 2147483629))) (eC (.int 69621))) (eC (.int 2147483647))))
        (sCons (sRet (eBin vAdd (eBin vMul (eBin vAdd (eBin vMul (eBin vFdv (eVar 2) (eC (.int 2147483629))) (eC (.int 2147483647))) (eVar 3)) (eC (.int 2147483629))) (eBin vMod (eBin vMul (eVar 3) (eVar 3)) (eC (.int 2147483629))))) sNil)))) [some (.scr ns), some (.int (k : Int)), none, none] st) = .ok (.int (cellV c k)) st := by
    intro c h
    have hA := mkA_r c k
    have hB := mkB_r (mkA c k)
    have eA : (c % 2147483629 + 7919 * ((k : Int) + 1)) * 48271 % 2147483647 = mkA c k := rfl
    have eB : mkA c k * mkA c k % 2147483629 * 69621 % 2147483647 = mkB (mkA c k) := rfl
    rw [x_scons, x_set, h]
    simp -implicitDefEqProofs (disch := omega) only [bind_ok, s_ok, sb_nx, sb_rt, sb_ct, sb_bk, onB_bl, onBS_bl, x_var, x_c, x_bin, x_un, x_nil, x_cons, x_tup, x_lst, x_app, x_and, x_or, x_not, x_if, x_box, x_get, x_sl, x_onone, x_osome, x_snil, x_scons, x_set, x_expr, x_ret, x_retB, x_sif, x_bk, x_ct, x_aug, x_asg, x_gname, x_gnil, x_gcons, x_gtup, mkt0, mkl0, mkt1, mkl1, mkt2, mkl2, mkt3, mkl3, mkt4, mkl4, mkt5, mkl5, mkt6, mkl6, mkt7, mkl7, v_il0, v_it0, v_il1, v_it1, v_il2, v_it2, v_il3, v_it3, v_il4, v_it4, v_il5, v_it5, v_add, v_addI, v_sub, v_neg, v_mul, v_fdv, v_mod, v_cmp, v_eqs, v_nes, v_eqi, v_nei, v_eqb, v_ixc, opt_some, v_lenl, v_lent, v_lenc, v_tupt, v_tupl, v_intb, v_inti, v_max, v_isn, v_isnn, end_rt, end_nx, fz_int, fz_str, fz_bl, fz_non, List.getElem?_cons_zero, List.getElem?_cons_succ, List.set_cons_zero, List.set_cons_succ, List.length_cons, List.length_nil, List.take_length, Option.map_some, oldLoc, Bool.false_and, Bool.and_false, Bool.true_and, Bool.and_true, Bool.not_true, Bool.not_false, Bool.false_eq_true, decide_true, decide_false, decide_eq_true_eq, if_true, if_false, ↓reduceIte, Nat.reduceAdd, Nat.reduceLeDiff, eA, eB]
    rfl
  by_cases h : k < ns.length
  · have e : atI ns (k : Int) = some ns[k] := atI_nat (List.getElem?_eq_getElem h)
    have h2 : ((k : Int) < (ns.length : Int)) = True := by simp; omega
    have h3 : (ns[k]?).getD 0 = ns[k] := by rw [List.getElem?_eq_getElem h]; rfl
    unfold cellF
    rw [h3]
    exact key _ (by simp -implicitDefEqProofs (disch := omega) only [bind_ok, s_ok, sb_nx, sb_rt, sb_ct, sb_bk, onB_bl, onBS_bl, x_var, x_c, x_bin, x_un, x_nil, x_cons, x_tup, x_lst, x_app, x_and, x_or, x_not, x_if, x_box, x_get, x_sl, x_onone, x_osome, x_snil, x_scons, x_set, x_expr, x_ret, x_retB, x_sif, x_bk, x_ct, x_aug, x_asg, x_gname, x_gnil, x_gcons, x_gtup, mkt0, mkl0, mkt1, mkl1, mkt2, mkl2, mkt3, mkl3, mkt4, mkl4, mkt5, mkl5, mkt6, mkl6, mkt7, mkl7, v_il0, v_it0, v_il1, v_it1, v_il2, v_it2, v_il3, v_it3, v_il4, v_it4, v_il5, v_it5, v_add, v_addI, v_sub, v_neg, v_mul, v_fdv, v_mod, v_cmp, v_eqs, v_nes, v_eqi, v_nei, v_eqb, v_ixc, opt_some, v_lenl, v_lent, v_lenc, v_tupt, v_tupl, v_intb, v_inti, v_max, v_isn, v_isnn, end_rt, end_nx, fz_int, fz_str, fz_bl, fz_non, List.getElem?_cons_zero, List.getElem?_cons_succ, List.set_cons_zero, List.set_cons_succ, List.length_cons, List.length_nil, List.take_length, Option.map_some, oldLoc, Bool.false_and, Bool.and_false, Bool.true_and, Bool.and_true, Bool.not_true, Bool.not_false, Bool.false_eq_true, decide_true, decide_false, decide_eq_true_eq, if_true, if_false, ↓reduceIte, Nat.reduceAdd, Nat.reduceLeDiff, h2, e])
  · have h2 : ((k : Int) < (ns.length : Int)) = False := by simp; omega
    have h3 : (ns[k]?).getD 0 = 0 := by rw [List.getElem?_eq_none (by omega)]; rfl
    unfold cellF
    rw [h3]
    exact key _ (by simp -implicitDefEqProofs (disch := omega) only [bind_ok, s_ok, sb_nx, sb_rt, sb_ct, sb_bk, onB_bl, onBS_bl, x_var, x_c, x_bin, x_un, x_nil, x_cons, x_tup, x_lst, x_app, x_and, x_or, x_not, x_if, x_box, x_get, x_sl, x_onone, x_osome, x_snil, x_scons, x_set, x_expr, x_ret, x_retB, x_sif, x_bk, x_ct, x_aug, x_asg, x_gname, x_gnil, x_gcons, x_gtup, mkt0, mkl0, mkt1, mkl1, mkt2, mkl2, mkt3, mkl3, mkt4, mkl4, mkt5, mkl5, mkt6, mkl6, mkt7, mkl7, v_il0, v_it0, v_il1, v_it1, v_il2, v_it2, v_il3, v_it3, v_il4, v_it4, v_il5, v_it5, v_add, v_addI, v_sub, v_neg, v_mul, v_fdv, v_mod, v_cmp, v_eqs, v_nes, v_eqi, v_nei, v_eqb, v_ixc, opt_some, v_lenl, v_lent, v_lenc, v_tupt, v_tupl, v_intb, v_inti, v_max, v_isn, v_isnn, end_rt, end_nx, fz_int, fz_str, fz_bl, fz_non, List.getElem?_cons_zero, List.getElem?_cons_succ, List.set_cons_zero, List.set_cons_succ, List.length_cons, List.length_nil, List.take_length, Option.map_some, oldLoc, Bool.false_and, Bool.and_false, Bool.true_and, Bool.and_true, Bool.not_true, Bool.not_false, Bool.false_eq_true, decide_true, decide_false, decide_eq_true_eq, if_true, if_false, ↓reduceIte, Nat.reduceAdd, Nat.reduceLeDiff, h2])
end Lk

namespace Lk
open PySem L2 Vm
def Ls : Str := "abcdefghijklmnopqrstuvwxyz"
theorem Ls_codes : Ls.cps.toList = (List.range 26).map (97 + ·) := by decide +kernel
theorem Ls_len : Ls.length = 26 := by decide +kernel
def ltr (i : Int) : Str := ⟨#[97 + i.toNat]⟩
theorem v_ltr {i : Int} {st : VSt} (h0 : 0 ≤ i) (h1 : i < 26) : vIx (.str Ls) (.int i) st = .ok (.str (ltr i)) st := by
  rw [v_ixs (by rw [Ls_len]; decide), Ls_codes]
  have e : i = ((i.toNat : Nat) : Int) := by omega
  have h : atI ((List.range 26).map (97 + ·)) i = some (97 + i.toNat) := by
    rw [e]
    refine atI_nat ?_
    have : i.toNat < 26 := by omega
    rw [List.getElem?_map, List.getElem?_range this]; rfl
  rw [h]; rfl
theorem len_repS (x : Str) (n : Nat) : (repS x n).length = n * x.length := by
  unfold repS Str.length
  simp [List.length_flatten]
theorem len_ltr (i : Int) : (ltr i).length = 1 := rfl
def wBase (c : Int) : Str := repS (ltr (c % 26)) (1 + c / 26 % 8).toNat
theorem len_base (c : Int) : ((wBase c).length : Int) = 1 + c / 26 % 8 := by
  unfold wBase
  rw [len_repS, len_ltr, Nat.mul_one]
  omega
def wAt (c : Int) : Int := c / 208 % ((wBase c).length : Int)
def wA (c : Int) (k : Nat) : Str := repS (ltr (c % 26)) (1 + (k : Int)).toNat
def wB (c : Int) (k : Nat) : Str := cutS (wBase c) none (some (wAt c)) ++ ltr ((c / 4992 + 5 * (k : Int)) % 26) ++ cutS (wBase c) (some (wAt c + 1)) none
def wordF (c : Int) (k : Nat) : Str := if c / 1664 % 3 = 1 then wA c k else wB c k
def wordsF (c : Int) (m : Nat) : List Str := (List.range m).map (wordF c)
theorem len_app (a b : Str) : (a ++ b).length = a.length + b.length := by
  show (a.cps ++ b.cps).size = _
  rw [Array.size_append]; rfl
theorem F_words (n : Nat) (c : Int) (m : Nat) (hm : m ≤ 100) (st : VSt) : Fm D (n + 1) i__law_words [.int c, .int (m : Int)] st = .ok (.lst ((wordsF c m).map PV.str)) st := by
  rw [c__law_words]
  unfold b__law_words
  have hb := len_base c
  have hat : 0 ≤ wAt c := Int.emod_nonneg _ (by omega)
  have e0 : ("abcdefghijklmnopqrstuvwxyz" : Str) = Ls := rfl
  have e1 : repS (ltr (c % 26)) (1 + c / 26 % 8).toNat = wBase c := rfl
  have e2 : c / 208 % ((wBase c).length : Int) = wAt c := rfl
  have l1 := len_ltr (c % 26)
  have hp : pures ((wordsF c m).map PV.str) = true := pures_strs _
  by_cases ht : c / 1664 % 3 = 1
  · simp -implicitDefEqProofs (disch := omega) only [bind_ok, s_ok, sb_nx, sb_rt, sb_ct, sb_bk, onB_bl, onBS_bl, x_var, x_c, x_bin, x_un, x_nil, x_cons, x_tup, x_lst, x_app, x_and, x_or, x_not, x_if, x_box, x_get, x_sl, x_onone, x_osome, x_snil, x_scons, x_set, x_expr, x_ret, x_retB, x_sif, x_bk, x_ct, x_aug, x_asg, x_gname, x_gnil, x_gcons, x_gtup, mkt0, mkl0, mkt1, mkl1, mkt2, mkl2, mkt3, mkl3, mkt4, mkl4, mkt5, mkl5, mkt6, mkl6, mkt7, mkl7, v_il0, v_it0, v_il1, v_it1, v_il2, v_it2, v_il3, v_it3, v_il4, v_it4, v_il5, v_it5, v_add, v_addI, v_sub, v_neg, v_mul, v_fdv, v_mod, v_cmp, v_eqs, v_nes, v_eqi, v_nei, v_eqb, v_ixc, opt_some, v_lenl, v_lent, v_lenc, v_tupt, v_tupl, v_intb, v_inti, v_max, v_isn, v_isnn, end_rt, end_nx, fz_int, fz_str, fz_bl, fz_non, List.getElem?_cons_zero, List.getElem?_cons_succ, List.set_cons_zero, List.set_cons_succ, List.length_cons, List.length_nil, List.take_length, Option.map_some, oldLoc, Bool.false_and, Bool.and_false, Bool.true_and, Bool.and_true, Bool.not_true, Bool.not_false, Bool.false_eq_true, decide_true, decide_false, decide_eq_true_eq, if_true, if_false, ↓reduceIte, Nat.reduceAdd, Nat.reduceLeDiff, e0, v_ltr, v_muls, e1, v_lens, e2, ht]
    rw [comp_rng (m := (m : Int)) (f := fun k => .str (wordF c k)) rfl (by omega) (by omega) (fun k hk => by
      simp -implicitDefEqProofs (disch := omega) only [bind_ok, s_ok, sb_nx, sb_rt, sb_ct, sb_bk, onB_bl, onBS_bl, x_var, x_c, x_bin, x_un, x_nil, x_cons, x_tup, x_lst, x_app, x_and, x_or, x_not, x_if, x_box, x_get, x_sl, x_onone, x_osome, x_snil, x_scons, x_set, x_expr, x_ret, x_retB, x_sif, x_bk, x_ct, x_aug, x_asg, x_gname, x_gnil, x_gcons, x_gtup, mkt0, mkl0, mkt1, mkl1, mkt2, mkl2, mkt3, mkl3, mkt4, mkl4, mkt5, mkl5, mkt6, mkl6, mkt7, mkl7, v_il0, v_it0, v_il1, v_it1, v_il2, v_it2, v_il3, v_it3, v_il4, v_it4, v_il5, v_it5, v_add, v_addI, v_sub, v_neg, v_mul, v_fdv, v_mod, v_cmp, v_eqs, v_nes, v_eqi, v_nei, v_eqb, v_ixc, opt_some, v_lenl, v_lent, v_lenc, v_tupt, v_tupl, v_intb, v_inti, v_max, v_isn, v_isnn, end_rt, end_nx, fz_int, fz_str, fz_bl, fz_non, List.getElem?_cons_zero, List.getElem?_cons_succ, List.set_cons_zero, List.set_cons_succ, List.length_cons, List.length_nil, List.take_length, Option.map_some, oldLoc, Bool.false_and, Bool.and_false, Bool.true_and, Bool.and_true, Bool.not_true, Bool.not_false, Bool.false_eq_true, decide_true, decide_false, decide_eq_true_eq, if_true, if_false, ↓reduceIte, Nat.reduceAdd, Nat.reduceLeDiff, v_ltr, v_muls]
      simp only [wordF, ht, if_true, wA])]
    simp only [s_ok, sb_rt, end_rt, Bool.false_and, Bool.false_eq_true, if_false, List.take_length]
    have e3 : (List.range (m : Int).toNat).map (fun k => PV.str (wordF c k)) = (wordsF c m).map PV.str := by
      rw [Int.toNat_natCast]; unfold wordsF; rw [List.map_map]; rfl
    rw [e3, fz_lst hp]
  · have ht' : decide (c / 1664 % 3 = 1) = false := decide_eq_false ht
    simp -implicitDefEqProofs (disch := omega) only [bind_ok, s_ok, sb_nx, sb_rt, sb_ct, sb_bk, onB_bl, onBS_bl, x_var, x_c, x_bin, x_un, x_nil, x_cons, x_tup, x_lst, x_app, x_and, x_or, x_not, x_if, x_box, x_get, x_sl, x_onone, x_osome, x_snil, x_scons, x_set, x_expr, x_ret, x_retB, x_sif, x_bk, x_ct, x_aug, x_asg, x_gname, x_gnil, x_gcons, x_gtup, mkt0, mkl0, mkt1, mkl1, mkt2, mkl2, mkt3, mkl3, mkt4, mkl4, mkt5, mkl5, mkt6, mkl6, mkt7, mkl7, v_il0, v_it0, v_il1, v_it1, v_il2, v_it2, v_il3, v_it3, v_il4, v_it4, v_il5, v_it5, v_add, v_addI, v_sub, v_neg, v_mul, v_fdv, v_mod, v_cmp, v_eqs, v_nes, v_eqi, v_nei, v_eqb, v_ixc, opt_some, v_lenl, v_lent, v_lenc, v_tupt, v_tupl, v_intb, v_inti, v_max, v_isn, v_isnn, end_rt, end_nx, fz_int, fz_str, fz_bl, fz_non, List.getElem?_cons_zero, List.getElem?_cons_succ, List.set_cons_zero, List.set_cons_succ, List.length_cons, List.length_nil, List.take_length, Option.map_some, oldLoc, Bool.false_and, Bool.and_false, Bool.true_and, Bool.and_true, Bool.not_true, Bool.not_false, Bool.false_eq_true, decide_true, decide_false, decide_eq_true_eq, if_true, if_false, ↓reduceIte, Nat.reduceAdd, Nat.reduceLeDiff, e0, v_ltr, v_muls, e1, v_lens, e2, ht']
    rw [comp_rng (m := (m : Int)) (f := fun k => .str (wordF c k)) rfl (by omega) (by omega) (fun k hk => by
      have l2 := len_ltr ((c / 4992 + 5 * (k : Int)) % 26)
      have l3 := cutS_length (wBase c) none (some (wAt c))
      have l4 := cutS_length (wBase c) (some (wAt c + 1)) none
      have l5 := len_app (cutS (wBase c) none (some (wAt c))) (ltr ((c / 4992 + 5 * (k : Int)) % 26))
      simp -implicitDefEqProofs (disch := omega) only [bind_ok, s_ok, sb_nx, sb_rt, sb_ct, sb_bk, onB_bl, onBS_bl, x_var, x_c, x_bin, x_un, x_nil, x_cons, x_tup, x_lst, x_app, x_and, x_or, x_not, x_if, x_box, x_get, x_sl, x_onone, x_osome, x_snil, x_scons, x_set, x_expr, x_ret, x_retB, x_sif, x_bk, x_ct, x_aug, x_asg, x_gname, x_gnil, x_gcons, x_gtup, mkt0, mkl0, mkt1, mkl1, mkt2, mkl2, mkt3, mkl3, mkt4, mkl4, mkt5, mkl5, mkt6, mkl6, mkt7, mkl7, v_il0, v_it0, v_il1, v_it1, v_il2, v_it2, v_il3, v_it3, v_il4, v_it4, v_il5, v_it5, v_add, v_addI, v_sub, v_neg, v_mul, v_fdv, v_mod, v_cmp, v_eqs, v_nes, v_eqi, v_nei, v_eqb, v_ixc, opt_some, v_lenl, v_lent, v_lenc, v_tupt, v_tupl, v_intb, v_inti, v_max, v_isn, v_isnn, end_rt, end_nx, fz_int, fz_str, fz_bl, fz_non, List.getElem?_cons_zero, List.getElem?_cons_succ, List.set_cons_zero, List.set_cons_succ, List.length_cons, List.length_nil, List.take_length, Option.map_some, oldLoc, Bool.false_and, Bool.and_false, Bool.true_and, Bool.and_true, Bool.not_true, Bool.not_false, Bool.false_eq_true, decide_true, decide_false, decide_eq_true_eq, if_true, if_false, ↓reduceIte, Nat.reduceAdd, Nat.reduceLeDiff, v_ltr, v_muls, v_sls, v_adds]
      simp only [wordF, ht, if_false, wB])]
    simp only [s_ok, sb_rt, end_rt, Bool.false_and, Bool.false_eq_true, if_false, List.take_length]
    have e3 : (List.range (m : Int).toNat).map (fun k => PV.str (wordF c k)) = (wordsF c m).map PV.str := by
      rw [Int.toNat_natCast]; unfold wordsF; rw [List.map_map]; rfl
    rw [e3, fz_lst hp]
theorem len_words (c : Int) (m : Nat) : (wordsF c m).length = m := by simp [wordsF]
end Lk

namespace Lk
open PySem L2 Vm
/-! ## terms -/
inductive Trm where
  | num (n : Int)
  | name (x : Str)
  | bin (k : Nat) (a b : Trm)
def opS : Nat → Str
  | 0 => "sum"
  | 1 => "less"
  | _ => "times"
def Trm.pv : Trm → PV
  | .num n => .tup [.str "num", .int n]
  | .name x => .tup [.str "name", .str x]
  | .bin k a b => .tup [.str (opS k), a.pv, b.pv]
theorem Trm.pure : ∀ t : Trm, pureP t.pv = true
  | .num n => rfl
  | .name x => rfl
  | .bin k a b => by
    show pures [.str (opS k), a.pv, b.pv] = true
    simp [pures, pureP, a.pure, b.pure]
theorem fz_tm {s : VSt} {k : Nat} (t : Trm) : freeze s k t.pv = t.pv := freeze_pure _ t.pure
theorem fz_tup {s : VSt} {k : Nat} {xs : List PV} : freeze s k (.tup xs) = .tup (freezes s k xs) := by unfold freeze; exact Eq.trans rfl rfl
theorem fzs_nil {s : VSt} {k : Nat} : freezes s k [] = [] := by unfold freezes; exact Eq.trans rfl rfl
theorem fzs_cons {s : VSt} {k : Nat} {x : PV} {xs : List PV} : freezes s k (x :: xs) = freeze s k x :: freezes s k xs := by rw [freezes]
def Trm.size : Trm → Nat
  | .bin _ a b => a.size + b.size + 1
  | _ => 1
def Trm.depth : Trm → Nat
  | .bin _ a b => max a.depth b.depth + 1
  | _ => 0
/-- numbers in their range, names of the words -/
def Trm.Good (ok : Str → Prop) : Trm → Prop
  | .num n => 0 ≤ n ∧ n < 1000003
  | .name x => ok x
  | .bin k a b => k < 3 ∧ a.Good ok ∧ b.Good ok
def leafF (ws : List Str) (c : Int) : Trm :=
  if c % 6 = 0 then .num (c / 6 % 3) else if c % 6 = 1 then .num (c / 6 % 1000003) else .name (ws.getD (c / 6 % (ws.length : Int)).toNat "")
def termF (ws : List Str) : Nat → Int → Trm
  | 0, c => leafF ws c
  | d + 1, c => if c % 6 < 4 then leafF ws c else .bin (c / 6 % 3).toNat (termF ws d (mixedF c 1)) (termF ws d (mixedF c 2))
theorem v_word {ws : List Str} {i : Int} {st : VSt} (h0 : 0 ≤ i) (h1 : i < (ws.length : Int)) : vIx (.lst (ws.map PV.str)) (.int i) st = .ok (.str (ws.getD i.toNat "")) st := by
  rw [v_ixl, at_in h0 (by rw [List.length_map]; exact h1)]
  have : i.toNat < ws.length := by omega
  rw [List.getElem_map, List.getD_eq_getElem?_getD, List.getElem?_eq_getElem this]
  rfl
theorem v_ops {i : Int} {st : VSt} (h0 : 0 ≤ i) (h1 : i < 3) : vIx (.lst [.str "sum", .str "less", .str "times"]) (.int i) st = .ok (.str (opS i.toNat)) st := by
  have : i = 0 ∨ i = 1 ∨ i = 2 := by omega
  rcases this with rfl | rfl | rfl
  · rw [v_ixl, at_0]; exact Eq.trans rfl rfl
  · rw [v_ixl, at_1]; exact Eq.trans rfl rfl
  · rw [v_ixl, at_2]; exact Eq.trans rfl rfl
theorem leaf_good {ws : List Str} (c : Int) (hw : 0 < ws.length) : (leafF ws c).Good (· ∈ ws) := by
  unfold leafF
  split
  · show 0 ≤ c / 6 % 3 ∧ c / 6 % 3 < 1000003
    omega
  · split
    · show 0 ≤ c / 6 % 1000003 ∧ c / 6 % 1000003 < 1000003
      omega
    · show ws.getD _ _ ∈ ws
      have h0 : 0 ≤ c / 6 % (ws.length : Int) := Int.emod_nonneg _ (by omega)
      have h1 : c / 6 % (ws.length : Int) < ws.length := Int.emod_lt_of_pos _ (by omega)
      have : (c / 6 % (ws.length : Int)).toNat < ws.length := by omega
      rw [List.getD_eq_getElem?_getD, List.getElem?_eq_getElem this]
      exact List.getElem_mem _
theorem term_good {ws : List Str} (hw : 0 < ws.length) : ∀ (d : Nat) (c : Int), (termF ws d c).Good (· ∈ ws)
  | 0, c => leaf_good c hw
  | d + 1, c => by
    unfold termF
    split
    · exact leaf_good c hw
    · exact ⟨by omega, term_good hw d _, term_good hw d _⟩
theorem leaf_depth (ws : List Str) (c : Int) : (leafF ws c).depth = 0 := by
  unfold leafF
  split
  · rfl
  · split <;> rfl
theorem leaf_size (ws : List Str) (c : Int) : (leafF ws c).size = 1 := by
  unfold leafF
  split
  · rfl
  · split <;> rfl
theorem term_depth (ws : List Str) : ∀ (d : Nat) (c : Int), (termF ws d c).depth ≤ d
  | 0, c => by unfold termF; rw [leaf_depth]; exact Nat.le_refl _
  | d + 1, c => by
    unfold termF
    split
    · rw [leaf_depth]; exact Nat.zero_le _
    · have h1 := term_depth ws d (mixedF c 1)
      have h2 := term_depth ws d (mixedF c 2)
      show max _ _ + 1 ≤ _
      omega
theorem term_size (ws : List Str) : ∀ (d : Nat) (c : Int), (termF ws d c).size < 2 ^ (d + 1)
  | 0, c => by unfold termF; rw [leaf_size]; decide
  | d + 1, c => by
    have h3 : 2 ^ (d + 1 + 1) = 2 * 2 ^ (d + 1) := by rw [Nat.pow_succ]; omega
    have h4 : 0 < 2 ^ (d + 1) := Nat.two_pow_pos _
    unfold termF
    split
    · rw [leaf_size]; omega
    · have h1 := term_size ws d (mixedF c 1)
      have h2 := term_size ws d (mixedF c 2)
      show _ + _ + 1 < _
      omega
theorem F_leaf {n : Nat} {c : Int} {ws : List Str} {d : Nat} {st : VSt} (hw : 0 < ws.length) (hd : c % 6 < 4 ∨ d = 0) : Fm D (n + 1) i__law_term [.int c, .lst (ws.map PV.str), .int (d : Int)] st = .ok (leafF ws c).pv st := by
  rw [c__law_term]
  unfold b__law_term leafF
  have hl : ((ws.map PV.str).length : Int) = (ws.length : Int) := by rw [List.length_map]
  have h0 : 0 ≤ c / 6 % (ws.length : Int) := Int.emod_nonneg _ (by omega)
  have h1 : c / 6 % (ws.length : Int) < ws.length := Int.emod_lt_of_pos _ (by omega)
  by_cases k0 : c % 6 = 0
  · simp -implicitDefEqProofs (disch := omega) only [bind_ok, s_ok, sb_nx, sb_rt, sb_ct, sb_bk, onB_bl, onBS_bl, x_var, x_c, x_bin, x_un, x_nil, x_cons, x_tup, x_lst, x_app, x_and, x_or, x_not, x_if, x_box, x_get, x_sl, x_onone, x_osome, x_snil, x_scons, x_set, x_expr, x_ret, x_retB, x_sif, x_bk, x_ct, x_aug, x_asg, x_gname, x_gnil, x_gcons, x_gtup, mkt0, mkl0, mkt1, mkl1, mkt2, mkl2, mkt3, mkl3, mkt4, mkl4, mkt5, mkl5, mkt6, mkl6, mkt7, mkl7, v_il0, v_it0, v_il1, v_it1, v_il2, v_it2, v_il3, v_it3, v_il4, v_it4, v_il5, v_it5, v_add, v_addI, v_sub, v_neg, v_mul, v_fdv, v_mod, v_cmp, v_eqs, v_nes, v_eqi, v_nei, v_eqb, v_ixc, opt_some, v_lenl, v_lent, v_lenc, v_tupt, v_tupl, v_intb, v_inti, v_max, v_isn, v_isnn, end_rt, end_nx, fz_int, fz_str, fz_bl, fz_non, List.getElem?_cons_zero, List.getElem?_cons_succ, List.set_cons_zero, List.set_cons_succ, List.length_cons, List.length_nil, List.take_length, Option.map_some, oldLoc, Bool.false_and, Bool.and_false, Bool.true_and, Bool.and_true, Bool.not_true, Bool.not_false, Bool.false_eq_true, decide_true, decide_false, decide_eq_true_eq, if_true, if_false, ↓reduceIte, Nat.reduceAdd, Nat.reduceLeDiff, k0, fz_tup, fzs_nil, fzs_cons, Trm.pv]
  · have k0' : decide (c % 6 = 0) = false := decide_eq_false k0
    by_cases k1 : c % 6 = 1
    · simp -implicitDefEqProofs (disch := omega) only [bind_ok, s_ok, sb_nx, sb_rt, sb_ct, sb_bk, onB_bl, onBS_bl, x_var, x_c, x_bin, x_un, x_nil, x_cons, x_tup, x_lst, x_app, x_and, x_or, x_not, x_if, x_box, x_get, x_sl, x_onone, x_osome, x_snil, x_scons, x_set, x_expr, x_ret, x_retB, x_sif, x_bk, x_ct, x_aug, x_asg, x_gname, x_gnil, x_gcons, x_gtup, mkt0, mkl0, mkt1, mkl1, mkt2, mkl2, mkt3, mkl3, mkt4, mkl4, mkt5, mkl5, mkt6, mkl6, mkt7, mkl7, v_il0, v_it0, v_il1, v_it1, v_il2, v_it2, v_il3, v_it3, v_il4, v_it4, v_il5, v_it5, v_add, v_addI, v_sub, v_neg, v_mul, v_fdv, v_mod, v_cmp, v_eqs, v_nes, v_eqi, v_nei, v_eqb, v_ixc, opt_some, v_lenl, v_lent, v_lenc, v_tupt, v_tupl, v_intb, v_inti, v_max, v_isn, v_isnn, end_rt, end_nx, fz_int, fz_str, fz_bl, fz_non, List.getElem?_cons_zero, List.getElem?_cons_succ, List.set_cons_zero, List.set_cons_succ, List.length_cons, List.length_nil, List.take_length, Option.map_some, oldLoc, Bool.false_and, Bool.and_false, Bool.true_and, Bool.and_true, Bool.not_true, Bool.not_false, Bool.false_eq_true, decide_true, decide_false, decide_eq_true_eq, if_true, if_false, ↓reduceIte, Nat.reduceAdd, Nat.reduceLeDiff, k1, fz_tup, fzs_nil, fzs_cons, Trm.pv, Int.reduceEq]
    · have k1' : decide (c % 6 = 1) = false := decide_eq_false k1
      by_cases k2 : c % 6 < 4
      · have k2' : decide (c % 6 < 4) = true := decide_eq_true k2
        simp -implicitDefEqProofs (disch := omega) only [bind_ok, s_ok, sb_nx, sb_rt, sb_ct, sb_bk, onB_bl, onBS_bl, x_var, x_c, x_bin, x_un, x_nil, x_cons, x_tup, x_lst, x_app, x_and, x_or, x_not, x_if, x_box, x_get, x_sl, x_onone, x_osome, x_snil, x_scons, x_set, x_expr, x_ret, x_retB, x_sif, x_bk, x_ct, x_aug, x_asg, x_gname, x_gnil, x_gcons, x_gtup, mkt0, mkl0, mkt1, mkl1, mkt2, mkl2, mkt3, mkl3, mkt4, mkl4, mkt5, mkl5, mkt6, mkl6, mkt7, mkl7, v_il0, v_it0, v_il1, v_it1, v_il2, v_it2, v_il3, v_it3, v_il4, v_it4, v_il5, v_it5, v_add, v_addI, v_sub, v_neg, v_mul, v_fdv, v_mod, v_cmp, v_eqs, v_nes, v_eqi, v_nei, v_eqb, v_ixc, opt_some, v_lenl, v_lent, v_lenc, v_tupt, v_tupl, v_intb, v_inti, v_max, v_isn, v_isnn, end_rt, end_nx, fz_int, fz_str, fz_bl, fz_non, List.getElem?_cons_zero, List.getElem?_cons_succ, List.set_cons_zero, List.set_cons_succ, List.length_cons, List.length_nil, List.take_length, Option.map_some, oldLoc, Bool.false_and, Bool.and_false, Bool.true_and, Bool.and_true, Bool.not_true, Bool.not_false, Bool.false_eq_true, decide_true, decide_false, decide_eq_true_eq, if_true, if_false, ↓reduceIte, Nat.reduceAdd, Nat.reduceLeDiff, k0', k1', k2', k0, k1, fz_tup, fzs_nil, fzs_cons, Trm.pv, hl, v_word]
      · have k2' : decide (c % 6 < 4) = false := decide_eq_false k2
        have k3 : d = 0 := by omega
        have k3' : decide ((d : Int) = 0) = true := by rw [k3]; rfl
        simp -implicitDefEqProofs (disch := omega) only [bind_ok, s_ok, sb_nx, sb_rt, sb_ct, sb_bk, onB_bl, onBS_bl, x_var, x_c, x_bin, x_un, x_nil, x_cons, x_tup, x_lst, x_app, x_and, x_or, x_not, x_if, x_box, x_get, x_sl, x_onone, x_osome, x_snil, x_scons, x_set, x_expr, x_ret, x_retB, x_sif, x_bk, x_ct, x_aug, x_asg, x_gname, x_gnil, x_gcons, x_gtup, mkt0, mkl0, mkt1, mkl1, mkt2, mkl2, mkt3, mkl3, mkt4, mkl4, mkt5, mkl5, mkt6, mkl6, mkt7, mkl7, v_il0, v_it0, v_il1, v_it1, v_il2, v_it2, v_il3, v_it3, v_il4, v_it4, v_il5, v_it5, v_add, v_addI, v_sub, v_neg, v_mul, v_fdv, v_mod, v_cmp, v_eqs, v_nes, v_eqi, v_nei, v_eqb, v_ixc, opt_some, v_lenl, v_lent, v_lenc, v_tupt, v_tupl, v_intb, v_inti, v_max, v_isn, v_isnn, end_rt, end_nx, fz_int, fz_str, fz_bl, fz_non, List.getElem?_cons_zero, List.getElem?_cons_succ, List.set_cons_zero, List.set_cons_succ, List.length_cons, List.length_nil, List.take_length, Option.map_some, oldLoc, Bool.false_and, Bool.and_false, Bool.true_and, Bool.and_true, Bool.not_true, Bool.not_false, Bool.false_eq_true, decide_true, decide_false, decide_eq_true_eq, if_true, if_false, ↓reduceIte, Nat.reduceAdd, Nat.reduceLeDiff, k0', k1', k2', k3', k0, k1, fz_tup, fzs_nil, fzs_cons, Trm.pv, hl, v_word]
theorem F_term {ws : List Str} (hw : 0 < ws.length) : ∀ (d n : Nat) (c : Int) (st : VSt), Fm D (n + d + 2) i__law_term [.int c, .lst (ws.map PV.str), .int (d : Int)] st = .ok (termF ws d c).pv st
  | 0, n, c, st => F_leaf hw (.inr rfl)
  | d + 1, n, c, st => by
    unfold termF
    by_cases k2 : c % 6 < 4
    · rw [if_pos k2]
      exact F_leaf hw (.inl k2)
    · rw [if_neg k2]
      have e1 : n + (d + 1) + 2 = (n + d + 2) + 1 := by omega
      rw [e1, c__law_term]
      unfold b__law_term
      have k0' : decide (c % 6 = 0) = false := decide_eq_false (by omega)
      have k1' : decide (c % 6 = 1) = false := decide_eq_false (by omega)
      have k2' : decide (c % 6 < 4) = false := decide_eq_false k2
      have k3' : decide (((d + 1 : Nat) : Int) = 0) = false := decide_eq_false (by omega)
      have e2 : ((d + 1 : Nat) : Int) - 1 = (d : Int) := by omega
      have ih := F_term hw d n
      have fm : ∀ (a k : Int) (s : VSt), Fm D (n + d + 2) i__law_mixed [.int a, .int k] s = .ok (.int (mixedF a k)) s := fun a k s => F_mixed (n + d + 1) a k s
      have m3 : ∀ x : Int, 0 ≤ x % 3 ∧ x % 3 < 3 := fun x => by omega
      simp -implicitDefEqProofs (disch := omega) only [bind_ok, s_ok, sb_nx, sb_rt, sb_ct, sb_bk, onB_bl, onBS_bl, x_var, x_c, x_bin, x_un, x_nil, x_cons, x_tup, x_lst, x_app, x_and, x_or, x_not, x_if, x_box, x_get, x_sl, x_onone, x_osome, x_snil, x_scons, x_set, x_expr, x_ret, x_retB, x_sif, x_bk, x_ct, x_aug, x_asg, x_gname, x_gnil, x_gcons, x_gtup, mkt0, mkl0, mkt1, mkl1, mkt2, mkl2, mkt3, mkl3, mkt4, mkl4, mkt5, mkl5, mkt6, mkl6, mkt7, mkl7, v_il0, v_it0, v_il1, v_it1, v_il2, v_it2, v_il3, v_it3, v_il4, v_it4, v_il5, v_it5, v_add, v_addI, v_sub, v_neg, v_mul, v_fdv, v_mod, v_cmp, v_eqs, v_nes, v_eqi, v_nei, v_eqb, v_ixc, opt_some, v_lenl, v_lent, v_lenc, v_tupt, v_tupl, v_intb, v_inti, v_max, v_isn, v_isnn, end_rt, end_nx, fz_int, fz_str, fz_bl, fz_non, List.getElem?_cons_zero, List.getElem?_cons_succ, List.set_cons_zero, List.set_cons_succ, List.length_cons, List.length_nil, List.take_length, Option.map_some, oldLoc, Bool.false_and, Bool.and_false, Bool.true_and, Bool.and_true, Bool.not_true, Bool.not_false, Bool.false_eq_true, decide_true, decide_false, decide_eq_true_eq, if_true, if_false, ↓reduceIte, Nat.reduceAdd, Nat.reduceLeDiff, k0', k1', k2', k3', e2, ih, fm, v_ops, fz_tup, fzs_nil, fzs_cons, fz_tm, Trm.pv]
end Lk

namespace Lk
open PySem L2 Vm
/-! ## names -/
def put (ks : List Str) (x : Str) : List Str := if x ∈ ks then ks else ks ++ [x]
def Trm.names : Trm → List Str
  | .num _ => []
  | .name x => [x]
  | .bin _ a b => a.names ++ b.names
def Trm.once (t : Trm) : List Str := t.names.foldl put []
theorem Trm.names_len : ∀ t : Trm, t.names.length ≤ t.size
  | .num _ => Nat.zero_le _
  | .name _ => Nat.le_refl _
  | .bin k a b => by
    have h1 := a.names_len
    have h2 := b.names_len
    show (a.names ++ b.names).length ≤ a.size + b.size + 1
    rw [List.length_append]; omega
theorem put_len (ks : List Str) (x : Str) : (put ks x).length ≤ ks.length + 1 := by
  unfold put
  split
  · omega
  · rw [List.length_append]; exact Nat.le_refl _
theorem puts_len : ∀ (xs ks : List Str), (xs.foldl put ks).length ≤ ks.length + xs.length
  | [], ks => Nat.le_refl _
  | x :: xs, ks => by
    have h1 := puts_len xs (put ks x)
    have h2 := put_len ks x
    rw [List.foldl_cons, List.length_cons]; omega
theorem mem_put {ks : List Str} {x y : Str} (h : y ∈ put ks x) : y ∈ ks ∨ y = x := by
  unfold put at h
  split at h
  · exact .inl h
  · rcases List.mem_append.mp h with z | z
    · exact .inl z
    · exact .inr (by simpa using z)
theorem mem_puts : ∀ {xs ks : List Str} {y : Str}, y ∈ xs.foldl put ks → y ∈ ks ∨ y ∈ xs
  | [], ks, y, h => .inl h
  | x :: xs, ks, y, h => by
    rcases mem_puts (xs := xs) h with z | z
    · rcases mem_put z with z | z
      · exact .inl z
      · exact .inr (by rw [z]; exact List.mem_cons_self)
    · exact .inr (List.mem_cons_of_mem _ z)
theorem Trm.good_names {ok : Str → Prop} : ∀ {t : Trm}, t.Good ok → ∀ x ∈ t.names, ok x
  | .num _, _, x, h => by cases h
  | .name y, g, x, h => by
    obtain rfl : x = y := by simpa [Trm.names] using h
    exact g
  | .bin k a b, g, x, h => by
    rcases List.mem_append.mp h with z | z
    · exact a.good_names g.2.1 x z
    · exact b.good_names g.2.2 x z
theorem opS_ne (k : Nat) : decide (opS k = "name") = false ∧ decide (opS k = "num") = false := by
  rcases k with _ | _ | k
  · exact ⟨by decide, by decide⟩
  · exact ⟨by decide, by decide⟩
  · show decide (("times" : Str) = "name") = false ∧ decide (("times" : Str) = "num") = false
    exact ⟨by decide, by decide⟩
theorem F_lnames : ∀ (t : Trm) (n : Nat) (st : VSt), t.size ≤ 1000000 → Fm D (n + t.depth + 1) i__law_names [t.pv] st = .ok (.lst (t.names.map PV.str)) st
  | .num i, n, st, _ => by
    rw [c__law_names]
    unfold b__law_names
    have e : decide (("num" : Str) = "name") = false := by decide
    have e2 : decide (("num" : Str) = "num") = true := by decide
    have hp : pures [] = true := rfl
    simp -implicitDefEqProofs (disch := omega) only [bind_ok, s_ok, sb_nx, sb_rt, sb_ct, sb_bk, onB_bl, onBS_bl, x_var, x_c, x_bin, x_un, x_nil, x_cons, x_tup, x_lst, x_app, x_and, x_or, x_not, x_if, x_box, x_get, x_sl, x_onone, x_osome, x_snil, x_scons, x_set, x_expr, x_ret, x_retB, x_sif, x_bk, x_ct, x_aug, x_asg, x_gname, x_gnil, x_gcons, x_gtup, mkt0, mkl0, mkt1, mkl1, mkt2, mkl2, mkt3, mkl3, mkt4, mkl4, mkt5, mkl5, mkt6, mkl6, mkt7, mkl7, v_il0, v_it0, v_il1, v_it1, v_il2, v_it2, v_il3, v_it3, v_il4, v_it4, v_il5, v_it5, v_add, v_addI, v_sub, v_neg, v_mul, v_fdv, v_mod, v_cmp, v_eqs, v_nes, v_eqi, v_nei, v_eqb, v_ixc, opt_some, v_lenl, v_lent, v_lenc, v_tupt, v_tupl, v_intb, v_inti, v_max, v_isn, v_isnn, end_rt, end_nx, fz_int, fz_str, fz_bl, fz_non, List.getElem?_cons_zero, List.getElem?_cons_succ, List.set_cons_zero, List.set_cons_succ, List.length_cons, List.length_nil, List.take_length, Option.map_some, oldLoc, Bool.false_and, Bool.and_false, Bool.true_and, Bool.and_true, Bool.not_true, Bool.not_false, Bool.false_eq_true, decide_true, decide_false, decide_eq_true_eq, if_true, if_false, ↓reduceIte, Nat.reduceAdd, Nat.reduceLeDiff, Trm.pv, e, e2, fz_lst hp, Trm.names, List.map_nil]
  | .name x, n, st, _ => by
    rw [c__law_names]
    unfold b__law_names
    have e : decide (("name" : Str) = "name") = true := by decide
    have hp : pures [PV.str x] = true := rfl
    simp -implicitDefEqProofs (disch := omega) only [bind_ok, s_ok, sb_nx, sb_rt, sb_ct, sb_bk, onB_bl, onBS_bl, x_var, x_c, x_bin, x_un, x_nil, x_cons, x_tup, x_lst, x_app, x_and, x_or, x_not, x_if, x_box, x_get, x_sl, x_onone, x_osome, x_snil, x_scons, x_set, x_expr, x_ret, x_retB, x_sif, x_bk, x_ct, x_aug, x_asg, x_gname, x_gnil, x_gcons, x_gtup, mkt0, mkl0, mkt1, mkl1, mkt2, mkl2, mkt3, mkl3, mkt4, mkl4, mkt5, mkl5, mkt6, mkl6, mkt7, mkl7, v_il0, v_it0, v_il1, v_it1, v_il2, v_it2, v_il3, v_it3, v_il4, v_it4, v_il5, v_it5, v_add, v_addI, v_sub, v_neg, v_mul, v_fdv, v_mod, v_cmp, v_eqs, v_nes, v_eqi, v_nei, v_eqb, v_ixc, opt_some, v_lenl, v_lent, v_lenc, v_tupt, v_tupl, v_intb, v_inti, v_max, v_isn, v_isnn, end_rt, end_nx, fz_int, fz_str, fz_bl, fz_non, List.getElem?_cons_zero, List.getElem?_cons_succ, List.set_cons_zero, List.set_cons_succ, List.length_cons, List.length_nil, List.take_length, Option.map_some, oldLoc, Bool.false_and, Bool.and_false, Bool.true_and, Bool.and_true, Bool.not_true, Bool.not_false, Bool.false_eq_true, decide_true, decide_false, decide_eq_true_eq, if_true, if_false, ↓reduceIte, Nat.reduceAdd, Nat.reduceLeDiff, Trm.pv, e, fz_lst hp, Trm.names, List.map_nil, List.map_cons]
  | .bin k a b, n, st, hs => by
    have hs' : a.size + b.size + 1 ≤ 1000000 := hs
    have l1 := a.names_len
    have l2 := b.names_len
    have e0 : n + (Trm.bin k a b).depth + 1 = (n + max a.depth b.depth + 1) + 1 := rfl
    have ha : Fm D (n + max a.depth b.depth + 1) i__law_names [a.pv] = fun s => .ok (.lst (a.names.map PV.str)) s := by
      funext s
      have := F_lnames a (n + (max a.depth b.depth - a.depth)) s (by omega)
      rwa [show n + (max a.depth b.depth - a.depth) + a.depth + 1 = n + max a.depth b.depth + 1 by omega] at this
    have hb : Fm D (n + max a.depth b.depth + 1) i__law_names [b.pv] = fun s => .ok (.lst (b.names.map PV.str)) s := by
      funext s
      have := F_lnames b (n + (max a.depth b.depth - b.depth)) s (by omega)
      rwa [show n + (max a.depth b.depth - b.depth) + b.depth + 1 = n + max a.depth b.depth + 1 by omega] at this
    rw [e0, c__law_names]
    unfold b__law_names
    obtain ⟨e1, e2⟩ := opS_ne k
    have hp : pures (a.names.map PV.str ++ b.names.map PV.str) = true := by rw [← List.map_append]; exact pures_strs _
    have hl : (a.names.map PV.str).length + (b.names.map PV.str).length ≤ 1000000 := by rw [List.length_map, List.length_map]; omega
    simp -implicitDefEqProofs (disch := omega) only [bind_ok, s_ok, sb_nx, sb_rt, sb_ct, sb_bk, onB_bl, onBS_bl, x_var, x_c, x_bin, x_un, x_nil, x_cons, x_tup, x_lst, x_app, x_and, x_or, x_not, x_if, x_box, x_get, x_sl, x_onone, x_osome, x_snil, x_scons, x_set, x_expr, x_ret, x_retB, x_sif, x_bk, x_ct, x_aug, x_asg, x_gname, x_gnil, x_gcons, x_gtup, mkt0, mkl0, mkt1, mkl1, mkt2, mkl2, mkt3, mkl3, mkt4, mkl4, mkt5, mkl5, mkt6, mkl6, mkt7, mkl7, v_il0, v_it0, v_il1, v_it1, v_il2, v_it2, v_il3, v_it3, v_il4, v_it4, v_il5, v_it5, v_add, v_addI, v_sub, v_neg, v_mul, v_fdv, v_mod, v_cmp, v_eqs, v_nes, v_eqi, v_nei, v_eqb, v_ixc, opt_some, v_lenl, v_lent, v_lenc, v_tupt, v_tupl, v_intb, v_inti, v_max, v_isn, v_isnn, end_rt, end_nx, fz_int, fz_str, fz_bl, fz_non, List.getElem?_cons_zero, List.getElem?_cons_succ, List.set_cons_zero, List.set_cons_succ, List.length_cons, List.length_nil, List.take_length, Option.map_some, oldLoc, Bool.false_and, Bool.and_false, Bool.true_and, Bool.and_true, Bool.not_true, Bool.not_false, Bool.false_eq_true, decide_true, decide_false, decide_eq_true_eq, if_true, if_false, ↓reduceIte, Nat.reduceAdd, Nat.reduceLeDiff, Trm.pv, e1, e2, ha, hb, v_addl hl, fz_lst hp, Trm.names, List.map_append]
theorem set_end {s : VSt} {p q : PV} : (s ++ [p]).set s.length q = s ++ [q] := by
  rw [List.set_append_right _ _ (Nat.le_refl _), Nat.sub_self]; rfl
theorem deref_end {s : VSt} {p : PV} : deref (s ++ [p]) (.loc s.length) = p := by
  show (s ++ [p]).getD s.length .non = p
  rw [List.getD_eq_getElem?_getD, List.getElem?_append_right (Nat.le_refl _)]
  simp
theorem flats : ∀ xs : List Str, (xs.map PV.str).all flatP = true
  | [] => rfl
  | x :: xs => by rw [List.map_cons, List.all_cons, flats xs]; rfl
theorem inPs (x : Str) : ∀ xs : List Str, inP (.str x) (xs.map PV.str) = decide (x ∈ xs)
  | [] => rfl
  | y :: ys => by
    have := inPs x ys
    unfold inP at this ⊢
    rw [List.map_cons, List.any_cons, this]
    show ((y == x) || _) = _
    by_cases h : y = x
    · subst h; simp
    · have h2 : ¬ x = y := fun z => h z.symm
      simp [h, h2]
theorem v_ninE {s : VSt} {x : Str} {xs : List Str} : vIn true (.str x) (.loc s.length) (s ++ [.lst (xs.map PV.str)]) = .ok (.bl (!decide (x ∈ xs))) (s ++ [.lst (xs.map PV.str)]) := by
  unfold vIn
  rw [deref_end]
  show (if (flatP (.str x) && (xs.map PV.str).all flatP) = true then Res.ok (PV.bl (if true = true then !inP (.str x) (xs.map PV.str) else inP (.str x) (xs.map PV.str))) _ else .bad) = _
  rw [flats, inPs]; rfl
theorem app_end {l a : EM} {env : VEnv} {st s : VSt} {x : Str} {xs : List Str} (hl : l env st = .ok (.loc s.length) st) (hst : st = s ++ [.lst (xs.map PV.str)]) (ha : a env st = .ok (.str x) st) (hn : xs.length < 1000000) : sApp l a env st = .nx env (s ++ [.lst ((xs ++ [x]).map PV.str)]) := by
  subst hst
  unfold sApp
  rw [hl]
  show (match deref (s ++ [PV.lst (xs.map PV.str)]) (.loc s.length) with
    | .lst _ => (a env (s ++ [PV.lst (xs.map PV.str)])).s _
    | _ => SR.bad) = _
  rw [deref_end]
  show (a env (s ++ [PV.lst (xs.map PV.str)])).s _ = _
  rw [ha]
  show (match deref (s ++ [PV.lst (xs.map PV.str)]) (.loc s.length) with
    | .lst xs' => if xs'.length < 1000000 ∧ pureP (.str x) = true then SR.nx env ((s ++ [PV.lst (xs.map PV.str)]).set s.length (PV.lst (xs' ++ [PV.str x]))) else .bad
    | _ => SR.bad) = _
  rw [deref_end]
  show (if (xs.map PV.str).length < 1000000 ∧ pureP (.str x) = true then SR.nx env ((s ++ [PV.lst (xs.map PV.str)]).set s.length (PV.lst (xs.map PV.str ++ [PV.str x]))) else .bad) = _
  rw [if_pos ⟨by rw [List.length_map]; exact hn, rfl⟩, set_end, List.map_append]; rfl
theorem once_loop (n : Nat) (p : PV) (s : VSt) : ∀ (ys xs : List Str) (z : Option PV), xs.length + ys.length ≤ 1000000 →
    ∃ z', forL (bodyP (gName 2) (sCons (sIf (eBin (vIn true) (eVar 2) (eVar 1)) (sCons (sApp (eVar 1) (eVar 2)) sNil) sNil) sNil)) (ys.map PV.str) [some p, some (.loc s.length), z] (s ++ [.lst (xs.map PV.str)]) = .nx [some p, some (.loc s.length), z'] (s ++ [.lst ((ys.foldl put xs).map PV.str)])
  | [], xs, z, _ => ⟨z, rfl⟩
  | y :: ys, xs, z, h => by
    have h' : xs.length + (ys.length + 1) ≤ 1000000 := h
    have hl := put_len xs y
    obtain ⟨z', e⟩ := once_loop n p s ys (put xs y) (some (.str y)) (by omega)
    refine ⟨z', ?_⟩
    rw [List.map_cons, forL_cons]
    have hb : bodyP (gName 2) (sCons (sIf (eBin (vIn true) (eVar 2) (eVar 1)) (sCons (sApp (eVar 1) (eVar 2)) sNil) sNil) sNil) (.str y) [some p, some (.loc s.length), z] (s ++ [.lst (xs.map PV.str)]) = .nx [some p, some (.loc s.length), some (.str y)] (s ++ [.lst ((put xs y).map PV.str)]) := by
      by_cases hm : y ∈ xs
      · have hm' : decide (y ∈ xs) = true := decide_eq_true hm
        simp -implicitDefEqProofs (disch := omega) only [bind_ok, s_ok, sb_nx, sb_rt, sb_ct, sb_bk, onB_bl, onBS_bl, x_var, x_c, x_bin, x_un, x_nil, x_cons, x_tup, x_lst, x_app, x_and, x_or, x_not, x_if, x_box, x_get, x_sl, x_onone, x_osome, x_snil, x_scons, x_set, x_expr, x_ret, x_retB, x_sif, x_bk, x_ct, x_aug, x_asg, x_gname, x_gnil, x_gcons, x_gtup, mkt0, mkl0, mkt1, mkl1, mkt2, mkl2, mkt3, mkl3, mkt4, mkl4, mkt5, mkl5, mkt6, mkl6, mkt7, mkl7, v_il0, v_it0, v_il1, v_it1, v_il2, v_it2, v_il3, v_it3, v_il4, v_it4, v_il5, v_it5, v_add, v_addI, v_sub, v_neg, v_mul, v_fdv, v_mod, v_cmp, v_eqs, v_nes, v_eqi, v_nei, v_eqb, v_ixc, opt_some, v_lenl, v_lent, v_lenc, v_tupt, v_tupl, v_intb, v_inti, v_max, v_isn, v_isnn, end_rt, end_nx, fz_int, fz_str, fz_bl, fz_non, List.getElem?_cons_zero, List.getElem?_cons_succ, List.set_cons_zero, List.set_cons_succ, List.length_cons, List.length_nil, List.take_length, Option.map_some, oldLoc, Bool.false_and, Bool.and_false, Bool.true_and, Bool.and_true, Bool.not_true, Bool.not_false, Bool.false_eq_true, decide_true, decide_false, decide_eq_true_eq, if_true, if_false, ↓reduceIte, Nat.reduceAdd, Nat.reduceLeDiff, x_body, v_ninE, hm', put, hm]
      · have hm' : decide (y ∈ xs) = false := decide_eq_false hm
        have ha := app_end (l := eVar 1) (a := eVar 2) (env := [some p, some (.loc s.length), some (.str y)]) (s := s) (xs := xs) (x := y) rfl rfl rfl (by omega)
        simp -implicitDefEqProofs (disch := omega) only [bind_ok, s_ok, sb_nx, sb_rt, sb_ct, sb_bk, onB_bl, onBS_bl, x_var, x_c, x_bin, x_un, x_nil, x_cons, x_tup, x_lst, x_app, x_and, x_or, x_not, x_if, x_box, x_get, x_sl, x_onone, x_osome, x_snil, x_scons, x_set, x_expr, x_ret, x_retB, x_sif, x_bk, x_ct, x_aug, x_asg, x_gname, x_gnil, x_gcons, x_gtup, mkt0, mkl0, mkt1, mkl1, mkt2, mkl2, mkt3, mkl3, mkt4, mkl4, mkt5, mkl5, mkt6, mkl6, mkt7, mkl7, v_il0, v_it0, v_il1, v_it1, v_il2, v_it2, v_il3, v_it3, v_il4, v_it4, v_il5, v_it5, v_add, v_addI, v_sub, v_neg, v_mul, v_fdv, v_mod, v_cmp, v_eqs, v_nes, v_eqi, v_nei, v_eqb, v_ixc, opt_some, v_lenl, v_lent, v_lenc, v_tupt, v_tupl, v_intb, v_inti, v_max, v_isn, v_isnn, end_rt, end_nx, fz_int, fz_str, fz_bl, fz_non, List.getElem?_cons_zero, List.getElem?_cons_succ, List.set_cons_zero, List.set_cons_succ, List.length_cons, List.length_nil, List.take_length, Option.map_some, oldLoc, Bool.false_and, Bool.and_false, Bool.true_and, Bool.and_true, Bool.not_true, Bool.not_false, Bool.false_eq_true, decide_true, decide_false, decide_eq_true_eq, if_true, if_false, ↓reduceIte, Nat.reduceAdd, Nat.reduceLeDiff, x_body, v_ninE, hm', put, hm, ha]
    rw [hb]
    exact e
theorem F_once (n : Nat) (ys : List Str) (st : VSt) (h : ys.length ≤ 1000000) : Fm D (n + 1) i__law_once [.lst (ys.map PV.str)] st = .ok (.lst ((ys.foldl put []).map PV.str)) st := by
  rw [c__law_once]
  unfold b__law_once
  have hb : boxV (.lst []) st = .ok (.loc st.length) (st ++ [.lst []]) := x_boxV rfl
  obtain ⟨z', e⟩ := once_loop n (.lst (ys.map PV.str)) st ys [] none (by simpa using h)
  have e2 : forL (bodyP (gName 2) (sCons (sIf (eBin (vIn true) (eVar 2) (eVar 1)) (sCons (sApp (eVar 1) (eVar 2)) sNil) sNil) sNil)) (ys.map PV.str) [some (.lst (ys.map PV.str)), some (.loc st.length), none] (st ++ [.lst []]) = _ := e
  simp -implicitDefEqProofs (disch := omega) only [bind_ok, s_ok, sb_nx, sb_rt, sb_ct, sb_bk, onB_bl, onBS_bl, x_var, x_c, x_bin, x_un, x_nil, x_cons, x_tup, x_lst, x_app, x_and, x_or, x_not, x_if, x_box, x_get, x_sl, x_onone, x_osome, x_snil, x_scons, x_set, x_expr, x_ret, x_retB, x_sif, x_bk, x_ct, x_aug, x_asg, x_gname, x_gnil, x_gcons, x_gtup, mkt0, mkl0, mkt1, mkl1, mkt2, mkl2, mkt3, mkl3, mkt4, mkl4, mkt5, mkl5, mkt6, mkl6, mkt7, mkl7, v_il0, v_it0, v_il1, v_it1, v_il2, v_it2, v_il3, v_it3, v_il4, v_it4, v_il5, v_it5, v_add, v_addI, v_sub, v_neg, v_mul, v_fdv, v_mod, v_cmp, v_eqs, v_nes, v_eqi, v_nei, v_eqb, v_ixc, opt_some, v_lenl, v_lent, v_lenc, v_tupt, v_tupl, v_intb, v_inti, v_max, v_isn, v_isnn, end_rt, end_nx, fz_int, fz_str, fz_bl, fz_non, List.getElem?_cons_zero, List.getElem?_cons_succ, List.set_cons_zero, List.set_cons_succ, List.length_cons, List.length_nil, List.take_length, Option.map_some, oldLoc, Bool.false_and, Bool.and_false, Bool.true_and, Bool.and_true, Bool.not_true, Bool.not_false, Bool.false_eq_true, decide_true, decide_false, decide_eq_true_eq, if_true, if_false, ↓reduceIte, Nat.reduceAdd, Nat.reduceLeDiff, hb]
  rw [for_lst (xs := ys.map PV.str) rfl, e2]
  simp -implicitDefEqProofs (disch := omega) only [bind_ok, s_ok, sb_nx, sb_rt, sb_ct, sb_bk, onB_bl, onBS_bl, x_var, x_c, x_bin, x_un, x_nil, x_cons, x_tup, x_lst, x_app, x_and, x_or, x_not, x_if, x_box, x_get, x_sl, x_onone, x_osome, x_snil, x_scons, x_set, x_expr, x_ret, x_retB, x_sif, x_bk, x_ct, x_aug, x_asg, x_gname, x_gnil, x_gcons, x_gtup, mkt0, mkl0, mkt1, mkl1, mkt2, mkl2, mkt3, mkl3, mkt4, mkl4, mkt5, mkl5, mkt6, mkl6, mkt7, mkl7, v_il0, v_it0, v_il1, v_it1, v_il2, v_it2, v_il3, v_it3, v_il4, v_it4, v_il5, v_it5, v_add, v_addI, v_sub, v_neg, v_mul, v_fdv, v_mod, v_cmp, v_eqs, v_nes, v_eqi, v_nei, v_eqb, v_ixc, opt_some, v_lenl, v_lent, v_lenc, v_tupt, v_tupl, v_intb, v_inti, v_max, v_isn, v_isnn, end_rt, end_nx, fz_int, fz_str, fz_bl, fz_non, List.getElem?_cons_zero, List.getElem?_cons_succ, List.set_cons_zero, List.set_cons_succ, List.length_cons, List.length_nil, List.take_length, Option.map_some, oldLoc, Bool.false_and, Bool.and_false, Bool.true_and, Bool.and_true, Bool.not_true, Bool.not_false, Bool.false_eq_true, decide_true, decide_false, decide_eq_true_eq, if_true, if_false, ↓reduceIte, Nat.reduceAdd, Nat.reduceLeDiff, ol_loc, fz_loc, take_app, Nat.lt_irrefl]
end Lk

namespace Lk
open PySem L2 Vm
/-! ## names_in -/
def tr (ks : List Str) : PV := .dct (ks.map .inr) (ks.map fun _ => .bl true)
theorem hasK_inr (x : Str) : ∀ ks : List Str, hasK (ks.map .inr) (.inr x) = decide (x ∈ ks)
  | [] => rfl
  | y :: ys => by
    have := hasK_inr x ys
    unfold hasK at this ⊢
    rw [List.map_cons, List.any_cons, this]
    by_cases h : y = x
    · subst h; simp
    · have h2 : ¬ x = y := fun z => h z.symm
      simp [h, h2]
theorem put_tr (ks : List Str) (x : Str) : PV.dct (kPutK (ks.map .inr) (.inr x)) (kPutV (ks.map .inr) (ks.map fun _ => PV.bl true) (.inr x) (.bl true)) = tr (put ks x) := by
  unfold kPutK kPutV put tr
  rw [hasK_inr]
  by_cases h : x ∈ ks
  · rw [if_pos (by simpa using h), if_pos (by simpa using h), if_pos h]
    congr 1
    clear h
    induction ks with
    | nil => rfl
    | cons y ys ih =>
      rw [List.map_cons, List.map_cons, List.zip_cons_cons, List.map_cons, ih]
      congr 1
      split <;> rfl
  · rw [if_neg (by simpa using h), if_neg (by simpa using h), if_neg h, List.map_append, List.map_append]
    rfl
theorem tr_put {d k v : EM} {env : VEnv} {s : VSt} {x : Str} {ks : List Str} (hv : v env (s ++ [tr ks]) = .ok (.bl true) (s ++ [tr ks])) (hd : d env (s ++ [tr ks]) = .ok (.loc s.length) (s ++ [tr ks])) (hk : k env (s ++ [tr ks]) = .ok (.str x) (s ++ [tr ks])) (hn : ks.length < 1000000) : sPut d k v env (s ++ [tr ks]) = .nx env (s ++ [tr (put ks x)]) := by
  unfold sPut
  rw [hv]
  show (d env (s ++ [tr ks])).s _ = _
  rw [hd]
  show (k env (s ++ [tr ks])).s _ = _
  rw [hk]
  show (match deref (s ++ [tr ks]) (.loc s.length), keyP (.str x) with
    | .dct ks' xs, some key => if ks'.length < 1000000 ∧ pureP (.bl true) = true then SR.nx env ((s ++ [tr ks]).set s.length (PV.dct (kPutK ks' key) (kPutV ks' xs key (.bl true)))) else .bad
    | _, _ => SR.bad) = _
  rw [deref_end]
  show (if (ks.map (Sum.inr : Str → Key)).length < 1000000 ∧ pureP (.bl true) = true then SR.nx env ((s ++ [tr ks]).set s.length (PV.dct (kPutK (ks.map .inr) (.inr x)) (kPutV (ks.map .inr) (ks.map fun _ => PV.bl true) (.inr x) (.bl true)))) else .bad) = _
  rw [if_pos ⟨by rw [List.length_map]; exact hn, rfl⟩, put_tr, set_end]
theorem take_end {s : VSt} {p q : PV} : (s ++ [p]).take (s ++ [q]).length = s ++ [p] := by
  rw [List.length_append, List.length_singleton, List.take_of_length_le (by rw [List.length_append]; exact Nat.le_refl _)]
theorem F_note : ∀ (t : Trm) (n : Nat) (s : VSt) (ks : List Str), ks.length + t.size < 1000000 → Fm D (n + t.depth + 1) i__note_names [t.pv, .loc s.length] (s ++ [tr ks]) = .ok .non (s ++ [tr (t.names.foldl put ks)])
  | .num i, n, s, ks, _ => by
    rw [c__note_names]
    unfold b__note_names
    have e : decide (("num" : Str) = "name") = false := by decide
    have e2 : decide (("num" : Str) = "num") = true := by decide
    simp -implicitDefEqProofs (disch := omega) only [bind_ok, s_ok, sb_nx, sb_rt, sb_ct, sb_bk, onB_bl, onBS_bl, x_var, x_c, x_bin, x_un, x_nil, x_cons, x_tup, x_lst, x_app, x_and, x_or, x_not, x_if, x_box, x_get, x_sl, x_onone, x_osome, x_snil, x_scons, x_set, x_expr, x_ret, x_retB, x_sif, x_bk, x_ct, x_aug, x_asg, x_gname, x_gnil, x_gcons, x_gtup, mkt0, mkl0, mkt1, mkl1, mkt2, mkl2, mkt3, mkl3, mkt4, mkl4, mkt5, mkl5, mkt6, mkl6, mkt7, mkl7, v_il0, v_it0, v_il1, v_it1, v_il2, v_it2, v_il3, v_it3, v_il4, v_it4, v_il5, v_it5, v_add, v_addI, v_sub, v_neg, v_mul, v_fdv, v_mod, v_cmp, v_eqs, v_nes, v_eqi, v_nei, v_eqb, v_ixc, opt_some, v_lenl, v_lent, v_lenc, v_tupt, v_tupl, v_intb, v_inti, v_max, v_isn, v_isnn, end_rt, end_nx, fz_int, fz_str, fz_bl, fz_non, List.getElem?_cons_zero, List.getElem?_cons_succ, List.set_cons_zero, List.set_cons_succ, List.length_cons, List.length_nil, List.take_length, Option.map_some, oldLoc, Bool.false_and, Bool.and_false, Bool.true_and, Bool.and_true, Bool.not_true, Bool.not_false, Bool.false_eq_true, decide_true, decide_false, decide_eq_true_eq, if_true, if_false, ↓reduceIte, Nat.reduceAdd, Nat.reduceLeDiff, Trm.pv, e, e2, Trm.names, List.foldl_nil]
  | .name x, n, s, ks, h => by
    have h' : ks.length + 1 < 1000000 := h
    rw [c__note_names]
    unfold b__note_names
    have e : decide (("name" : Str) = "name") = true := by decide
    have hk : eBin vIx (eVar 0) (eC (.int 1)) [some (.tup [.str "name", .str x]), some (.loc s.length), some (.str "name")] (s ++ [tr ks]) = .ok (.str x) (s ++ [tr ks]) := by
      simp -implicitDefEqProofs (disch := omega) only [bind_ok, s_ok, sb_nx, sb_rt, sb_ct, sb_bk, onB_bl, onBS_bl, x_var, x_c, x_bin, x_un, x_nil, x_cons, x_tup, x_lst, x_app, x_and, x_or, x_not, x_if, x_box, x_get, x_sl, x_onone, x_osome, x_snil, x_scons, x_set, x_expr, x_ret, x_retB, x_sif, x_bk, x_ct, x_aug, x_asg, x_gname, x_gnil, x_gcons, x_gtup, mkt0, mkl0, mkt1, mkl1, mkt2, mkl2, mkt3, mkl3, mkt4, mkl4, mkt5, mkl5, mkt6, mkl6, mkt7, mkl7, v_il0, v_it0, v_il1, v_it1, v_il2, v_it2, v_il3, v_it3, v_il4, v_it4, v_il5, v_it5, v_add, v_addI, v_sub, v_neg, v_mul, v_fdv, v_mod, v_cmp, v_eqs, v_nes, v_eqi, v_nei, v_eqb, v_ixc, opt_some, v_lenl, v_lent, v_lenc, v_tupt, v_tupl, v_intb, v_inti, v_max, v_isn, v_isnn, end_rt, end_nx, fz_int, fz_str, fz_bl, fz_non, List.getElem?_cons_zero, List.getElem?_cons_succ, List.set_cons_zero, List.set_cons_succ, List.length_cons, List.length_nil, List.take_length, Option.map_some, oldLoc, Bool.false_and, Bool.and_false, Bool.true_and, Bool.and_true, Bool.not_true, Bool.not_false, Bool.false_eq_true, decide_true, decide_false, decide_eq_true_eq, if_true, if_false, ↓reduceIte, Nat.reduceAdd, Nat.reduceLeDiff]
    have hp := tr_put (v := eC (.bl true)) (d := eVar 1) rfl rfl hk (by omega)
    simp -implicitDefEqProofs (disch := omega) only [bind_ok, s_ok, sb_nx, sb_rt, sb_ct, sb_bk, onB_bl, onBS_bl, x_var, x_c, x_bin, x_un, x_nil, x_cons, x_tup, x_lst, x_app, x_and, x_or, x_not, x_if, x_box, x_get, x_sl, x_onone, x_osome, x_snil, x_scons, x_set, x_expr, x_ret, x_retB, x_sif, x_bk, x_ct, x_aug, x_asg, x_gname, x_gnil, x_gcons, x_gtup, mkt0, mkl0, mkt1, mkl1, mkt2, mkl2, mkt3, mkl3, mkt4, mkl4, mkt5, mkl5, mkt6, mkl6, mkt7, mkl7, v_il0, v_it0, v_il1, v_it1, v_il2, v_it2, v_il3, v_it3, v_il4, v_it4, v_il5, v_it5, v_add, v_addI, v_sub, v_neg, v_mul, v_fdv, v_mod, v_cmp, v_eqs, v_nes, v_eqi, v_nei, v_eqb, v_ixc, opt_some, v_lenl, v_lent, v_lenc, v_tupt, v_tupl, v_intb, v_inti, v_max, v_isn, v_isnn, end_rt, end_nx, fz_int, fz_str, fz_bl, fz_non, List.getElem?_cons_zero, List.getElem?_cons_succ, List.set_cons_zero, List.set_cons_succ, List.length_cons, List.length_nil, List.take_length, Option.map_some, oldLoc, Bool.false_and, Bool.and_false, Bool.true_and, Bool.and_true, Bool.not_true, Bool.not_false, Bool.false_eq_true, decide_true, decide_false, decide_eq_true_eq, if_true, if_false, ↓reduceIte, Nat.reduceAdd, Nat.reduceLeDiff, Trm.pv, e, hp, take_end, Trm.names, List.foldl_nil, List.foldl_cons]
  | .bin k a b, n, s, ks, hs => by
    have hs' : ks.length + (a.size + b.size + 1) < 1000000 := hs
    have l1 := a.names_len
    have l2 := puts_len a.names ks
    have e0 : n + (Trm.bin k a b).depth + 1 = (n + max a.depth b.depth + 1) + 1 := rfl
    have ha : Fm D (n + max a.depth b.depth + 1) i__note_names [a.pv, .loc s.length] (s ++ [tr ks]) = .ok .non (s ++ [tr (a.names.foldl put ks)]) := by
      have := F_note a (n + (max a.depth b.depth - a.depth)) s ks (by omega)
      rwa [show n + (max a.depth b.depth - a.depth) + a.depth + 1 = n + max a.depth b.depth + 1 by omega] at this
    have hb : Fm D (n + max a.depth b.depth + 1) i__note_names [b.pv, .loc s.length] (s ++ [tr (a.names.foldl put ks)]) = .ok .non (s ++ [tr (b.names.foldl put (a.names.foldl put ks))]) := by
      have := F_note b (n + (max a.depth b.depth - b.depth)) s (a.names.foldl put ks) (by omega)
      rwa [show n + (max a.depth b.depth - b.depth) + b.depth + 1 = n + max a.depth b.depth + 1 by omega] at this
    rw [e0, c__note_names]
    unfold b__note_names
    obtain ⟨e1, e2⟩ := opS_ne k
    simp -implicitDefEqProofs (disch := omega) only [bind_ok, s_ok, sb_nx, sb_rt, sb_ct, sb_bk, onB_bl, onBS_bl, x_var, x_c, x_bin, x_un, x_nil, x_cons, x_tup, x_lst, x_app, x_and, x_or, x_not, x_if, x_box, x_get, x_sl, x_onone, x_osome, x_snil, x_scons, x_set, x_expr, x_ret, x_retB, x_sif, x_bk, x_ct, x_aug, x_asg, x_gname, x_gnil, x_gcons, x_gtup, mkt0, mkl0, mkt1, mkl1, mkt2, mkl2, mkt3, mkl3, mkt4, mkl4, mkt5, mkl5, mkt6, mkl6, mkt7, mkl7, v_il0, v_it0, v_il1, v_it1, v_il2, v_it2, v_il3, v_it3, v_il4, v_it4, v_il5, v_it5, v_add, v_addI, v_sub, v_neg, v_mul, v_fdv, v_mod, v_cmp, v_eqs, v_nes, v_eqi, v_nei, v_eqb, v_ixc, opt_some, v_lenl, v_lent, v_lenc, v_tupt, v_tupl, v_intb, v_inti, v_max, v_isn, v_isnn, end_rt, end_nx, fz_int, fz_str, fz_bl, fz_non, List.getElem?_cons_zero, List.getElem?_cons_succ, List.set_cons_zero, List.set_cons_succ, List.length_cons, List.length_nil, List.take_length, Option.map_some, oldLoc, Bool.false_and, Bool.and_false, Bool.true_and, Bool.and_true, Bool.not_true, Bool.not_false, Bool.false_eq_true, decide_true, decide_false, decide_eq_true_eq, if_true, if_false, ↓reduceIte, Nat.reduceAdd, Nat.reduceLeDiff, Trm.pv, e1, v_nes, e2, ha, hb, take_end, Trm.names, List.foldl_append]
theorem keyVs (ks : List Str) : (ks.map (Sum.inr : Str → Key)).map keyV = ks.map PV.str := by
  rw [List.map_map]; rfl
theorem v_listd {p : PV} {st : VSt} {ks : List Key} {xs : List PV} (h : deref st p = .dct ks xs) : vListA [p] st = .ok (.lst (ks.map keyV)) st := by
  simp only [vListA, h]
theorem F_names_in (t : Trm) (n : Nat) (st : VSt) (h : t.size < 1000000) : Fm D (n + t.depth + 2) i_names_in [t.pv] st = .ok (.lst (t.once.map PV.str)) st := by
  rw [c_names_in]
  unfold b_names_in
  have hb : boxV (.dct [] []) st = .ok (.loc st.length) (st ++ [tr []]) := x_boxV rfl
  have hn := F_note t n st [] (by simpa using h)
  have hl : vListA [.loc st.length] (st ++ [tr (t.names.foldl put [])]) = .ok (.lst (t.once.map PV.str)) (st ++ [tr (t.names.foldl put [])]) := by
    have e := v_listd (deref_end (s := st) (p := tr (t.names.foldl put [])))
    rw [keyVs] at e
    exact e
  have hp : pures (t.once.map PV.str) = true := pures_strs _
  have ho : oldLoc st.length (.lst (t.once.map PV.str)) = false := rfl
  simp -implicitDefEqProofs (disch := omega) only [bind_ok, s_ok, sb_nx, sb_rt, sb_ct, sb_bk, onB_bl, onBS_bl, x_var, x_c, x_bin, x_un, x_nil, x_cons, x_tup, x_lst, x_app, x_and, x_or, x_not, x_if, x_box, x_get, x_sl, x_onone, x_osome, x_snil, x_scons, x_set, x_expr, x_ret, x_retB, x_sif, x_bk, x_ct, x_aug, x_asg, x_gname, x_gnil, x_gcons, x_gtup, mkt0, mkl0, mkt1, mkl1, mkt2, mkl2, mkt3, mkl3, mkt4, mkl4, mkt5, mkl5, mkt6, mkl6, mkt7, mkl7, v_il0, v_it0, v_il1, v_it1, v_il2, v_it2, v_il3, v_it3, v_il4, v_it4, v_il5, v_it5, v_add, v_addI, v_sub, v_neg, v_mul, v_fdv, v_mod, v_cmp, v_eqs, v_nes, v_eqi, v_nei, v_eqb, v_ixc, opt_some, v_lenl, v_lent, v_lenc, v_tupt, v_tupl, v_intb, v_inti, v_max, v_isn, v_isnn, end_rt, end_nx, fz_int, fz_str, fz_bl, fz_non, List.getElem?_cons_zero, List.getElem?_cons_succ, List.set_cons_zero, List.set_cons_succ, List.length_cons, List.length_nil, List.take_length, Option.map_some, oldLoc, Bool.false_and, Bool.and_false, Bool.true_and, Bool.and_true, Bool.not_true, Bool.not_false, Bool.false_eq_true, decide_true, decide_false, decide_eq_true_eq, if_true, if_false, ↓reduceIte, Nat.reduceAdd, Nat.reduceLeDiff, hb, hn, hl, ho, fz_lst hp, take_app]
end Lk

namespace Lk
open PySem L2 Vm
/-! ## worth -/
def wth (lk : Str → Int) : Trm → Int
  | .num n => n
  | .name x => lk x
  | .bin 0 a b => (wth lk a + wth lk b) % 1000003
  | .bin 1 a b => (wth lk a - wth lk b) % 1000003
  | .bin _ a b => wth lk a * wth lk b % 1000003
theorem modr (i : Int) : 0 ≤ i % 1000003 ∧ i % 1000003 < 1000003 := by omega
theorem wth_r {lk : Str → Int} {ok : Str → Prop} (hl : ∀ x, 0 ≤ lk x ∧ lk x < 1000003) : ∀ t : Trm, t.Good ok → 0 ≤ wth lk t ∧ wth lk t < 1000003
  | .num n, g => g
  | .name x, g => hl x
  | .bin 0 a b, g => modr _
  | .bin 1 a b, g => modr _
  | .bin (k + 2) a b, g => modr _
/-- a dict's numbers -/
structure Cells (st : VSt) (c : PV) (lk : Str → Int) : Prop where
  d : isDct st c = true
  g : ∀ x, vGet c (.str x) (.int 0) st = .ok (.int (lk x)) st
  r : ∀ x, 0 ≤ lk x ∧ lk x < 1000003
theorem small {i : Int} (h : 0 ≤ i ∧ i < 1000003) : i % 1000003 = i := Int.emod_eq_of_lt h.1 h.2
theorem op3 {k : Nat} (h : k < 3) : k = 0 ∨ k = 1 ∨ k = 2 := by omega
theorem F_worth {ok : Str → Prop} {lk : Str → Int} {c : PV} {st : VSt} (C : Cells st c lk) : ∀ (t : Trm) (n : Nat), t.Good ok → Fm D (n + t.depth + 1) i_worth [t.pv, c] st = .ok (.int (wth lk t)) st
  | .num i, n, g => by
    rw [c_worth]
    unfold b_worth
    have e : decide (("num" : Str) = "num") = true := by decide
    have s := small g
    simp -implicitDefEqProofs (disch := omega) only [bind_ok, s_ok, sb_nx, sb_rt, sb_ct, sb_bk, onB_bl, onBS_bl, x_var, x_c, x_bin, x_un, x_nil, x_cons, x_tup, x_lst, x_app, x_and, x_or, x_not, x_if, x_box, x_get, x_sl, x_onone, x_osome, x_snil, x_scons, x_set, x_expr, x_ret, x_retB, x_sif, x_bk, x_ct, x_aug, x_asg, x_gname, x_gnil, x_gcons, x_gtup, mkt0, mkl0, mkt1, mkl1, mkt2, mkl2, mkt3, mkl3, mkt4, mkl4, mkt5, mkl5, mkt6, mkl6, mkt7, mkl7, v_il0, v_it0, v_il1, v_it1, v_il2, v_it2, v_il3, v_it3, v_il4, v_it4, v_il5, v_it5, v_add, v_addI, v_sub, v_neg, v_mul, v_fdv, v_mod, v_cmp, v_eqs, v_nes, v_eqi, v_nei, v_eqb, v_ixc, opt_some, v_lenl, v_lent, v_lenc, v_tupt, v_tupl, v_intb, v_inti, v_max, v_isn, v_isnn, end_rt, end_nx, fz_int, fz_str, fz_bl, fz_non, List.getElem?_cons_zero, List.getElem?_cons_succ, List.set_cons_zero, List.set_cons_succ, List.length_cons, List.length_nil, List.take_length, Option.map_some, oldLoc, Bool.false_and, Bool.and_false, Bool.true_and, Bool.and_true, Bool.not_true, Bool.not_false, Bool.false_eq_true, decide_true, decide_false, decide_eq_true_eq, if_true, if_false, ↓reduceIte, Nat.reduceAdd, Nat.reduceLeDiff, Trm.pv, e, s, wth]
  | .name x, n, g => by
    rw [c_worth]
    unfold b_worth
    have e : decide (("name" : Str) = "num") = false := by decide
    have e2 : decide (("name" : Str) = "name") = true := by decide
    have s := small (C.r x)
    simp -implicitDefEqProofs (disch := omega) only [bind_ok, s_ok, sb_nx, sb_rt, sb_ct, sb_bk, onB_bl, onBS_bl, x_var, x_c, x_bin, x_un, x_nil, x_cons, x_tup, x_lst, x_app, x_and, x_or, x_not, x_if, x_box, x_get, x_sl, x_onone, x_osome, x_snil, x_scons, x_set, x_expr, x_ret, x_retB, x_sif, x_bk, x_ct, x_aug, x_asg, x_gname, x_gnil, x_gcons, x_gtup, mkt0, mkl0, mkt1, mkl1, mkt2, mkl2, mkt3, mkl3, mkt4, mkl4, mkt5, mkl5, mkt6, mkl6, mkt7, mkl7, v_il0, v_it0, v_il1, v_it1, v_il2, v_it2, v_il3, v_it3, v_il4, v_it4, v_il5, v_it5, v_add, v_addI, v_sub, v_neg, v_mul, v_fdv, v_mod, v_cmp, v_eqs, v_nes, v_eqi, v_nei, v_eqb, v_ixc, opt_some, v_lenl, v_lent, v_lenc, v_tupt, v_tupl, v_intb, v_inti, v_max, v_isn, v_isnn, end_rt, end_nx, fz_int, fz_str, fz_bl, fz_non, List.getElem?_cons_zero, List.getElem?_cons_succ, List.set_cons_zero, List.set_cons_succ, List.length_cons, List.length_nil, List.take_length, Option.map_some, oldLoc, Bool.false_and, Bool.and_false, Bool.true_and, Bool.and_true, Bool.not_true, Bool.not_false, Bool.false_eq_true, decide_true, decide_false, decide_eq_true_eq, if_true, if_false, ↓reduceIte, Nat.reduceAdd, Nat.reduceLeDiff, Trm.pv, e, e2, C.d, C.g, s, wth]
  | .bin k a b, n, g => by
    have e0 : n + (Trm.bin k a b).depth + 1 = (n + max a.depth b.depth + 1) + 1 := rfl
    have ha : Fm D (n + max a.depth b.depth + 1) i_worth [a.pv, c] st = .ok (.int (wth lk a)) st := by
      have := F_worth C a (n + (max a.depth b.depth - a.depth)) g.2.1
      rwa [show n + (max a.depth b.depth - a.depth) + a.depth + 1 = n + max a.depth b.depth + 1 by omega] at this
    have hb : Fm D (n + max a.depth b.depth + 1) i_worth [b.pv, c] st = .ok (.int (wth lk b)) st := by
      have := F_worth C b (n + (max a.depth b.depth - b.depth)) g.2.2
      rwa [show n + (max a.depth b.depth - b.depth) + b.depth + 1 = n + max a.depth b.depth + 1 by omega] at this
    have ra := wth_r C.r a g.2.1
    have rb := wth_r C.r b g.2.2
    rw [e0, c_worth]
    unfold b_worth
    obtain ⟨e1, e2⟩ := opS_ne k
    rcases op3 g.1 with rfl | rfl | rfl
    · have e3 : decide (opS 0 = "sum") = true := by decide
      simp -implicitDefEqProofs (disch := omega) only [bind_ok, s_ok, sb_nx, sb_rt, sb_ct, sb_bk, onB_bl, onBS_bl, x_var, x_c, x_bin, x_un, x_nil, x_cons, x_tup, x_lst, x_app, x_and, x_or, x_not, x_if, x_box, x_get, x_sl, x_onone, x_osome, x_snil, x_scons, x_set, x_expr, x_ret, x_retB, x_sif, x_bk, x_ct, x_aug, x_asg, x_gname, x_gnil, x_gcons, x_gtup, mkt0, mkl0, mkt1, mkl1, mkt2, mkl2, mkt3, mkl3, mkt4, mkl4, mkt5, mkl5, mkt6, mkl6, mkt7, mkl7, v_il0, v_it0, v_il1, v_it1, v_il2, v_it2, v_il3, v_it3, v_il4, v_it4, v_il5, v_it5, v_add, v_addI, v_sub, v_neg, v_mul, v_fdv, v_mod, v_cmp, v_eqs, v_nes, v_eqi, v_nei, v_eqb, v_ixc, opt_some, v_lenl, v_lent, v_lenc, v_tupt, v_tupl, v_intb, v_inti, v_max, v_isn, v_isnn, end_rt, end_nx, fz_int, fz_str, fz_bl, fz_non, List.getElem?_cons_zero, List.getElem?_cons_succ, List.set_cons_zero, List.set_cons_succ, List.length_cons, List.length_nil, List.take_length, Option.map_some, oldLoc, Bool.false_and, Bool.and_false, Bool.true_and, Bool.and_true, Bool.not_true, Bool.not_false, Bool.false_eq_true, decide_true, decide_false, decide_eq_true_eq, if_true, if_false, ↓reduceIte, Nat.reduceAdd, Nat.reduceLeDiff, Trm.pv, e1, e2, ha, hb, e3, wth]
    · have e3 : decide (opS 1 = "sum") = false := by decide
      have e4 : decide (opS 1 = "less") = true := by decide
      simp -implicitDefEqProofs (disch := omega) only [bind_ok, s_ok, sb_nx, sb_rt, sb_ct, sb_bk, onB_bl, onBS_bl, x_var, x_c, x_bin, x_un, x_nil, x_cons, x_tup, x_lst, x_app, x_and, x_or, x_not, x_if, x_box, x_get, x_sl, x_onone, x_osome, x_snil, x_scons, x_set, x_expr, x_ret, x_retB, x_sif, x_bk, x_ct, x_aug, x_asg, x_gname, x_gnil, x_gcons, x_gtup, mkt0, mkl0, mkt1, mkl1, mkt2, mkl2, mkt3, mkl3, mkt4, mkl4, mkt5, mkl5, mkt6, mkl6, mkt7, mkl7, v_il0, v_it0, v_il1, v_it1, v_il2, v_it2, v_il3, v_it3, v_il4, v_it4, v_il5, v_it5, v_add, v_addI, v_sub, v_neg, v_mul, v_fdv, v_mod, v_cmp, v_eqs, v_nes, v_eqi, v_nei, v_eqb, v_ixc, opt_some, v_lenl, v_lent, v_lenc, v_tupt, v_tupl, v_intb, v_inti, v_max, v_isn, v_isnn, end_rt, end_nx, fz_int, fz_str, fz_bl, fz_non, List.getElem?_cons_zero, List.getElem?_cons_succ, List.set_cons_zero, List.set_cons_succ, List.length_cons, List.length_nil, List.take_length, Option.map_some, oldLoc, Bool.false_and, Bool.and_false, Bool.true_and, Bool.and_true, Bool.not_true, Bool.not_false, Bool.false_eq_true, decide_true, decide_false, decide_eq_true_eq, if_true, if_false, ↓reduceIte, Nat.reduceAdd, Nat.reduceLeDiff, Trm.pv, e1, e2, ha, hb, e3, e4, wth]
    · have e3 : decide (opS 2 = "sum") = false := by decide
      have e4 : decide (opS 2 = "less") = false := by decide
      simp -implicitDefEqProofs (disch := omega) only [bind_ok, s_ok, sb_nx, sb_rt, sb_ct, sb_bk, onB_bl, onBS_bl, x_var, x_c, x_bin, x_un, x_nil, x_cons, x_tup, x_lst, x_app, x_and, x_or, x_not, x_if, x_box, x_get, x_sl, x_onone, x_osome, x_snil, x_scons, x_set, x_expr, x_ret, x_retB, x_sif, x_bk, x_ct, x_aug, x_asg, x_gname, x_gnil, x_gcons, x_gtup, mkt0, mkl0, mkt1, mkl1, mkt2, mkl2, mkt3, mkl3, mkt4, mkl4, mkt5, mkl5, mkt6, mkl6, mkt7, mkl7, v_il0, v_it0, v_il1, v_it1, v_il2, v_it2, v_il3, v_it3, v_il4, v_it4, v_il5, v_it5, v_add, v_addI, v_sub, v_neg, v_mul, v_fdv, v_mod, v_cmp, v_eqs, v_nes, v_eqi, v_nei, v_eqb, v_ixc, opt_some, v_lenl, v_lent, v_lenc, v_tupt, v_tupl, v_intb, v_inti, v_max, v_isn, v_isnn, end_rt, end_nx, fz_int, fz_str, fz_bl, fz_non, List.getElem?_cons_zero, List.getElem?_cons_succ, List.set_cons_zero, List.set_cons_succ, List.length_cons, List.length_nil, List.take_length, Option.map_some, oldLoc, Bool.false_and, Bool.and_false, Bool.true_and, Bool.and_true, Bool.not_true, Bool.not_false, Bool.false_eq_true, decide_true, decide_false, decide_eq_true_eq, if_true, if_false, ↓reduceIte, Nat.reduceAdd, Nat.reduceLeDiff, Trm.pv, e1, e2, ha, hb, e3, e4, wth]
theorem F_lworth {ok : Str → Prop} {lk : Str → Int} {c : PV} {st : VSt} (C : Cells st c lk) : ∀ (t : Trm) (n : Nat), t.Good ok → Fm D (n + t.depth + 1) i__law_worth [t.pv, c] st = .ok (.int (wth lk t)) st
  | .num i, n, g => by
    rw [c__law_worth]
    unfold b__law_worth
    have e : decide (("num" : Str) = "num") = true := by decide
    simp -implicitDefEqProofs (disch := omega) only [bind_ok, s_ok, sb_nx, sb_rt, sb_ct, sb_bk, onB_bl, onBS_bl, x_var, x_c, x_bin, x_un, x_nil, x_cons, x_tup, x_lst, x_app, x_and, x_or, x_not, x_if, x_box, x_get, x_sl, x_onone, x_osome, x_snil, x_scons, x_set, x_expr, x_ret, x_retB, x_sif, x_bk, x_ct, x_aug, x_asg, x_gname, x_gnil, x_gcons, x_gtup, mkt0, mkl0, mkt1, mkl1, mkt2, mkl2, mkt3, mkl3, mkt4, mkl4, mkt5, mkl5, mkt6, mkl6, mkt7, mkl7, v_il0, v_it0, v_il1, v_it1, v_il2, v_it2, v_il3, v_it3, v_il4, v_it4, v_il5, v_it5, v_add, v_addI, v_sub, v_neg, v_mul, v_fdv, v_mod, v_cmp, v_eqs, v_nes, v_eqi, v_nei, v_eqb, v_ixc, opt_some, v_lenl, v_lent, v_lenc, v_tupt, v_tupl, v_intb, v_inti, v_max, v_isn, v_isnn, end_rt, end_nx, fz_int, fz_str, fz_bl, fz_non, List.getElem?_cons_zero, List.getElem?_cons_succ, List.set_cons_zero, List.set_cons_succ, List.length_cons, List.length_nil, List.take_length, Option.map_some, oldLoc, Bool.false_and, Bool.and_false, Bool.true_and, Bool.and_true, Bool.not_true, Bool.not_false, Bool.false_eq_true, decide_true, decide_false, decide_eq_true_eq, if_true, if_false, ↓reduceIte, Nat.reduceAdd, Nat.reduceLeDiff, Trm.pv, e, wth]
  | .name x, n, g => by
    rw [c__law_worth]
    unfold b__law_worth
    have e : decide (("name" : Str) = "num") = false := by decide
    have e2 : decide (("name" : Str) = "name") = true := by decide
    simp -implicitDefEqProofs (disch := omega) only [bind_ok, s_ok, sb_nx, sb_rt, sb_ct, sb_bk, onB_bl, onBS_bl, x_var, x_c, x_bin, x_un, x_nil, x_cons, x_tup, x_lst, x_app, x_and, x_or, x_not, x_if, x_box, x_get, x_sl, x_onone, x_osome, x_snil, x_scons, x_set, x_expr, x_ret, x_retB, x_sif, x_bk, x_ct, x_aug, x_asg, x_gname, x_gnil, x_gcons, x_gtup, mkt0, mkl0, mkt1, mkl1, mkt2, mkl2, mkt3, mkl3, mkt4, mkl4, mkt5, mkl5, mkt6, mkl6, mkt7, mkl7, v_il0, v_it0, v_il1, v_it1, v_il2, v_it2, v_il3, v_it3, v_il4, v_it4, v_il5, v_it5, v_add, v_addI, v_sub, v_neg, v_mul, v_fdv, v_mod, v_cmp, v_eqs, v_nes, v_eqi, v_nei, v_eqb, v_ixc, opt_some, v_lenl, v_lent, v_lenc, v_tupt, v_tupl, v_intb, v_inti, v_max, v_isn, v_isnn, end_rt, end_nx, fz_int, fz_str, fz_bl, fz_non, List.getElem?_cons_zero, List.getElem?_cons_succ, List.set_cons_zero, List.set_cons_succ, List.length_cons, List.length_nil, List.take_length, Option.map_some, oldLoc, Bool.false_and, Bool.and_false, Bool.true_and, Bool.and_true, Bool.not_true, Bool.not_false, Bool.false_eq_true, decide_true, decide_false, decide_eq_true_eq, if_true, if_false, ↓reduceIte, Nat.reduceAdd, Nat.reduceLeDiff, Trm.pv, e, e2, C.d, C.g, wth]
  | .bin k a b, n, g => by
    have e0 : n + (Trm.bin k a b).depth + 1 = (n + max a.depth b.depth + 1) + 1 := rfl
    have ha : Fm D (n + max a.depth b.depth + 1) i__law_worth [a.pv, c] st = .ok (.int (wth lk a)) st := by
      have := F_lworth C a (n + (max a.depth b.depth - a.depth)) g.2.1
      rwa [show n + (max a.depth b.depth - a.depth) + a.depth + 1 = n + max a.depth b.depth + 1 by omega] at this
    have hb : Fm D (n + max a.depth b.depth + 1) i__law_worth [b.pv, c] st = .ok (.int (wth lk b)) st := by
      have := F_lworth C b (n + (max a.depth b.depth - b.depth)) g.2.2
      rwa [show n + (max a.depth b.depth - b.depth) + b.depth + 1 = n + max a.depth b.depth + 1 by omega] at this
    have ra := wth_r C.r a g.2.1
    have rb := wth_r C.r b g.2.2
    rw [e0, c__law_worth]
    unfold b__law_worth
    obtain ⟨e1, e2⟩ := opS_ne k
    rcases op3 g.1 with rfl | rfl | rfl
    · have e3 : decide (opS 0 = "less") = false := by decide
      have e4 : decide (opS 0 = "times") = false := by decide
      simp -implicitDefEqProofs (disch := omega) only [bind_ok, s_ok, sb_nx, sb_rt, sb_ct, sb_bk, onB_bl, onBS_bl, x_var, x_c, x_bin, x_un, x_nil, x_cons, x_tup, x_lst, x_app, x_and, x_or, x_not, x_if, x_box, x_get, x_sl, x_onone, x_osome, x_snil, x_scons, x_set, x_expr, x_ret, x_retB, x_sif, x_bk, x_ct, x_aug, x_asg, x_gname, x_gnil, x_gcons, x_gtup, mkt0, mkl0, mkt1, mkl1, mkt2, mkl2, mkt3, mkl3, mkt4, mkl4, mkt5, mkl5, mkt6, mkl6, mkt7, mkl7, v_il0, v_it0, v_il1, v_it1, v_il2, v_it2, v_il3, v_it3, v_il4, v_it4, v_il5, v_it5, v_add, v_addI, v_sub, v_neg, v_mul, v_fdv, v_mod, v_cmp, v_eqs, v_nes, v_eqi, v_nei, v_eqb, v_ixc, opt_some, v_lenl, v_lent, v_lenc, v_tupt, v_tupl, v_intb, v_inti, v_max, v_isn, v_isnn, end_rt, end_nx, fz_int, fz_str, fz_bl, fz_non, List.getElem?_cons_zero, List.getElem?_cons_succ, List.set_cons_zero, List.set_cons_succ, List.length_cons, List.length_nil, List.take_length, Option.map_some, oldLoc, Bool.false_and, Bool.and_false, Bool.true_and, Bool.and_true, Bool.not_true, Bool.not_false, Bool.false_eq_true, decide_true, decide_false, decide_eq_true_eq, if_true, if_false, ↓reduceIte, Nat.reduceAdd, Nat.reduceLeDiff, Trm.pv, e1, e2, ha, hb, e3, e4, wth]
    · have e3 : decide (opS 1 = "less") = true := by decide
      have e4 : decide (opS 1 = "times") = false := by decide
      have e5 : wth lk a + -wth lk b = wth lk a - wth lk b := rfl
      simp -implicitDefEqProofs (disch := omega) only [bind_ok, s_ok, sb_nx, sb_rt, sb_ct, sb_bk, onB_bl, onBS_bl, x_var, x_c, x_bin, x_un, x_nil, x_cons, x_tup, x_lst, x_app, x_and, x_or, x_not, x_if, x_box, x_get, x_sl, x_onone, x_osome, x_snil, x_scons, x_set, x_expr, x_ret, x_retB, x_sif, x_bk, x_ct, x_aug, x_asg, x_gname, x_gnil, x_gcons, x_gtup, mkt0, mkl0, mkt1, mkl1, mkt2, mkl2, mkt3, mkl3, mkt4, mkl4, mkt5, mkl5, mkt6, mkl6, mkt7, mkl7, v_il0, v_it0, v_il1, v_it1, v_il2, v_it2, v_il3, v_it3, v_il4, v_it4, v_il5, v_it5, v_add, v_addI, v_sub, v_neg, v_mul, v_fdv, v_mod, v_cmp, v_eqs, v_nes, v_eqi, v_nei, v_eqb, v_ixc, opt_some, v_lenl, v_lent, v_lenc, v_tupt, v_tupl, v_intb, v_inti, v_max, v_isn, v_isnn, end_rt, end_nx, fz_int, fz_str, fz_bl, fz_non, List.getElem?_cons_zero, List.getElem?_cons_succ, List.set_cons_zero, List.set_cons_succ, List.length_cons, List.length_nil, List.take_length, Option.map_some, oldLoc, Bool.false_and, Bool.and_false, Bool.true_and, Bool.and_true, Bool.not_true, Bool.not_false, Bool.false_eq_true, decide_true, decide_false, decide_eq_true_eq, if_true, if_false, ↓reduceIte, Nat.reduceAdd, Nat.reduceLeDiff, Trm.pv, e1, e2, ha, hb, e3, e4, e5, wth]
    · have e3 : decide (opS 2 = "less") = false := by decide
      have e4 : decide (opS 2 = "times") = true := by decide
      simp -implicitDefEqProofs (disch := omega) only [bind_ok, s_ok, sb_nx, sb_rt, sb_ct, sb_bk, onB_bl, onBS_bl, x_var, x_c, x_bin, x_un, x_nil, x_cons, x_tup, x_lst, x_app, x_and, x_or, x_not, x_if, x_box, x_get, x_sl, x_onone, x_osome, x_snil, x_scons, x_set, x_expr, x_ret, x_retB, x_sif, x_bk, x_ct, x_aug, x_asg, x_gname, x_gnil, x_gcons, x_gtup, mkt0, mkl0, mkt1, mkl1, mkt2, mkl2, mkt3, mkl3, mkt4, mkl4, mkt5, mkl5, mkt6, mkl6, mkt7, mkl7, v_il0, v_it0, v_il1, v_it1, v_il2, v_it2, v_il3, v_it3, v_il4, v_it4, v_il5, v_it5, v_add, v_addI, v_sub, v_neg, v_mul, v_fdv, v_mod, v_cmp, v_eqs, v_nes, v_eqi, v_nei, v_eqb, v_ixc, opt_some, v_lenl, v_lent, v_lenc, v_tupt, v_tupl, v_intb, v_inti, v_max, v_isn, v_isnn, end_rt, end_nx, fz_int, fz_str, fz_bl, fz_non, List.getElem?_cons_zero, List.getElem?_cons_succ, List.set_cons_zero, List.set_cons_succ, List.length_cons, List.length_nil, List.take_length, Option.map_some, oldLoc, Bool.false_and, Bool.and_false, Bool.true_and, Bool.and_true, Bool.not_true, Bool.not_false, Bool.false_eq_true, decide_true, decide_false, decide_eq_true_eq, if_true, if_false, ↓reduceIte, Nat.reduceAdd, Nat.reduceLeDiff, Trm.pv, e1, e2, ha, hb, e3, e4, wth]
end Lk

namespace Lk
open PySem L2 Vm
/-! ## what is told -/
theorem isa_ll : isaT "list" "list" = some true := by decide +kernel
theorem isa_ii : isaT "int" "int" = some true := by decide +kernel
theorem isa_bi : isaT "bool" "int" = some false := by decide +kernel
theorem isa_ss : isaT "str" "str" = some true := by decide +kernel
theorem v_isa {T t : String} {p : PV} {st : VSt} {b : Bool} (h : tyP st p = some t) (k : isaT T t = some b) : vIsa T [p] st = .ok (.bl b) st := by
  simp only [vIsa, h, Option.bind_some, k]
theorem ty_int {i : Int} {st : VSt} : tyP st (.int i) = some "int" := rfl
theorem ty_str {x : Str} {st : VSt} : tyP st (.str x) = some "str" := rfl
theorem ty_lst {xs : List PV} {st : VSt} : tyP st (.lst xs) = some "list" := rfl
theorem ty_lste {xs : List PV} {st : VSt} : tyP (st ++ [.lst xs]) (.loc st.length) = some "list" := by
  unfold tyP; rw [deref_end]
theorem F_numbers (n : Nat) (i : Int) (st : VSt) : Fm D (n + 1) i__law_numbers [.lst [.int i]] st = .ok (.bl true) st := by
  rw [c__law_numbers]
  unfold b__law_numbers
  have hb : bodyP (gName 1) (sCons (sIf (eOr (eNot (eApp (vIsa "int") (aCons (eVar 1) aNil))) (eApp (vIsa "bool") (aCons (eVar 1) aNil))) (sCons (sRet (eC (.bl false))) sNil) sNil) sNil) (.int i) [some (.lst [.int i]), none] st = .nx [some (.lst [.int i]), some (.int i)] st := by
    simp -implicitDefEqProofs (disch := omega) only [bind_ok, s_ok, sb_nx, sb_rt, sb_ct, sb_bk, onB_bl, onBS_bl, x_var, x_c, x_bin, x_un, x_nil, x_cons, x_tup, x_lst, x_app, x_and, x_or, x_not, x_if, x_box, x_get, x_sl, x_onone, x_osome, x_snil, x_scons, x_set, x_expr, x_ret, x_retB, x_sif, x_bk, x_ct, x_aug, x_asg, x_gname, x_gnil, x_gcons, x_gtup, mkt0, mkl0, mkt1, mkl1, mkt2, mkl2, mkt3, mkl3, mkt4, mkl4, mkt5, mkl5, mkt6, mkl6, mkt7, mkl7, v_il0, v_it0, v_il1, v_it1, v_il2, v_it2, v_il3, v_it3, v_il4, v_it4, v_il5, v_it5, v_add, v_addI, v_sub, v_neg, v_mul, v_fdv, v_mod, v_cmp, v_eqs, v_nes, v_eqi, v_nei, v_eqb, v_ixc, opt_some, v_lenl, v_lent, v_lenc, v_tupt, v_tupl, v_intb, v_inti, v_max, v_isn, v_isnn, end_rt, end_nx, fz_int, fz_str, fz_bl, fz_non, List.getElem?_cons_zero, List.getElem?_cons_succ, List.set_cons_zero, List.set_cons_succ, List.length_cons, List.length_nil, List.take_length, Option.map_some, oldLoc, Bool.false_and, Bool.and_false, Bool.true_and, Bool.and_true, Bool.not_true, Bool.not_false, Bool.false_eq_true, decide_true, decide_false, decide_eq_true_eq, if_true, if_false, ↓reduceIte, Nat.reduceAdd, Nat.reduceLeDiff, x_body, v_isa ty_int isa_ii, v_isa ty_int isa_bi]
  simp -implicitDefEqProofs (disch := omega) only [bind_ok, s_ok, sb_nx, sb_rt, sb_ct, sb_bk, onB_bl, onBS_bl, x_var, x_c, x_bin, x_un, x_nil, x_cons, x_tup, x_lst, x_app, x_and, x_or, x_not, x_if, x_box, x_get, x_sl, x_onone, x_osome, x_snil, x_scons, x_set, x_expr, x_ret, x_retB, x_sif, x_bk, x_ct, x_aug, x_asg, x_gname, x_gnil, x_gcons, x_gtup, mkt0, mkl0, mkt1, mkl1, mkt2, mkl2, mkt3, mkl3, mkt4, mkl4, mkt5, mkl5, mkt6, mkl6, mkt7, mkl7, v_il0, v_it0, v_il1, v_it1, v_il2, v_it2, v_il3, v_it3, v_il4, v_it4, v_il5, v_it5, v_add, v_addI, v_sub, v_neg, v_mul, v_fdv, v_mod, v_cmp, v_eqs, v_nes, v_eqi, v_nei, v_eqb, v_ixc, opt_some, v_lenl, v_lent, v_lenc, v_tupt, v_tupl, v_intb, v_inti, v_max, v_isn, v_isnn, end_rt, end_nx, fz_int, fz_str, fz_bl, fz_non, List.getElem?_cons_zero, List.getElem?_cons_succ, List.set_cons_zero, List.set_cons_succ, List.length_cons, List.length_nil, List.take_length, Option.map_some, oldLoc, Bool.false_and, Bool.and_false, Bool.true_and, Bool.and_true, Bool.not_true, Bool.not_false, Bool.false_eq_true, decide_true, decide_false, decide_eq_true_eq, if_true, if_false, ↓reduceIte, Nat.reduceAdd, Nat.reduceLeDiff, v_isa ty_lst isa_ll]
  rw [for_lst (xs := [.int i]) rfl, forL_cons, hb]
  simp -implicitDefEqProofs (disch := omega) only [bind_ok, s_ok, sb_nx, sb_rt, sb_ct, sb_bk, onB_bl, onBS_bl, x_var, x_c, x_bin, x_un, x_nil, x_cons, x_tup, x_lst, x_app, x_and, x_or, x_not, x_if, x_box, x_get, x_sl, x_onone, x_osome, x_snil, x_scons, x_set, x_expr, x_ret, x_retB, x_sif, x_bk, x_ct, x_aug, x_asg, x_gname, x_gnil, x_gcons, x_gtup, mkt0, mkl0, mkt1, mkl1, mkt2, mkl2, mkt3, mkl3, mkt4, mkl4, mkt5, mkl5, mkt6, mkl6, mkt7, mkl7, v_il0, v_it0, v_il1, v_it1, v_il2, v_it2, v_il3, v_it3, v_il4, v_it4, v_il5, v_it5, v_add, v_addI, v_sub, v_neg, v_mul, v_fdv, v_mod, v_cmp, v_eqs, v_nes, v_eqi, v_nei, v_eqb, v_ixc, opt_some, v_lenl, v_lent, v_lenc, v_tupt, v_tupl, v_intb, v_inti, v_max, v_isn, v_isnn, end_rt, end_nx, fz_int, fz_str, fz_bl, fz_non, List.getElem?_cons_zero, List.getElem?_cons_succ, List.set_cons_zero, List.set_cons_succ, List.length_cons, List.length_nil, List.take_length, Option.map_some, oldLoc, Bool.false_and, Bool.and_false, Bool.true_and, Bool.and_true, Bool.not_true, Bool.not_false, Bool.false_eq_true, decide_true, decide_false, decide_eq_true_eq, if_true, if_false, ↓reduceIte, Nat.reduceAdd, Nat.reduceLeDiff, forL_nil]
theorem forP_keep {j : IT} {xs : List PV} {st : VSt} {B : PV → VEnv → VSt → SR} {I : VEnv → Prop} (h : Itm j st = some xs) (hB : ∀ x ∈ xs, ∀ e, I e → ∃ e', I e' ∧ B x e st = .nx e' st) : ∀ (m : Nat), m ≤ xs.length → ∀ e, I e → ∃ e', I e' ∧ forP j xs.length B m e st = .nx e' st
  | 0, _, e, i => ⟨e, i, by unfold forP; rw [h]; simp⟩
  | m + 1, hm, e, i => by
    have hi : xs.length - (m + 1) < xs.length := by omega
    obtain ⟨e', i', q⟩ := hB xs[xs.length - (m + 1)] (List.getElem_mem hi) e i
    obtain ⟨e2, i2, q2⟩ := forP_keep h hB m (by omega) e' i'
    refine ⟨e2, i2, ?_⟩
    unfold forP
    rw [h]
    simp only [if_true]
    rw [List.getElem?_eq_getElem hi]
    show (match B xs[xs.length - (m + 1)] e st with
      | .nx e s => forP j xs.length B m e s
      | .ct e s => forP j xs.length B m e s
      | .bk e s => .nx e s
      | .rt p s => .rt p s
      | .bad => .bad) = _
    rw [q]
    exact q2
/-- a loop over a list that stands, which changes nothing but the frame -/
theorem for_keep {a : EM} {g : GM} {body : SM} {p : PV} {xs : List PV} {env : VEnv} {st : VSt} (I : VEnv → Prop) (h : a env st = .ok p st) (hs : seqOf st p = some xs) (hB : ∀ x ∈ xs, ∀ e, I e → ∃ e', I e' ∧ bodyP g body x e st = .nx e' st) (hI : I env) : ∃ e', I e' ∧ sFor (iSeq a) g body env st = .nx e' st := by
  have hj : Itm (.seq p) st = some xs := hs
  obtain ⟨e', i', q⟩ := forP_keep hj hB xs.length (Nat.le_refl _) env hI
  refine ⟨e', i', ?_⟩
  have hi : iSeq a env st = .ok (.seq p) st := by
    unfold iSeq
    rw [h]
    show (if (seqOf st p).isSome = true then _ else _) = _
    rw [hs]; rfl
  unfold sFor
  rw [hi]
  show (match Itm (.seq p) st with
    | some xs => forP (.seq p) xs.length (bodyP g body) xs.length env st
    | none => SR.bad) = _
  rw [hj]
  exact q
theorem toDs_strs : ∀ xs : List Str, toDs (xs.map PV.str) = some (xs.map PyData.str)
  | [] => rfl
  | x :: xs => by
    show (match some (PyData.str x), toDs (xs.map PV.str) with
      | some d, some ds => some (d :: ds)
      | _, _ => none) = _
    rw [toDs_strs xs]; rfl
theorem toD_strs (xs : List Str) : toD (.lst (xs.map PV.str)) = some (.list (xs.map PyData.str)) := by
  show (toDs (xs.map PV.str)).map PyData.list = _
  rw [toDs_strs]; rfl
theorem lay_strs : ∀ xs : List Str, (∀ x ∈ xs, PyData.strOk x = true) → PyData.canLayAll0 (xs.map PyData.str) = true
  | [], _ => rfl
  | x :: xs, h => by
    show (PyData.strOk x && PyData.canLayAll0 (xs.map PyData.str)) = true
    rw [h x List.mem_cons_self, lay_strs xs fun y hy => h y (List.mem_cons_of_mem _ hy)]; rfl
theorem dep_strs : ∀ xs : List Str, PyData.depthAll (xs.map PyData.str) = 0
  | [] => rfl
  | x :: xs => by
    show max 0 (PyData.depthAll (xs.map PyData.str)) = 0
    rw [dep_strs xs]; rfl
theorem shp_strs {xs : List Str} (h : ∀ x ∈ xs, PyData.strOk x = true) : SeqAt.shaped (.list (xs.map PyData.str)) = true := by
  show (PyData.canLayAll0 (xs.map PyData.str) && decide (PyData.depthAll (xs.map PyData.str) + 1 ≤ 64)) = true
  rw [lay_strs xs h, dep_strs]; rfl
theorem eqv_strs {xs : List Str} (h : ∀ x ∈ xs, PyData.strOk x = true) : PyData.eqv (.list (xs.map PyData.str)) (.list (xs.map PyData.str)) = true := SeqAt.eqv_refl _ (lay_strs xs h)
theorem v_eql {neg : Bool} {p q : PV} {st : VSt} {xs : List Str} (h : ∀ x ∈ xs, PyData.strOk x = true) (hp : deref st p = .lst (xs.map PV.str)) (hq : deref st q = .lst (xs.map PV.str)) (np : p = .lst (xs.map PV.str) ∨ ∃ n, p = .loc n) : vEqF neg p q st = .ok (.bl (!neg)) st := by
  have e1 := toD_strs xs
  have e2 := shp_strs h
  have e3 := eqv_strs h
  rcases np with rfl | ⟨n, rfl⟩
  · simp only [vEqF, hp, hq, e1, e2, e3, Bool.and_self, if_true]
    cases neg <;> rfl
  · simp only [vEqF, hp, hq, e1, e2, e3, Bool.and_self, if_true]
    cases neg <;> rfl
theorem deref_lt {s : VSt} {p : PV} {m : Nat} (h : m < s.length) : deref (s ++ [p]) (.loc m) = deref s (.loc m) := by
  show (s ++ [p]).getD m .non = s.getD m .non
  rw [List.getD_eq_getElem?_getD, List.getD_eq_getElem?_getD, List.getElem?_append_left h]
theorem Cells.app {s : VSt} {p : PV} {m : Nat} {lk : Str → Int} (C : Cells s (.loc m) lk) (h : m < s.length) : Cells (s ++ [p]) (.loc m) lk where
  d := by have := C.d; unfold isDct at this ⊢; rw [deref_lt h]; exact this
  g := fun x => by
    have := C.g x
    unfold vGet at this ⊢
    rw [deref_lt h]
    revert this
    cases deref s (.loc m) with
    | dct ks xs =>
      intro this
      have e : (kLook ks xs (.inr x)).getD (.int 0) = .int (lk x) := by
        have this : Res.ok ((kLook ks xs (.inr x)).getD (.int 0)) s = .ok (.int (lk x)) s := this
        injection this
      show Res.ok ((kLook ks xs (.inr x)).getD (.int 0)) _ = _
      rw [e]
    | _ => intro this; cases this
  r := C.r
theorem once_mem {t : Trm} {ok : Str → Prop} (g : t.Good ok) : ∀ x ∈ t.once, ok x := fun x h => by
  rcases mem_puts h with z | z
  · cases z
  · exact t.good_names g x z
theorem app_loc {l a : EM} {env : VEnv} {s : VSt} {x : Str} {xs : List Str} (hl : l env (s ++ [.lst (xs.map PV.str)]) = .ok (.loc s.length) (s ++ [.lst (xs.map PV.str)])) (ha : a env (s ++ [.lst (xs.map PV.str)]) = .ok (.str x) (s ++ [.lst (xs.map PV.str)])) (hn : xs.length < 1000000) : sApp l a env (s ++ [.lst (xs.map PV.str)]) = .nx env (s ++ [.lst ((xs ++ [x]).map PV.str)]) := app_end hl rfl ha hn
theorem F_told {lk : Str → Int} {m : Nat} {st : VSt} (C : Cells st (.loc m) lk) (hm : m < st.length) (t : Trm) (n : Nat) (g : t.Good fun x => PyData.strOk x = true) (hs : t.size < 1000000) : Fm D (n + t.depth + 3) i__law_told [t.pv, .loc m] st = .ok (.bl true) st := by
  rw [c__law_told]
  unfold b__law_told
  have hN : Fm D (n + t.depth + 2) i_names_in [t.pv] = fun s => .ok (.lst (t.once.map PV.str)) s := by funext s; exact F_names_in t n s hs
  have hL : Fm D (n + t.depth + 2) i__law_names [t.pv] = fun s => .ok (.lst (t.names.map PV.str)) s := by
    funext s
    have := F_lnames t (n + 1) s (by omega)
    rwa [show n + 1 + t.depth + 1 = n + t.depth + 2 by omega] at this
  have nl := t.names_len
  have hO : Fm D (n + t.depth + 2) i__law_once [.lst (t.names.map PV.str)] = fun s => .ok (.lst (t.once.map PV.str)) s := by
    funext s
    exact F_once (n + t.depth + 1) t.names s (by omega)
  have ol : t.once.length < 1000000 := by
    have := puts_len t.names []
    have e : t.once.length ≤ 0 + t.names.length := this
    omega
  have hok := once_mem g
  have hb : boxV (.lst (t.once.map PV.str)) st = .ok (.loc st.length) (st ++ [.lst (t.once.map PV.str)]) := x_boxV (pures_strs _)
  have hW : Fm D (n + t.depth + 2) i_worth [t.pv, .loc m] (st ++ [.lst (t.once.map PV.str)]) = .ok (.int (wth lk t)) (st ++ [.lst (t.once.map PV.str)]) := by
    have := F_worth (C.app (p := .lst (t.once.map PV.str)) hm) t (n + 1) g
    rwa [show n + 1 + t.depth + 1 = n + t.depth + 2 by omega] at this
  have hV : Fm D (n + t.depth + 2) i__law_worth [t.pv, .loc m] (st ++ [.lst ((t.once ++ (["more"] : List Str)).map PV.str)]) = .ok (.int (wth lk t)) (st ++ [.lst ((t.once ++ (["more"] : List Str)).map PV.str)]) := by
    have := F_lworth (C.app (p := .lst ((t.once ++ (["more"] : List Str)).map PV.str)) hm) t (n + 1) g
    rwa [show n + 1 + t.depth + 1 = n + t.depth + 2 by omega] at this
  have hM : ∀ s, Fm D (n + t.depth + 2) i__law_numbers [.lst [.int (wth lk t)]] s = .ok (.bl true) s := fun s => F_numbers (n + t.depth + 1) _ s
  have hE : vEqF true (.loc st.length) (.lst (t.once.map PV.str)) (st ++ [.lst (t.once.map PV.str)]) = .ok (.bl false) (st ++ [.lst (t.once.map PV.str)]) := v_eql hok deref_end rfl (.inr ⟨_, rfl⟩)
  have hE2 : ∀ s, vEqF false (.lst (t.once.map PV.str)) (.lst (t.once.map PV.str)) s = .ok (.bl true) s := fun s => v_eql hok rfl rfl (.inl rfl)
  obtain ⟨e', ⟨z, rfl⟩, hf⟩ := for_keep (a := eVar 2) (g := gName 4) (body := sCons (sIf (eNot (eApp (vIsa "str") (aCons (eVar 4) aNil))) (sCons (sRet (eC (.bl false))) sNil) sNil) sNil) (p := .loc st.length) (xs := t.once.map PV.str) (env := [some t.pv, some (.loc m), some (.loc st.length), some (.int (wth lk t)), none]) (st := st ++ [.lst (t.once.map PV.str)])
    (fun e => ∃ z, e = [some t.pv, some (.loc m), some (.loc st.length), some (.int (wth lk t)), z]) rfl (by unfold seqOf; rw [deref_end]) (fun x hx e ⟨z, he⟩ => by
      subst he
      obtain ⟨y, _, rfl⟩ := List.mem_map.mp hx
      refine ⟨_, ⟨some (.str y), rfl⟩, ?_⟩
      simp -implicitDefEqProofs (disch := omega) only [bind_ok, s_ok, sb_nx, sb_rt, sb_ct, sb_bk, onB_bl, onBS_bl, x_var, x_c, x_bin, x_un, x_nil, x_cons, x_tup, x_lst, x_app, x_and, x_or, x_not, x_if, x_box, x_get, x_sl, x_onone, x_osome, x_snil, x_scons, x_set, x_expr, x_ret, x_retB, x_sif, x_bk, x_ct, x_aug, x_asg, x_gname, x_gnil, x_gcons, x_gtup, mkt0, mkl0, mkt1, mkl1, mkt2, mkl2, mkt3, mkl3, mkt4, mkl4, mkt5, mkl5, mkt6, mkl6, mkt7, mkl7, v_il0, v_it0, v_il1, v_it1, v_il2, v_it2, v_il3, v_it3, v_il4, v_it4, v_il5, v_it5, v_add, v_addI, v_sub, v_neg, v_mul, v_fdv, v_mod, v_cmp, v_eqs, v_nes, v_eqi, v_nei, v_eqb, v_ixc, opt_some, v_lenl, v_lent, v_lenc, v_tupt, v_tupl, v_intb, v_inti, v_max, v_isn, v_isnn, end_rt, end_nx, fz_int, fz_str, fz_bl, fz_non, List.getElem?_cons_zero, List.getElem?_cons_succ, List.set_cons_zero, List.set_cons_succ, List.length_cons, List.length_nil, List.take_length, Option.map_some, oldLoc, Bool.false_and, Bool.and_false, Bool.true_and, Bool.and_true, Bool.not_true, Bool.not_false, Bool.false_eq_true, decide_true, decide_false, decide_eq_true_eq, if_true, if_false, ↓reduceIte, Nat.reduceAdd, Nat.reduceLeDiff, x_body, v_isa ty_str isa_ss]) ⟨none, rfl⟩
  have ha := app_loc (l := eVar 2) (a := eC (.str "more")) (env := [some t.pv, some (.loc m), some (.loc st.length), some (.int (wth lk t)), z]) (s := st) (xs := t.once) (x := "more") rfl rfl ol
  simp -implicitDefEqProofs (disch := omega) only [bind_ok, s_ok, sb_nx, sb_rt, sb_ct, sb_bk, onB_bl, onBS_bl, x_var, x_c, x_bin, x_un, x_nil, x_cons, x_tup, x_lst, x_app, x_and, x_or, x_not, x_if, x_box, x_get, x_sl, x_onone, x_osome, x_snil, x_scons, x_set, x_expr, x_ret, x_retB, x_sif, x_bk, x_ct, x_aug, x_asg, x_gname, x_gnil, x_gcons, x_gtup, mkt0, mkl0, mkt1, mkl1, mkt2, mkl2, mkt3, mkl3, mkt4, mkl4, mkt5, mkl5, mkt6, mkl6, mkt7, mkl7, v_il0, v_it0, v_il1, v_it1, v_il2, v_it2, v_il3, v_it3, v_il4, v_it4, v_il5, v_it5, v_add, v_addI, v_sub, v_neg, v_mul, v_fdv, v_mod, v_cmp, v_eqs, v_nes, v_eqi, v_nei, v_eqb, v_ixc, opt_some, v_lenl, v_lent, v_lenc, v_tupt, v_tupl, v_intb, v_inti, v_max, v_isn, v_isnn, end_rt, end_nx, fz_int, fz_str, fz_bl, fz_non, List.getElem?_cons_zero, List.getElem?_cons_succ, List.set_cons_zero, List.set_cons_succ, List.length_cons, List.length_nil, List.take_length, Option.map_some, oldLoc, Bool.false_and, Bool.and_false, Bool.true_and, Bool.and_true, Bool.not_true, Bool.not_false, Bool.false_eq_true, decide_true, decide_false, decide_eq_true_eq, if_true, if_false, ↓reduceIte, Nat.reduceAdd, Nat.reduceLeDiff, hN, hb, hW, hL, hO, hM, hE, v_isa ty_lste isa_ll, hf, ha, hV, hE2, take_app]
end Lk

namespace Lk
open PySem L2 Vm
def fb_law_0 (T : Tbl) : SM := (sCons (sSet 6 (eTup (aCons (eC (.str "name")) (aCons (eBin vIx (eVar 1) (eBin vMod (eVar 4) (eC (.int 5)))) aNil)))) (sCons (sSet 2 (eBin vIx (eLst (aCons (eTup (aCons (eC (.str "sum")) (aCons (eVar 2) (aCons (eTup (aCons (eC (.str "num")) (aCons (eVar 4) aNil))) aNil)))) (aCons (eTup (aCons (eC (.str "less")) (aCons (eVar 6) (aCons (eVar 2) aNil)))) (aCons (eTup (aCons (eC (.str "times")) (aCons (eVar 2) (aCons (eTup (aCons (eC (.str "num")) (aCons (eC (.int 1000002)) aNil))) aNil)))) aNil)))) (eBin vMod (eVar 4) (eC (.int 3))))) sNil))
def fb_law_1 (T : Tbl) : SM := (sCons (sPut (eVar 3) (eBin vIx (eVar 1) (eBin vMod (eBin vAdd (eApp (T i__law_cell) (aCons (eVar 0) (aCons (eC (.int 3)) aNil))) (eBin vMul (eC (.int 2)) (eVar 4))) (eC (.int 5)))) (eBin vMod (eApp (T i__law_mixed) (aCons (eApp (T i__law_cell) (aCons (eVar 0) (aCons (eC (.int 4)) aNil))) (aCons (eVar 4) aNil))) (eBin vIx (eLst (aCons (eC (.int 3)) (aCons (eC (.int 1000003)) aNil))) (eBin vMod (eVar 4) (eC (.int 2)))))) sNil)
def q_law_0 (T : Tbl) : SM := (sSet 1 (eApp (T i__law_words) (aCons (eApp (T i__law_cell) (aCons (eVar 0) (aCons (eC (.int 0)) aNil))) (aCons (eC (.int 5)) aNil))))
def q_law_1 (T : Tbl) : SM := (sSet 2 (eApp (T i__law_term) (aCons (eApp (T i__law_cell) (aCons (eVar 0) (aCons (eC (.int 1)) aNil))) (aCons (eVar 1) (aCons (eBin vMod (eApp (T i__law_cell) (aCons (eVar 0) (aCons (eC (.int 2)) aNil))) (eC (.int 4))) aNil)))))
def q_law_2 (T : Tbl) : SM := (sIf (eBin (vEqF false) (eBin vMod (eBin vFdv (eApp (T i__law_cell) (aCons (eVar 0) (aCons (eC (.int 2)) aNil))) (eC (.int 16))) (eC (.int 6))) (eC (.int 1))) (sCons (sFor (iRng1' (eBin vMod (eBin vFdv (eApp (T i__law_cell) (aCons (eVar 0) (aCons (eC (.int 2)) aNil))) (eC (.int 96))) (eC (.int 16)))) (gName 4) (sCons (sSet 6 (eTup (aCons (eC (.str "name")) (aCons (eBin vIx (eVar 1) (eBin vMod (eVar 4) (eC (.int 5)))) aNil)))) (sCons (sSet 2 (eBin vIx (eLst (aCons (eTup (aCons (eC (.str "sum")) (aCons (eVar 2) (aCons (eTup (aCons (eC (.str "num")) (aCons (eVar 4) aNil))) aNil)))) (aCons (eTup (aCons (eC (.str "less")) (aCons (eVar 6) (aCons (eVar 2) aNil)))) (aCons (eTup (aCons (eC (.str "times")) (aCons (eVar 2) (aCons (eTup (aCons (eC (.str "num")) (aCons (eC (.int 1000002)) aNil))) aNil)))) aNil)))) (eBin vMod (eVar 4) (eC (.int 3))))) sNil))) sNil) sNil)
def q_law_3 (T : Tbl) : SM := (sSet 3 (eBox (fun _ st => .ok (.dct [.inr "other" ] [.int 7]) st)))
def q_law_4 (T : Tbl) : SM := (sFor (iRng1' (eBin vMod (eBin vFdv (eApp (T i__law_cell) (aCons (eVar 0) (aCons (eC (.int 2)) aNil))) (eC (.int 4))) (eC (.int 4)))) (gName 4) (sCons (sPut (eVar 3) (eBin vIx (eVar 1) (eBin vMod (eBin vAdd (eApp (T i__law_cell) (aCons (eVar 0) (aCons (eC (.int 3)) aNil))) (eBin vMul (eC (.int 2)) (eVar 4))) (eC (.int 5)))) (eBin vMod (eApp (T i__law_mixed) (aCons (eApp (T i__law_cell) (aCons (eVar 0) (aCons (eC (.int 4)) aNil))) (aCons (eVar 4) aNil))) (eBin vIx (eLst (aCons (eC (.int 3)) (aCons (eC (.int 1000003)) aNil))) (eBin vMod (eVar 4) (eC (.int 2)))))) sNil))
def q_law_5 (T : Tbl) : SM := (sSet 5 (eApp vDictOf (aCons (eVar 3) aNil)))
def q_law_6 (T : Tbl) : SM := (sIf (eOr (eNot (eApp (T i__law_told) (aCons (eVar 2) (aCons (eVar 3) aNil)))) (eBin (vEqF true) (eVar 3) (eVar 5))) (sCons (sRet (eC (.bl false))) sNil) sNil)
def q_law_7 (T : Tbl) : SM := (sPut (eVar 3) (eBin vIx (eVar 1) (eBin vMod (eApp (T i__law_cell) (aCons (eVar 0) (aCons (eC (.int 5)) aNil))) (eC (.int 5)))) (eBin vMod (eApp (T i__law_cell) (aCons (eVar 0) (aCons (eC (.int 6)) aNil))) (eC (.int 1000003))))
def q_law_8 (T : Tbl) : SM := (sSet 5 (eApp vDictOf (aCons (eVar 3) aNil)))
def q_law_9 (T : Tbl) : SM := (sRet (eAnd (eApp (T i__law_told) (aCons (eVar 2) (aCons (eVar 3) aNil))) (eBin (vEqF false) (eVar 3) (eVar 5))))
theorem b_law_q (T : Tbl) : b_law T = (sCons (q_law_0 T) (sCons (q_law_1 T) (sCons (q_law_2 T) (sCons (q_law_3 T) (sCons (q_law_4 T) (sCons (q_law_5 T) (sCons (q_law_6 T) (sCons (q_law_7 T) (sCons (q_law_8 T) (sCons (q_law_9 T) sNil)))))))))) := rfl
end Lk

namespace Lk
open PySem L2 Vm
/-! ## the law k01 -/
/-- texts of letters -/
def sOk (x : Str) : Prop := ∀ c ∈ x.cps.toList, c < 1114112
theorem sOk_ok {x : Str} (h : sOk x) : PyData.strOk x = true := by
  unfold PyData.strOk
  rw [Array.all_eq_true']
  intro c hc
  exact decide_eq_true (h c (by simpa using hc))
theorem sOk_app {a b : Str} (h : sOk a) (k : sOk b) : sOk (a ++ b) := fun c hc => by
  have e : (a ++ b).cps.toList = a.cps.toList ++ b.cps.toList := by
    show (a.cps ++ b.cps).toList = _
    simp
  rw [e] at hc
  rcases List.mem_append.mp hc with z | z
  · exact h c z
  · exact k c z
theorem sOk_rep {a : Str} (n : Nat) (h : sOk a) : sOk (repS a n) := fun c hc => by
  have e : (repS a n).cps.toList = (List.replicate n a.cps.toList).flatten := by unfold repS; simp
  rw [e] at hc
  obtain ⟨l, hl, hc⟩ := List.mem_flatten.mp hc
  rw [(List.mem_replicate.mp hl).2] at hc
  exact h c hc
theorem sOk_ltr (c : Int) : sOk (ltr (c % 26)) := fun d hd => by
  have : d = 97 + (c % 26).toNat := by simpa [ltr] using hd
  omega

theorem sOk_cut {a : Str} (lo hi : Option Int) (h : sOk a) : sOk (cutS a lo hi) := fun c hc => by
  have e : (cutS a lo hi).cps.toList = (a.cps.toList.drop (HT.sIx a.length 0 lo)).take (HT.sIx a.length a.length hi - HT.sIx a.length 0 lo) := by unfold cutS; simp
  rw [e] at hc
  exact h c (List.mem_of_mem_drop (List.mem_of_mem_take hc))
theorem sOk_base (c : Int) : sOk (wBase c) := sOk_rep _ (sOk_ltr c)
theorem sOk_word (c : Int) (k : Nat) : sOk (wordF c k) := by
  unfold wordF
  split
  · exact sOk_rep _ (sOk_ltr c)
  · exact sOk_app (sOk_app (sOk_cut _ _ (sOk_base c)) (sOk_ltr _)) (sOk_cut _ _ (sOk_base c))
theorem words_ok (c : Int) (m : Nat) : ∀ x ∈ wordsF c m, PyData.strOk x = true := fun x h => by
  obtain ⟨k, _, rfl⟩ := List.mem_map.mp h
  exact sOk_ok (sOk_word c k)
theorem Trm.Good.mono {ok ok' : Str → Prop} (h : ∀ x, ok x → ok' x) : ∀ {t : Trm}, t.Good ok → t.Good ok'
  | .num _, g => g
  | .name x, g => h x g
  | .bin _ _ _, g => ⟨g.1, g.2.1.mono h, g.2.2.mono h⟩
abbrev OkS : Str → Prop := fun x => PyData.strOk x = true
theorem wrap_one {ns : List Int} {ws : List Str} {T : Tbl} (hw : (ws.length : Int) = 5) (hk : ∀ x ∈ ws, OkS x) (t : Trm) (g : t.Good OkS) (k : Int) (h0 : 0 ≤ k) (h1 : k < 16) (y z : Option PV) :
    ∃ (t' : Trm) (z' : Option PV), t'.Good OkS ∧ t'.depth ≤ t.depth + 1 ∧ t'.size ≤ t.size + 2 ∧ bodyP (gName 4) (fb_law_0 T) (.int k) [some (.scr ns), some (.lst (ws.map PV.str)), some t.pv, none, y, none, z] [] = .nx [some (.scr ns), some (.lst (ws.map PV.str)), some t'.pv, none, some (.int k), none, z'] [] := by
  have hn : OkS (ws.getD (k % 5).toNat "") := by
    have : (k % 5).toNat < ws.length := by omega
    rw [List.getD_eq_getElem?_getD, List.getElem?_eq_getElem this]
    exact hk _ (List.getElem_mem _)
  have o0 : opS 0 = "sum" := rfl
  have o1 : opS 1 = "less" := rfl
  have o2 : opS 2 = "times" := rfl
  have h3 : k % 3 = 0 ∨ k % 3 = 1 ∨ k % 3 = 2 := by omega
  unfold fb_law_0
  rcases h3 with h3 | h3 | h3
  · refine ⟨.bin 0 t (.num k), some (Trm.name (ws.getD (k % 5).toNat "")).pv, ⟨by omega, g, by omega, by omega⟩, ?_, ?_, ?_⟩
    · show max t.depth 0 + 1 ≤ _; omega
    · show t.size + 1 + 1 ≤ _; omega
    · simp -implicitDefEqProofs (disch := omega) only [bind_ok, s_ok, sb_nx, sb_rt, sb_ct, sb_bk, onB_bl, onBS_bl, x_var, x_c, x_bin, x_un, x_nil, x_cons, x_tup, x_lst, x_app, x_and, x_or, x_not, x_if, x_box, x_get, x_sl, x_onone, x_osome, x_snil, x_scons, x_set, x_expr, x_ret, x_retB, x_sif, x_bk, x_ct, x_aug, x_asg, x_gname, x_gnil, x_gcons, x_gtup, mkt0, mkl0, mkt1, mkl1, mkt2, mkl2, mkt3, mkl3, mkt4, mkl4, mkt5, mkl5, mkt6, mkl6, mkt7, mkl7, v_il0, v_it0, v_il1, v_it1, v_il2, v_it2, v_il3, v_it3, v_il4, v_it4, v_il5, v_it5, v_add, v_addI, v_sub, v_neg, v_mul, v_fdv, v_mod, v_cmp, v_eqs, v_nes, v_eqi, v_nei, v_eqb, v_ixc, opt_some, v_lenl, v_lent, v_lenc, v_tupt, v_tupl, v_intb, v_inti, v_max, v_isn, v_isnn, end_rt, end_nx, fz_int, fz_str, fz_bl, fz_non, List.getElem?_cons_zero, List.getElem?_cons_succ, List.set_cons_zero, List.set_cons_succ, List.length_cons, List.length_nil, List.take_length, Option.map_some, oldLoc, Bool.false_and, Bool.and_false, Bool.true_and, Bool.and_true, Bool.not_true, Bool.not_false, Bool.false_eq_true, decide_true, decide_false, decide_eq_true_eq, if_true, if_false, ↓reduceIte, Nat.reduceAdd, Nat.reduceLeDiff, x_body, v_word, h3, Trm.pv, o0]
  · refine ⟨.bin 1 (.name (ws.getD (k % 5).toNat "")) t, some (Trm.name (ws.getD (k % 5).toNat "")).pv, ⟨by omega, hn, g⟩, ?_, ?_, ?_⟩
    · show max 0 t.depth + 1 ≤ _; omega
    · show 1 + t.size + 1 ≤ _; omega
    · simp -implicitDefEqProofs (disch := omega) only [bind_ok, s_ok, sb_nx, sb_rt, sb_ct, sb_bk, onB_bl, onBS_bl, x_var, x_c, x_bin, x_un, x_nil, x_cons, x_tup, x_lst, x_app, x_and, x_or, x_not, x_if, x_box, x_get, x_sl, x_onone, x_osome, x_snil, x_scons, x_set, x_expr, x_ret, x_retB, x_sif, x_bk, x_ct, x_aug, x_asg, x_gname, x_gnil, x_gcons, x_gtup, mkt0, mkl0, mkt1, mkl1, mkt2, mkl2, mkt3, mkl3, mkt4, mkl4, mkt5, mkl5, mkt6, mkl6, mkt7, mkl7, v_il0, v_it0, v_il1, v_it1, v_il2, v_it2, v_il3, v_it3, v_il4, v_it4, v_il5, v_it5, v_add, v_addI, v_sub, v_neg, v_mul, v_fdv, v_mod, v_cmp, v_eqs, v_nes, v_eqi, v_nei, v_eqb, v_ixc, opt_some, v_lenl, v_lent, v_lenc, v_tupt, v_tupl, v_intb, v_inti, v_max, v_isn, v_isnn, end_rt, end_nx, fz_int, fz_str, fz_bl, fz_non, List.getElem?_cons_zero, List.getElem?_cons_succ, List.set_cons_zero, List.set_cons_succ, List.length_cons, List.length_nil, List.take_length, Option.map_some, oldLoc, Bool.false_and, Bool.and_false, Bool.true_and, Bool.and_true, Bool.not_true, Bool.not_false, Bool.false_eq_true, decide_true, decide_false, decide_eq_true_eq, if_true, if_false, ↓reduceIte, Nat.reduceAdd, Nat.reduceLeDiff, x_body, v_word, h3, Trm.pv, o1]
  · refine ⟨.bin 2 t (.num 1000002), some (Trm.name (ws.getD (k % 5).toNat "")).pv, ⟨by omega, g, by omega, by omega⟩, ?_, ?_, ?_⟩
    · show max t.depth 0 + 1 ≤ _; omega
    · show t.size + 1 + 1 ≤ _; omega
    · simp -implicitDefEqProofs (disch := omega) only [bind_ok, s_ok, sb_nx, sb_rt, sb_ct, sb_bk, onB_bl, onBS_bl, x_var, x_c, x_bin, x_un, x_nil, x_cons, x_tup, x_lst, x_app, x_and, x_or, x_not, x_if, x_box, x_get, x_sl, x_onone, x_osome, x_snil, x_scons, x_set, x_expr, x_ret, x_retB, x_sif, x_bk, x_ct, x_aug, x_asg, x_gname, x_gnil, x_gcons, x_gtup, mkt0, mkl0, mkt1, mkl1, mkt2, mkl2, mkt3, mkl3, mkt4, mkl4, mkt5, mkl5, mkt6, mkl6, mkt7, mkl7, v_il0, v_it0, v_il1, v_it1, v_il2, v_it2, v_il3, v_it3, v_il4, v_it4, v_il5, v_it5, v_add, v_addI, v_sub, v_neg, v_mul, v_fdv, v_mod, v_cmp, v_eqs, v_nes, v_eqi, v_nei, v_eqb, v_ixc, opt_some, v_lenl, v_lent, v_lenc, v_tupt, v_tupl, v_intb, v_inti, v_max, v_isn, v_isnn, end_rt, end_nx, fz_int, fz_str, fz_bl, fz_non, List.getElem?_cons_zero, List.getElem?_cons_succ, List.set_cons_zero, List.set_cons_succ, List.length_cons, List.length_nil, List.take_length, Option.map_some, oldLoc, Bool.false_and, Bool.and_false, Bool.true_and, Bool.and_true, Bool.not_true, Bool.not_false, Bool.false_eq_true, decide_true, decide_false, decide_eq_true_eq, if_true, if_false, ↓reduceIte, Nat.reduceAdd, Nat.reduceLeDiff, x_body, v_word, h3, Trm.pv, o2]
theorem wrap_loop {ns : List Int} {ws : List Str} {T : Tbl} (hw : (ws.length : Int) = 5) (hk : ∀ x ∈ ws, OkS x) : ∀ (is : List Int), (∀ i ∈ is, 0 ≤ i ∧ i < 16) → ∀ (t : Trm) (y z : Option PV), t.Good OkS →
    ∃ (t' : Trm) (y' z' : Option PV), t'.Good OkS ∧ t'.depth ≤ t.depth + is.length ∧ t'.size ≤ t.size + 2 * is.length ∧ forL (bodyP (gName 4) (fb_law_0 T)) (is.map PV.int) [some (.scr ns), some (.lst (ws.map PV.str)), some t.pv, none, y, none, z] [] = .nx [some (.scr ns), some (.lst (ws.map PV.str)), some t'.pv, none, y', none, z'] []
  | [], _, t, y, z, g => ⟨t, y, z, g, Nat.le_refl _, Nat.le_refl _, rfl⟩
  | i :: is, h, t, y, z, g => by
    obtain ⟨h0, h1⟩ := h i List.mem_cons_self
    obtain ⟨t1, z1, g1, d1, s1, e1⟩ := wrap_one (ns := ns) (T := T) hw hk t g i h0 h1 y z
    obtain ⟨t2, y2, z2, g2, d2, s2, e2⟩ := wrap_loop hw hk is (fun j hj => h j (List.mem_cons_of_mem _ hj)) t1 (some (.int i)) z1 g1
    refine ⟨t2, y2, z2, g2, by rw [List.length_cons]; omega, by rw [List.length_cons]; omega, ?_⟩
    rw [List.map_cons, forL_cons, e1]
    exact e2
/-- cells: keys once each, numbers in their range -/
structure CI (ks : List Key) (xs : List PV) : Prop where
  nd : ks.Nodup
  len : ks.length = xs.length
  r : ∀ x ∈ xs, ∃ i : Int, x = .int i ∧ 0 ≤ i ∧ i < 1000003
theorem not_has {ks : List Key} {k : Key} (h : ¬ hasK ks k = true) : k ∉ ks := fun m => h (by
  unfold hasK
  rw [List.any_eq_true]
  exact ⟨k, m, decide_eq_true rfl⟩)
theorem CI.put {ks : List Key} {xs : List PV} (C : CI ks xs) (k : Key) (v : Int) (h0 : 0 ≤ v) (h1 : v < 1000003) : CI (kPutK ks k) (kPutV ks xs k (.int v)) ∧ (kPutK ks k).length ≤ ks.length + 1 := by
  unfold kPutK kPutV
  by_cases h : hasK ks k = true
  · rw [if_pos h, if_pos h]
    refine ⟨⟨C.nd, by rw [List.length_map, List.length_zip, ← C.len]; omega, fun x hx => ?_⟩, by omega⟩
    obtain ⟨⟨a, b⟩, hm, rfl⟩ := List.mem_map.mp hx
    split
    · exact ⟨v, rfl, h0, h1⟩
    · exact C.r b (List.of_mem_zip hm).2
  · rw [if_neg h, if_neg h]
    refine ⟨⟨?_, by rw [List.length_append, List.length_append, C.len]; rfl, fun x hx => ?_⟩, by rw [List.length_append]; exact Nat.le_refl _⟩
    · rw [List.nodup_append]
      refine ⟨C.nd, by simp, fun a ha b hb e => ?_⟩
      obtain rfl : b = k := by simpa using hb
      subst e
      exact not_has h ha
    · rcases List.mem_append.mp hx with z | z
      · exact C.r x z
      · obtain rfl : x = .int v := by simpa using z
        exact ⟨v, rfl, h0, h1⟩
theorem look_mem {k : Key} {x : PV} : ∀ {ks : List Key} {xs : List PV}, kLook ks xs k = some x → x ∈ xs
  | [], _, h => by cases h
  | _ :: _, [], h => by cases h
  | k' :: ks, y :: xs, h => by
    unfold kLook at h
    split at h
    · obtain rfl : y = x := by simpa using h
      exact List.mem_cons_self
    · exact List.mem_cons_of_mem _ (look_mem h)
def toI : PV → Int
  | .int i => i
  | _ => 0
theorem CI.cells {ks : List Key} {xs : List PV} (C : CI ks xs) : Cells [.dct ks xs] (.loc 0) fun x => toI ((kLook ks xs (.inr x)).getD (.int 0)) := by
  have key : ∀ k, ∃ i : Int, (kLook ks xs k).getD (.int 0) = .int i ∧ 0 ≤ i ∧ i < 1000003 := fun k => by
    cases e : kLook ks xs k with
    | none => exact ⟨0, rfl, by omega, by omega⟩
    | some y => exact C.r y (look_mem e)
  refine ⟨rfl, fun x => ?_, fun x => ?_⟩
  · show Res.ok ((kLook ks xs (.inr x)).getD (.int 0)) _ = _
    obtain ⟨i, e, _⟩ := key (.inr x)
    simp only [e, toI]
  · obtain ⟨i, e, h⟩ := key (.inr x)
    simp only [e, toI]
    exact h
theorem dEq_refl : ∀ {ks : List Key} {xs : List PV}, ks.length = xs.length → (∀ x ∈ xs, ∃ i : Int, x = .int i ∧ 0 ≤ i ∧ i < 1000003) → dEq ks xs ks xs = true
  | [], [], _, _ => rfl
  | [], _ :: _, h, _ => by cases h
  | _ :: _, [], h, _ => by cases h
  | k :: ks, x :: xs, h, r => by
    obtain ⟨i, rfl, _⟩ := r x List.mem_cons_self
    show (decide (k = k) && decide (i = i) && dEq ks xs ks xs) = true
    rw [dEq_refl (by simpa using h) fun y hy => r y (List.mem_cons_of_mem _ hy)]
    simp
theorem CI.eq {ks : List Key} {xs : List PV} (C : CI ks xs) (neg : Bool) : vEqF neg (.loc 0) (.dct ks xs) [.dct ks xs] = .ok (.bl (!neg)) [.dct ks xs] := by
  have h : vEqF neg (.loc 0) (.dct ks xs) [.dct ks xs] = if (dEq ks xs ks xs && decide ks.Nodup) = true then .ok (.bl (!neg)) [.dct ks xs] else .bad := rfl
  rw [h, dEq_refl C.len C.r, decide_eq_true C.nd]; rfl
theorem put_0 {d k v : EM} {env : VEnv} {x : Str} {i : Int} {ks : List Key} {xs : List PV} (hv : v env [.dct ks xs] = .ok (.int i) [.dct ks xs]) (hd : d env [.dct ks xs] = .ok (.loc 0) [.dct ks xs]) (hk : k env [.dct ks xs] = .ok (.str x) [.dct ks xs]) (hn : ks.length < 1000000) : sPut d k v env [.dct ks xs] = .nx env [.dct (kPutK ks (.inr x)) (kPutV ks xs (.inr x) (.int i))] := by
  unfold sPut
  rw [hv]
  show (d env [.dct ks xs]).s _ = _
  rw [hd]
  show (k env [.dct ks xs]).s _ = _
  rw [hk]
  show (if ks.length < 1000000 ∧ pureP (.int i) = true then SR.nx env [PV.dct (kPutK ks (.inr x)) (kPutV ks xs (.inr x) (.int i))] else .bad) = _
  rw [if_pos ⟨hn, rfl⟩]
end Lk

namespace Lk
open PySem L2 Vm
abbrev fr7 (ns : List Int) (ws : List Str) (t c y k z : Option PV) : VEnv := [some (.scr ns), some (.lst (ws.map PV.str)), t, c, y, k, z]
theorem cell_one {ns : List Int} {ws : List Str} (hw : (ws.length : Int) = 5) (i : Int) (h0 : 0 ≤ i) (h1 : i < 4) (t y z : Option PV) (ks : List Key) (xs : List PV) (C : CI ks xs) (hl : ks.length < 1000000) :
    ∃ (ks' : List Key) (xs' : List PV), CI ks' xs' ∧ ks'.length ≤ ks.length + 1 ∧ bodyP (gName 4) (fb_law_1 (Fm D 100)) (.int i) (fr7 ns ws t (some (.loc 0)) y none z) [.dct ks xs] = .nx (fr7 ns ws t (some (.loc 0)) (some (.int i)) none z) [.dct ks' xs'] := by
  have c3 : ∀ s, Fm D 100 i__law_cell [.scr ns, .int 3] s = .ok (.int (cellF ns 3)) s := fun s => F_cell 99 ns 3 s
  have c4 : ∀ s, Fm D 100 i__law_cell [.scr ns, .int 4] s = .ok (.int (cellF ns 4)) s := fun s => F_cell 99 ns 4 s
  have fm : ∀ (a k : Int) (s : VSt), Fm D 100 i__law_mixed [.int a, .int k] s = .ok (.int (mixedF a k)) s := fun a k s => F_mixed 99 a k s
  generalize cellF ns 3 = x3 at c3
  generalize cellF ns 4 = x4 at c4
  have hm := mixedF_range x4 i
  generalize he : mixedF x4 i = mx at hm
  have fm' : ∀ s : VSt, Fm D 100 i__law_mixed [.int x4, .int i] s = .ok (.int mx) s := fun s => by rw [fm, he]
  have hk : eBin vIx (eVar 1) (eBin vMod (eBin vAdd (eApp (Fm D 100 i__law_cell) (aCons (eVar 0) (aCons (eC (.int 3)) aNil))) (eBin vMul (eC (.int 2)) (eVar 4))) (eC (.int 5))) (fr7 ns ws t (some (.loc 0)) (some (.int i)) none z) [.dct ks xs] = .ok (.str (ws.getD ((x3 + 2 * i) % 5).toNat "")) [.dct ks xs] := by
    simp -implicitDefEqProofs (disch := omega) only [bind_ok, s_ok, sb_nx, sb_rt, sb_ct, sb_bk, onB_bl, onBS_bl, x_var, x_c, x_bin, x_un, x_nil, x_cons, x_tup, x_lst, x_app, x_and, x_or, x_not, x_if, x_box, x_get, x_sl, x_onone, x_osome, x_snil, x_scons, x_set, x_expr, x_ret, x_retB, x_sif, x_bk, x_ct, x_aug, x_asg, x_gname, x_gnil, x_gcons, x_gtup, mkt0, mkl0, mkt1, mkl1, mkt2, mkl2, mkt3, mkl3, mkt4, mkl4, mkt5, mkl5, mkt6, mkl6, mkt7, mkl7, v_il0, v_it0, v_il1, v_it1, v_il2, v_it2, v_il3, v_it3, v_il4, v_it4, v_il5, v_it5, v_add, v_addI, v_sub, v_neg, v_mul, v_fdv, v_mod, v_cmp, v_eqs, v_nes, v_eqi, v_nei, v_eqb, v_ixc, opt_some, v_lenl, v_lent, v_lenc, v_tupt, v_tupl, v_intb, v_inti, v_max, v_isn, v_isnn, end_rt, end_nx, fz_int, fz_str, fz_bl, fz_non, List.getElem?_cons_zero, List.getElem?_cons_succ, List.set_cons_zero, List.set_cons_succ, List.length_cons, List.length_nil, List.take_length, Option.map_some, oldLoc, Bool.false_and, Bool.and_false, Bool.true_and, Bool.and_true, Bool.not_true, Bool.not_false, Bool.false_eq_true, decide_true, decide_false, decide_eq_true_eq, if_true, if_false, ↓reduceIte, Nat.reduceAdd, Nat.reduceLeDiff, c3, v_word]
  have h2 : i % 2 = 0 ∨ i % 2 = 1 := by omega
  rcases h2 with h2 | h2
  · have hv : eBin vMod (eApp (Fm D 100 i__law_mixed) (aCons (eApp (Fm D 100 i__law_cell) (aCons (eVar 0) (aCons (eC (.int 4)) aNil))) (aCons (eVar 4) aNil))) (eBin vIx (eLst (aCons (eC (.int 3)) (aCons (eC (.int 1000003)) aNil))) (eBin vMod (eVar 4) (eC (.int 2)))) (fr7 ns ws t (some (.loc 0)) (some (.int i)) none z) [.dct ks xs] = .ok (.int (mx % 3)) [.dct ks xs] := by
      simp -implicitDefEqProofs (disch := omega) only [bind_ok, s_ok, sb_nx, sb_rt, sb_ct, sb_bk, onB_bl, onBS_bl, x_var, x_c, x_bin, x_un, x_nil, x_cons, x_tup, x_lst, x_app, x_and, x_or, x_not, x_if, x_box, x_get, x_sl, x_onone, x_osome, x_snil, x_scons, x_set, x_expr, x_ret, x_retB, x_sif, x_bk, x_ct, x_aug, x_asg, x_gname, x_gnil, x_gcons, x_gtup, mkt0, mkl0, mkt1, mkl1, mkt2, mkl2, mkt3, mkl3, mkt4, mkl4, mkt5, mkl5, mkt6, mkl6, mkt7, mkl7, v_il0, v_it0, v_il1, v_it1, v_il2, v_it2, v_il3, v_it3, v_il4, v_it4, v_il5, v_it5, v_add, v_addI, v_sub, v_neg, v_mul, v_fdv, v_mod, v_cmp, v_eqs, v_nes, v_eqi, v_nei, v_eqb, v_ixc, opt_some, v_lenl, v_lent, v_lenc, v_tupt, v_tupl, v_intb, v_inti, v_max, v_isn, v_isnn, end_rt, end_nx, fz_int, fz_str, fz_bl, fz_non, List.getElem?_cons_zero, List.getElem?_cons_succ, List.set_cons_zero, List.set_cons_succ, List.length_cons, List.length_nil, List.take_length, Option.map_some, oldLoc, Bool.false_and, Bool.and_false, Bool.true_and, Bool.and_true, Bool.not_true, Bool.not_false, Bool.false_eq_true, decide_true, decide_false, decide_eq_true_eq, if_true, if_false, ↓reduceIte, Nat.reduceAdd, Nat.reduceLeDiff, c4, fm', h2]
    obtain ⟨C', l'⟩ := C.put (.inr (ws.getD ((x3 + 2 * i) % 5).toNat "")) (mx % 3) (by omega) (by omega)
    refine ⟨_, _, C', l', ?_⟩
    have hp := put_0 (d := eVar 3) hv rfl hk hl
    unfold fb_law_1
    rw [x_body, x_gname]
    show sCons _ sNil (fr7 ns ws t (some (.loc 0)) (some (.int i)) none z) [.dct ks xs] = _
    rw [x_scons, hp]
    rfl
  · have hv : eBin vMod (eApp (Fm D 100 i__law_mixed) (aCons (eApp (Fm D 100 i__law_cell) (aCons (eVar 0) (aCons (eC (.int 4)) aNil))) (aCons (eVar 4) aNil))) (eBin vIx (eLst (aCons (eC (.int 3)) (aCons (eC (.int 1000003)) aNil))) (eBin vMod (eVar 4) (eC (.int 2)))) (fr7 ns ws t (some (.loc 0)) (some (.int i)) none z) [.dct ks xs] = .ok (.int (mx % 1000003)) [.dct ks xs] := by
      simp -implicitDefEqProofs (disch := omega) only [bind_ok, s_ok, sb_nx, sb_rt, sb_ct, sb_bk, onB_bl, onBS_bl, x_var, x_c, x_bin, x_un, x_nil, x_cons, x_tup, x_lst, x_app, x_and, x_or, x_not, x_if, x_box, x_get, x_sl, x_onone, x_osome, x_snil, x_scons, x_set, x_expr, x_ret, x_retB, x_sif, x_bk, x_ct, x_aug, x_asg, x_gname, x_gnil, x_gcons, x_gtup, mkt0, mkl0, mkt1, mkl1, mkt2, mkl2, mkt3, mkl3, mkt4, mkl4, mkt5, mkl5, mkt6, mkl6, mkt7, mkl7, v_il0, v_it0, v_il1, v_it1, v_il2, v_it2, v_il3, v_it3, v_il4, v_it4, v_il5, v_it5, v_add, v_addI, v_sub, v_neg, v_mul, v_fdv, v_mod, v_cmp, v_eqs, v_nes, v_eqi, v_nei, v_eqb, v_ixc, opt_some, v_lenl, v_lent, v_lenc, v_tupt, v_tupl, v_intb, v_inti, v_max, v_isn, v_isnn, end_rt, end_nx, fz_int, fz_str, fz_bl, fz_non, List.getElem?_cons_zero, List.getElem?_cons_succ, List.set_cons_zero, List.set_cons_succ, List.length_cons, List.length_nil, List.take_length, Option.map_some, oldLoc, Bool.false_and, Bool.and_false, Bool.true_and, Bool.and_true, Bool.not_true, Bool.not_false, Bool.false_eq_true, decide_true, decide_false, decide_eq_true_eq, if_true, if_false, ↓reduceIte, Nat.reduceAdd, Nat.reduceLeDiff, c4, fm', h2]
    obtain ⟨C', l'⟩ := C.put (.inr (ws.getD ((x3 + 2 * i) % 5).toNat "")) (mx % 1000003) (by omega) (by omega)
    refine ⟨_, _, C', l', ?_⟩
    have hp := put_0 (d := eVar 3) hv rfl hk hl
    unfold fb_law_1
    rw [x_body, x_gname]
    show sCons _ sNil (fr7 ns ws t (some (.loc 0)) (some (.int i)) none z) [.dct ks xs] = _
    rw [x_scons, hp]
    rfl
theorem cell_loop {ns : List Int} {ws : List Str} (hw : (ws.length : Int) = 5) (t z : Option PV) : ∀ (is : List Int), (∀ i ∈ is, 0 ≤ i ∧ i < 4) → ∀ (y : Option PV) (ks : List Key) (xs : List PV), CI ks xs → ks.length + is.length < 1000000 →
    ∃ (y' : Option PV) (ks' : List Key) (xs' : List PV), CI ks' xs' ∧ ks'.length ≤ ks.length + is.length ∧ forL (bodyP (gName 4) (fb_law_1 (Fm D 100))) (is.map PV.int) (fr7 ns ws t (some (.loc 0)) y none z) [.dct ks xs] = .nx (fr7 ns ws t (some (.loc 0)) y' none z) [.dct ks' xs']
  | [], _, y, ks, xs, C, _ => ⟨y, ks, xs, C, Nat.le_refl _, rfl⟩
  | i :: is, h, y, ks, xs, C, hl => by
    obtain ⟨h0, h1⟩ := h i List.mem_cons_self
    have hl' : ks.length + (is.length + 1) < 1000000 := hl
    obtain ⟨ks1, xs1, C1, l1, e1⟩ := cell_one (ns := ns) hw i h0 h1 t y z ks xs C (by omega)
    obtain ⟨y2, ks2, xs2, C2, l2, e2⟩ := cell_loop (ns := ns) hw t z is (fun j hj => h j (List.mem_cons_of_mem _ hj)) (some (.int i)) ks1 xs1 C1 (by omega)
    refine ⟨y2, ks2, xs2, C2, by rw [List.length_cons]; omega, ?_⟩
    rw [List.map_cons, forL_cons, e1]
    exact e2
def upTo (i : Int) : List Int := (List.range i.toNat).map fun (k : Nat) => 0 + (k : Int)
theorem upTo_map (i : Int) : ((List.range i.toNat).map fun (k : Nat) => PV.int (0 + (k : Int))) = (upTo i).map PV.int := by
  unfold upTo; rw [List.map_map]; rfl
theorem upTo_mem {i : Int} : ∀ j ∈ upTo i, 0 ≤ j ∧ j < i := fun j h => by
  unfold upTo at h
  obtain ⟨k, hk, rfl⟩ := List.mem_map.mp h
  have := List.mem_range.mp hk
  omega
theorem upTo_len (i : Int) : (upTo i).length = i.toNat := by unfold upTo; rw [List.length_map, List.length_range]
theorem main (ns : List Int) (_ : ns.length ≤ 63) : ∃ st, callI d_law (Fm D 100) [.scr ns] [] = .ok (.bl true) st := by
  have h0 : callI d_law (Fm D 100) [.scr ns] [] = endI false 0 (b_law (Fm D 100) [some (.scr ns), none, none, none, none, none, none] []) := rfl
  have cc : ∀ (k : Nat) s, Fm D 100 i__law_cell [.scr ns, .int (k : Int)] s = .ok (.int (cellF ns k)) s := fun k s => F_cell 99 ns k s
  have c0 : ∀ s, Fm D 100 i__law_cell [.scr ns, .int 0] s = .ok (.int (cellF ns 0)) s := cc 0
  have c1 : ∀ s, Fm D 100 i__law_cell [.scr ns, .int 1] s = .ok (.int (cellF ns 1)) s := cc 1
  have c2 : ∀ s, Fm D 100 i__law_cell [.scr ns, .int 2] s = .ok (.int (cellF ns 2)) s := cc 2
  have c5 : ∀ s, Fm D 100 i__law_cell [.scr ns, .int 5] s = .ok (.int (cellF ns 5)) s := cc 5
  have c6 : ∀ s, Fm D 100 i__law_cell [.scr ns, .int 6] s = .ok (.int (cellF ns 6)) s := cc 6
  clear cc
  generalize cellF ns 0 = x0 at c0
  generalize cellF ns 1 = x1 at c1
  generalize cellF ns 2 = x2 at c2
  generalize cellF ns 5 = x5 at c5
  generalize cellF ns 6 = x6 at c6
  have hwd : ∀ s, Fm D 100 i__law_words [.int x0, .int 5] s = .ok (.lst ((wordsF x0 5).map PV.str)) s := fun s => F_words 99 x0 5 (by omega) s
  have hwl : (wordsF x0 5).length = 5 := len_words x0 5
  have hwo := words_ok x0 5
  generalize wordsF x0 5 = ws at hwd hwl hwo
  have hw : (ws.length : Int) = 5 := by omega
  have htm : ∀ s, Fm D 100 i__law_term [.int x1, .lst (ws.map PV.str), .int (x2 % 4)] s = .ok (termF ws (x2 % 4).toNat x1).pv s := fun s => by
    have := F_term (ws := ws) (by omega) (x2 % 4).toNat (98 - (x2 % 4).toNat) x1 s
    rw [show ((x2 % 4).toNat : Int) = x2 % 4 by omega, show 98 - (x2 % 4).toNat + (x2 % 4).toNat + 2 = 100 by omega] at this
    exact this
  have tg : (termF ws (x2 % 4).toNat x1).Good OkS := (term_good (by omega) _ _).mono hwo
  have td : (termF ws (x2 % 4).toNat x1).depth ≤ 3 := Nat.le_trans (term_depth _ _ _) (by omega)
  have tz : (termF ws (x2 % 4).toNat x1).size < 16 := by
    have h1 := term_size ws (x2 % 4).toNat x1
    have h2 : (2 : Nat) ^ ((x2 % 4).toNat + 1) ≤ 2 ^ 4 := Nat.pow_le_pow_right (by omega) (by omega)
    omega
  generalize termF ws (x2 % 4).toNat x1 = t at htm tg td tz
  have s0 : q_law_0 (Fm D 100) [some (.scr ns), none, none, none, none, none, none] [] = .nx (fr7 ns ws none none none none none) [] := by
    unfold q_law_0
    simp -implicitDefEqProofs (disch := omega) only [bind_ok, s_ok, sb_nx, sb_rt, sb_ct, sb_bk, onB_bl, onBS_bl, x_var, x_c, x_bin, x_un, x_nil, x_cons, x_tup, x_lst, x_app, x_and, x_or, x_not, x_if, x_box, x_get, x_sl, x_onone, x_osome, x_snil, x_scons, x_set, x_expr, x_ret, x_retB, x_sif, x_bk, x_ct, x_aug, x_asg, x_gname, x_gnil, x_gcons, x_gtup, mkt0, mkl0, mkt1, mkl1, mkt2, mkl2, mkt3, mkl3, mkt4, mkl4, mkt5, mkl5, mkt6, mkl6, mkt7, mkl7, v_il0, v_it0, v_il1, v_it1, v_il2, v_it2, v_il3, v_it3, v_il4, v_it4, v_il5, v_it5, v_add, v_addI, v_sub, v_neg, v_mul, v_fdv, v_mod, v_cmp, v_eqs, v_nes, v_eqi, v_nei, v_eqb, v_ixc, opt_some, v_lenl, v_lent, v_lenc, v_tupt, v_tupl, v_intb, v_inti, v_max, v_isn, v_isnn, end_rt, end_nx, fz_int, fz_str, fz_bl, fz_non, List.getElem?_cons_zero, List.getElem?_cons_succ, List.set_cons_zero, List.set_cons_succ, List.length_cons, List.length_nil, List.take_length, Option.map_some, oldLoc, Bool.false_and, Bool.and_false, Bool.true_and, Bool.and_true, Bool.not_true, Bool.not_false, Bool.false_eq_true, decide_true, decide_false, decide_eq_true_eq, if_true, if_false, ↓reduceIte, Nat.reduceAdd, Nat.reduceLeDiff, c0, hwd]
  have s1 : q_law_1 (Fm D 100) (fr7 ns ws none none none none none) [] = .nx (fr7 ns ws (some t.pv) none none none none) [] := by
    unfold q_law_1
    simp -implicitDefEqProofs (disch := omega) only [bind_ok, s_ok, sb_nx, sb_rt, sb_ct, sb_bk, onB_bl, onBS_bl, x_var, x_c, x_bin, x_un, x_nil, x_cons, x_tup, x_lst, x_app, x_and, x_or, x_not, x_if, x_box, x_get, x_sl, x_onone, x_osome, x_snil, x_scons, x_set, x_expr, x_ret, x_retB, x_sif, x_bk, x_ct, x_aug, x_asg, x_gname, x_gnil, x_gcons, x_gtup, mkt0, mkl0, mkt1, mkl1, mkt2, mkl2, mkt3, mkl3, mkt4, mkl4, mkt5, mkl5, mkt6, mkl6, mkt7, mkl7, v_il0, v_it0, v_il1, v_it1, v_il2, v_it2, v_il3, v_it3, v_il4, v_it4, v_il5, v_it5, v_add, v_addI, v_sub, v_neg, v_mul, v_fdv, v_mod, v_cmp, v_eqs, v_nes, v_eqi, v_nei, v_eqb, v_ixc, opt_some, v_lenl, v_lent, v_lenc, v_tupt, v_tupl, v_intb, v_inti, v_max, v_isn, v_isnn, end_rt, end_nx, fz_int, fz_str, fz_bl, fz_non, List.getElem?_cons_zero, List.getElem?_cons_succ, List.set_cons_zero, List.set_cons_succ, List.length_cons, List.length_nil, List.take_length, Option.map_some, oldLoc, Bool.false_and, Bool.and_false, Bool.true_and, Bool.and_true, Bool.not_true, Bool.not_false, Bool.false_eq_true, decide_true, decide_false, decide_eq_true_eq, if_true, if_false, ↓reduceIte, Nat.reduceAdd, Nat.reduceLeDiff, c1, c2, htm]
  have s2 : ∃ (t' : Trm) (y z : Option PV), t'.Good OkS ∧ t'.depth ≤ 18 ∧ t'.size < 100 ∧ q_law_2 (Fm D 100) (fr7 ns ws (some t.pv) none none none none) [] = .nx (fr7 ns ws (some t'.pv) none y none z) [] := by
    by_cases hc : x2 / 16 % 6 = 1
    · obtain ⟨t', y, z, g, d, zz, e⟩ := wrap_loop (ns := ns) (T := Fm D 100) hw hwo (upTo (x2 / 96 % 16)) (fun i hi => by have := upTo_mem i hi; omega) t none none tg
      rw [upTo_len] at d zz
      refine ⟨t', y, z, g, by omega, by omega, ?_⟩
      have hr : eBin vMod (eBin vFdv (eApp (Fm D 100 i__law_cell) (aCons (eVar 0) (aCons (eC (.int 2)) aNil))) (eC (.int 96))) (eC (.int 16)) (fr7 ns ws (some t.pv) none none none none) [] = .ok (.int (x2 / 96 % 16)) [] := by
        simp -implicitDefEqProofs (disch := omega) only [bind_ok, s_ok, sb_nx, sb_rt, sb_ct, sb_bk, onB_bl, onBS_bl, x_var, x_c, x_bin, x_un, x_nil, x_cons, x_tup, x_lst, x_app, x_and, x_or, x_not, x_if, x_box, x_get, x_sl, x_onone, x_osome, x_snil, x_scons, x_set, x_expr, x_ret, x_retB, x_sif, x_bk, x_ct, x_aug, x_asg, x_gname, x_gnil, x_gcons, x_gtup, mkt0, mkl0, mkt1, mkl1, mkt2, mkl2, mkt3, mkl3, mkt4, mkl4, mkt5, mkl5, mkt6, mkl6, mkt7, mkl7, v_il0, v_it0, v_il1, v_it1, v_il2, v_it2, v_il3, v_it3, v_il4, v_it4, v_il5, v_it5, v_add, v_addI, v_sub, v_neg, v_mul, v_fdv, v_mod, v_cmp, v_eqs, v_nes, v_eqi, v_nei, v_eqb, v_ixc, opt_some, v_lenl, v_lent, v_lenc, v_tupt, v_tupl, v_intb, v_inti, v_max, v_isn, v_isnn, end_rt, end_nx, fz_int, fz_str, fz_bl, fz_non, List.getElem?_cons_zero, List.getElem?_cons_succ, List.set_cons_zero, List.set_cons_succ, List.length_cons, List.length_nil, List.take_length, Option.map_some, oldLoc, Bool.false_and, Bool.and_false, Bool.true_and, Bool.and_true, Bool.not_true, Bool.not_false, Bool.false_eq_true, decide_true, decide_false, decide_eq_true_eq, if_true, if_false, ↓reduceIte, Nat.reduceAdd, Nat.reduceLeDiff, c2]
      have hf := for_rng (g := gName 4) (body := fb_law_0 (Fm D 100)) hr (by omega) (by omega)
      rw [upTo_map, e] at hf
      unfold fb_law_0 at hf
      have hc' : decide (x2 / 16 % 6 = 1) = true := decide_eq_true hc
      unfold q_law_2
      simp -implicitDefEqProofs (disch := omega) only [bind_ok, s_ok, sb_nx, sb_rt, sb_ct, sb_bk, onB_bl, onBS_bl, x_var, x_c, x_bin, x_un, x_nil, x_cons, x_tup, x_lst, x_app, x_and, x_or, x_not, x_if, x_box, x_get, x_sl, x_onone, x_osome, x_snil, x_scons, x_set, x_expr, x_ret, x_retB, x_sif, x_bk, x_ct, x_aug, x_asg, x_gname, x_gnil, x_gcons, x_gtup, mkt0, mkl0, mkt1, mkl1, mkt2, mkl2, mkt3, mkl3, mkt4, mkl4, mkt5, mkl5, mkt6, mkl6, mkt7, mkl7, v_il0, v_it0, v_il1, v_it1, v_il2, v_it2, v_il3, v_it3, v_il4, v_it4, v_il5, v_it5, v_add, v_addI, v_sub, v_neg, v_mul, v_fdv, v_mod, v_cmp, v_eqs, v_nes, v_eqi, v_nei, v_eqb, v_ixc, opt_some, v_lenl, v_lent, v_lenc, v_tupt, v_tupl, v_intb, v_inti, v_max, v_isn, v_isnn, end_rt, end_nx, fz_int, fz_str, fz_bl, fz_non, List.getElem?_cons_zero, List.getElem?_cons_succ, List.set_cons_zero, List.set_cons_succ, List.length_cons, List.length_nil, List.take_length, Option.map_some, oldLoc, Bool.false_and, Bool.and_false, Bool.true_and, Bool.and_true, Bool.not_true, Bool.not_false, Bool.false_eq_true, decide_true, decide_false, decide_eq_true_eq, if_true, if_false, ↓reduceIte, Nat.reduceAdd, Nat.reduceLeDiff, c2, hc, hf]
    · refine ⟨t, none, none, tg, by omega, by omega, ?_⟩
      have hc' : decide (x2 / 16 % 6 = 1) = false := decide_eq_false hc
      unfold q_law_2
      simp -implicitDefEqProofs (disch := omega) only [bind_ok, s_ok, sb_nx, sb_rt, sb_ct, sb_bk, onB_bl, onBS_bl, x_var, x_c, x_bin, x_un, x_nil, x_cons, x_tup, x_lst, x_app, x_and, x_or, x_not, x_if, x_box, x_get, x_sl, x_onone, x_osome, x_snil, x_scons, x_set, x_expr, x_ret, x_retB, x_sif, x_bk, x_ct, x_aug, x_asg, x_gname, x_gnil, x_gcons, x_gtup, mkt0, mkl0, mkt1, mkl1, mkt2, mkl2, mkt3, mkl3, mkt4, mkl4, mkt5, mkl5, mkt6, mkl6, mkt7, mkl7, v_il0, v_it0, v_il1, v_it1, v_il2, v_it2, v_il3, v_it3, v_il4, v_it4, v_il5, v_it5, v_add, v_addI, v_sub, v_neg, v_mul, v_fdv, v_mod, v_cmp, v_eqs, v_nes, v_eqi, v_nei, v_eqb, v_ixc, opt_some, v_lenl, v_lent, v_lenc, v_tupt, v_tupl, v_intb, v_inti, v_max, v_isn, v_isnn, end_rt, end_nx, fz_int, fz_str, fz_bl, fz_non, List.getElem?_cons_zero, List.getElem?_cons_succ, List.set_cons_zero, List.set_cons_succ, List.length_cons, List.length_nil, List.take_length, Option.map_some, oldLoc, Bool.false_and, Bool.and_false, Bool.true_and, Bool.and_true, Bool.not_true, Bool.not_false, Bool.false_eq_true, decide_true, decide_false, decide_eq_true_eq, if_true, if_false, ↓reduceIte, Nat.reduceAdd, Nat.reduceLeDiff, c2, hc']
  obtain ⟨t', y, z, g, d, zz, s2⟩ := s2
  have C0 : CI [.inr "other"] [.int 7] := ⟨by simp, rfl, fun x hx => ⟨7, by simpa using hx, by omega, by omega⟩⟩
  have s3 : q_law_3 (Fm D 100) (fr7 ns ws (some t'.pv) none y none z) [] = .nx (fr7 ns ws (some t'.pv) (some (.loc 0)) y none z) [.dct [.inr "other"] [.int 7]] := by
    unfold q_law_3
    have hb : boxV (.dct [.inr "other"] [.int 7]) [] = .ok (.loc 0) [.dct [.inr "other"] [.int 7]] := x_boxV rfl
    simp -implicitDefEqProofs (disch := omega) only [bind_ok, s_ok, sb_nx, sb_rt, sb_ct, sb_bk, onB_bl, onBS_bl, x_var, x_c, x_bin, x_un, x_nil, x_cons, x_tup, x_lst, x_app, x_and, x_or, x_not, x_if, x_box, x_get, x_sl, x_onone, x_osome, x_snil, x_scons, x_set, x_expr, x_ret, x_retB, x_sif, x_bk, x_ct, x_aug, x_asg, x_gname, x_gnil, x_gcons, x_gtup, mkt0, mkl0, mkt1, mkl1, mkt2, mkl2, mkt3, mkl3, mkt4, mkl4, mkt5, mkl5, mkt6, mkl6, mkt7, mkl7, v_il0, v_it0, v_il1, v_it1, v_il2, v_it2, v_il3, v_it3, v_il4, v_it4, v_il5, v_it5, v_add, v_addI, v_sub, v_neg, v_mul, v_fdv, v_mod, v_cmp, v_eqs, v_nes, v_eqi, v_nei, v_eqb, v_ixc, opt_some, v_lenl, v_lent, v_lenc, v_tupt, v_tupl, v_intb, v_inti, v_max, v_isn, v_isnn, end_rt, end_nx, fz_int, fz_str, fz_bl, fz_non, List.getElem?_cons_zero, List.getElem?_cons_succ, List.set_cons_zero, List.set_cons_succ, List.length_cons, List.length_nil, List.take_length, Option.map_some, oldLoc, Bool.false_and, Bool.and_false, Bool.true_and, Bool.and_true, Bool.not_true, Bool.not_false, Bool.false_eq_true, decide_true, decide_false, decide_eq_true_eq, if_true, if_false, ↓reduceIte, Nat.reduceAdd, Nat.reduceLeDiff, hb]
  obtain ⟨y1, ks1, xs1, C1, l1, e1⟩ := cell_loop (ns := ns) hw (some t'.pv) z (upTo (x2 / 4 % 4)) (fun i hi => by have := upTo_mem i hi; omega) y [.inr "other"] [.int 7] C0 (by rw [upTo_len]; show 1 + _ < _; omega)
  have l1' : ks1.length ≤ 1 + (upTo (x2 / 4 % 4)).length := l1
  rw [upTo_len] at l1'
  have s4 : q_law_4 (Fm D 100) (fr7 ns ws (some t'.pv) (some (.loc 0)) y none z) [.dct [.inr "other"] [.int 7]] = .nx (fr7 ns ws (some t'.pv) (some (.loc 0)) y1 none z) [.dct ks1 xs1] := by
    have hr : eBin vMod (eBin vFdv (eApp (Fm D 100 i__law_cell) (aCons (eVar 0) (aCons (eC (.int 2)) aNil))) (eC (.int 4))) (eC (.int 4)) (fr7 ns ws (some t'.pv) (some (.loc 0)) y none z) [.dct [.inr "other"] [.int 7]] = .ok (.int (x2 / 4 % 4)) [.dct [.inr "other"] [.int 7]] := by
      simp -implicitDefEqProofs (disch := omega) only [bind_ok, s_ok, sb_nx, sb_rt, sb_ct, sb_bk, onB_bl, onBS_bl, x_var, x_c, x_bin, x_un, x_nil, x_cons, x_tup, x_lst, x_app, x_and, x_or, x_not, x_if, x_box, x_get, x_sl, x_onone, x_osome, x_snil, x_scons, x_set, x_expr, x_ret, x_retB, x_sif, x_bk, x_ct, x_aug, x_asg, x_gname, x_gnil, x_gcons, x_gtup, mkt0, mkl0, mkt1, mkl1, mkt2, mkl2, mkt3, mkl3, mkt4, mkl4, mkt5, mkl5, mkt6, mkl6, mkt7, mkl7, v_il0, v_it0, v_il1, v_it1, v_il2, v_it2, v_il3, v_it3, v_il4, v_it4, v_il5, v_it5, v_add, v_addI, v_sub, v_neg, v_mul, v_fdv, v_mod, v_cmp, v_eqs, v_nes, v_eqi, v_nei, v_eqb, v_ixc, opt_some, v_lenl, v_lent, v_lenc, v_tupt, v_tupl, v_intb, v_inti, v_max, v_isn, v_isnn, end_rt, end_nx, fz_int, fz_str, fz_bl, fz_non, List.getElem?_cons_zero, List.getElem?_cons_succ, List.set_cons_zero, List.set_cons_succ, List.length_cons, List.length_nil, List.take_length, Option.map_some, oldLoc, Bool.false_and, Bool.and_false, Bool.true_and, Bool.and_true, Bool.not_true, Bool.not_false, Bool.false_eq_true, decide_true, decide_false, decide_eq_true_eq, if_true, if_false, ↓reduceIte, Nat.reduceAdd, Nat.reduceLeDiff, c2]
    have hf := for_rng (g := gName 4) (body := fb_law_1 (Fm D 100)) hr (by omega) (by omega)
    rw [upTo_map, e1] at hf
    exact hf
  have vd : ∀ (ks : List Key) (xs : List PV), vDictOf [.loc 0] [.dct ks xs] = .ok (.dct ks xs) [.dct ks xs] := fun _ _ => rfl
  have tl : ∀ (ks : List Key) (xs : List PV), CI ks xs → Fm D 100 i__law_told [t'.pv, .loc 0] [.dct ks xs] = .ok (.bl true) [.dct ks xs] := fun ks xs C => by
    have := F_told C.cells (by show 0 < 1; omega) t' (97 - t'.depth) g (by omega)
    rw [show 97 - t'.depth + t'.depth + 3 = 100 by omega] at this
    exact this
  have s5 : q_law_5 (Fm D 100) (fr7 ns ws (some t'.pv) (some (.loc 0)) y1 none z) [.dct ks1 xs1] = .nx (fr7 ns ws (some t'.pv) (some (.loc 0)) y1 (some (.dct ks1 xs1)) z) [.dct ks1 xs1] := by
    unfold q_law_5
    simp -implicitDefEqProofs (disch := omega) only [bind_ok, s_ok, sb_nx, sb_rt, sb_ct, sb_bk, onB_bl, onBS_bl, x_var, x_c, x_bin, x_un, x_nil, x_cons, x_tup, x_lst, x_app, x_and, x_or, x_not, x_if, x_box, x_get, x_sl, x_onone, x_osome, x_snil, x_scons, x_set, x_expr, x_ret, x_retB, x_sif, x_bk, x_ct, x_aug, x_asg, x_gname, x_gnil, x_gcons, x_gtup, mkt0, mkl0, mkt1, mkl1, mkt2, mkl2, mkt3, mkl3, mkt4, mkl4, mkt5, mkl5, mkt6, mkl6, mkt7, mkl7, v_il0, v_it0, v_il1, v_it1, v_il2, v_it2, v_il3, v_it3, v_il4, v_it4, v_il5, v_it5, v_add, v_addI, v_sub, v_neg, v_mul, v_fdv, v_mod, v_cmp, v_eqs, v_nes, v_eqi, v_nei, v_eqb, v_ixc, opt_some, v_lenl, v_lent, v_lenc, v_tupt, v_tupl, v_intb, v_inti, v_max, v_isn, v_isnn, end_rt, end_nx, fz_int, fz_str, fz_bl, fz_non, List.getElem?_cons_zero, List.getElem?_cons_succ, List.set_cons_zero, List.set_cons_succ, List.length_cons, List.length_nil, List.take_length, Option.map_some, oldLoc, Bool.false_and, Bool.and_false, Bool.true_and, Bool.and_true, Bool.not_true, Bool.not_false, Bool.false_eq_true, decide_true, decide_false, decide_eq_true_eq, if_true, if_false, ↓reduceIte, Nat.reduceAdd, Nat.reduceLeDiff, vd]
  have s6 : q_law_6 (Fm D 100) (fr7 ns ws (some t'.pv) (some (.loc 0)) y1 (some (.dct ks1 xs1)) z) [.dct ks1 xs1] = .nx (fr7 ns ws (some t'.pv) (some (.loc 0)) y1 (some (.dct ks1 xs1)) z) [.dct ks1 xs1] := by
    unfold q_law_6
    have h1 := tl ks1 xs1 C1
    have h2 := C1.eq true
    simp -implicitDefEqProofs (disch := omega) only [bind_ok, s_ok, sb_nx, sb_rt, sb_ct, sb_bk, onB_bl, onBS_bl, x_var, x_c, x_bin, x_un, x_nil, x_cons, x_tup, x_lst, x_app, x_and, x_or, x_not, x_if, x_box, x_get, x_sl, x_onone, x_osome, x_snil, x_scons, x_set, x_expr, x_ret, x_retB, x_sif, x_bk, x_ct, x_aug, x_asg, x_gname, x_gnil, x_gcons, x_gtup, mkt0, mkl0, mkt1, mkl1, mkt2, mkl2, mkt3, mkl3, mkt4, mkl4, mkt5, mkl5, mkt6, mkl6, mkt7, mkl7, v_il0, v_it0, v_il1, v_it1, v_il2, v_it2, v_il3, v_it3, v_il4, v_it4, v_il5, v_it5, v_add, v_addI, v_sub, v_neg, v_mul, v_fdv, v_mod, v_cmp, v_eqs, v_nes, v_eqi, v_nei, v_eqb, v_ixc, opt_some, v_lenl, v_lent, v_lenc, v_tupt, v_tupl, v_intb, v_inti, v_max, v_isn, v_isnn, end_rt, end_nx, fz_int, fz_str, fz_bl, fz_non, List.getElem?_cons_zero, List.getElem?_cons_succ, List.set_cons_zero, List.set_cons_succ, List.length_cons, List.length_nil, List.take_length, Option.map_some, oldLoc, Bool.false_and, Bool.and_false, Bool.true_and, Bool.and_true, Bool.not_true, Bool.not_false, Bool.false_eq_true, decide_true, decide_false, decide_eq_true_eq, if_true, if_false, ↓reduceIte, Nat.reduceAdd, Nat.reduceLeDiff, h1, h2]
  have hv : eBin vMod (eApp (Fm D 100 i__law_cell) (aCons (eVar 0) (aCons (eC (.int 6)) aNil))) (eC (.int 1000003)) (fr7 ns ws (some t'.pv) (some (.loc 0)) y1 (some (.dct ks1 xs1)) z) [.dct ks1 xs1] = .ok (.int (x6 % 1000003)) [.dct ks1 xs1] := by
    simp -implicitDefEqProofs (disch := omega) only [bind_ok, s_ok, sb_nx, sb_rt, sb_ct, sb_bk, onB_bl, onBS_bl, x_var, x_c, x_bin, x_un, x_nil, x_cons, x_tup, x_lst, x_app, x_and, x_or, x_not, x_if, x_box, x_get, x_sl, x_onone, x_osome, x_snil, x_scons, x_set, x_expr, x_ret, x_retB, x_sif, x_bk, x_ct, x_aug, x_asg, x_gname, x_gnil, x_gcons, x_gtup, mkt0, mkl0, mkt1, mkl1, mkt2, mkl2, mkt3, mkl3, mkt4, mkl4, mkt5, mkl5, mkt6, mkl6, mkt7, mkl7, v_il0, v_it0, v_il1, v_it1, v_il2, v_it2, v_il3, v_it3, v_il4, v_it4, v_il5, v_it5, v_add, v_addI, v_sub, v_neg, v_mul, v_fdv, v_mod, v_cmp, v_eqs, v_nes, v_eqi, v_nei, v_eqb, v_ixc, opt_some, v_lenl, v_lent, v_lenc, v_tupt, v_tupl, v_intb, v_inti, v_max, v_isn, v_isnn, end_rt, end_nx, fz_int, fz_str, fz_bl, fz_non, List.getElem?_cons_zero, List.getElem?_cons_succ, List.set_cons_zero, List.set_cons_succ, List.length_cons, List.length_nil, List.take_length, Option.map_some, oldLoc, Bool.false_and, Bool.and_false, Bool.true_and, Bool.and_true, Bool.not_true, Bool.not_false, Bool.false_eq_true, decide_true, decide_false, decide_eq_true_eq, if_true, if_false, ↓reduceIte, Nat.reduceAdd, Nat.reduceLeDiff, c6]
  have hk : eBin vIx (eVar 1) (eBin vMod (eApp (Fm D 100 i__law_cell) (aCons (eVar 0) (aCons (eC (.int 5)) aNil))) (eC (.int 5))) (fr7 ns ws (some t'.pv) (some (.loc 0)) y1 (some (.dct ks1 xs1)) z) [.dct ks1 xs1] = .ok (.str (ws.getD (x5 % 5).toNat "")) [.dct ks1 xs1] := by
    simp -implicitDefEqProofs (disch := omega) only [bind_ok, s_ok, sb_nx, sb_rt, sb_ct, sb_bk, onB_bl, onBS_bl, x_var, x_c, x_bin, x_un, x_nil, x_cons, x_tup, x_lst, x_app, x_and, x_or, x_not, x_if, x_box, x_get, x_sl, x_onone, x_osome, x_snil, x_scons, x_set, x_expr, x_ret, x_retB, x_sif, x_bk, x_ct, x_aug, x_asg, x_gname, x_gnil, x_gcons, x_gtup, mkt0, mkl0, mkt1, mkl1, mkt2, mkl2, mkt3, mkl3, mkt4, mkl4, mkt5, mkl5, mkt6, mkl6, mkt7, mkl7, v_il0, v_it0, v_il1, v_it1, v_il2, v_it2, v_il3, v_it3, v_il4, v_it4, v_il5, v_it5, v_add, v_addI, v_sub, v_neg, v_mul, v_fdv, v_mod, v_cmp, v_eqs, v_nes, v_eqi, v_nei, v_eqb, v_ixc, opt_some, v_lenl, v_lent, v_lenc, v_tupt, v_tupl, v_intb, v_inti, v_max, v_isn, v_isnn, end_rt, end_nx, fz_int, fz_str, fz_bl, fz_non, List.getElem?_cons_zero, List.getElem?_cons_succ, List.set_cons_zero, List.set_cons_succ, List.length_cons, List.length_nil, List.take_length, Option.map_some, oldLoc, Bool.false_and, Bool.and_false, Bool.true_and, Bool.and_true, Bool.not_true, Bool.not_false, Bool.false_eq_true, decide_true, decide_false, decide_eq_true_eq, if_true, if_false, ↓reduceIte, Nat.reduceAdd, Nat.reduceLeDiff, c5, v_word]
  obtain ⟨C2, l2⟩ := C1.put (.inr (ws.getD (x5 % 5).toNat "")) (x6 % 1000003) (by omega) (by omega)
  have s7 : q_law_7 (Fm D 100) (fr7 ns ws (some t'.pv) (some (.loc 0)) y1 (some (.dct ks1 xs1)) z) [.dct ks1 xs1] = .nx _ _ := put_0 (d := eVar 3) hv rfl hk (by omega)
  generalize kPutK ks1 (.inr (ws.getD (x5 % 5).toNat "")) = ks2 at C2 s7
  generalize kPutV ks1 xs1 (.inr (ws.getD (x5 % 5).toNat "")) (.int (x6 % 1000003)) = xs2 at C2 s7
  have s8 : q_law_8 (Fm D 100) (fr7 ns ws (some t'.pv) (some (.loc 0)) y1 (some (.dct ks1 xs1)) z) [.dct ks2 xs2] = .nx (fr7 ns ws (some t'.pv) (some (.loc 0)) y1 (some (.dct ks2 xs2)) z) [.dct ks2 xs2] := by
    unfold q_law_8
    simp -implicitDefEqProofs (disch := omega) only [bind_ok, s_ok, sb_nx, sb_rt, sb_ct, sb_bk, onB_bl, onBS_bl, x_var, x_c, x_bin, x_un, x_nil, x_cons, x_tup, x_lst, x_app, x_and, x_or, x_not, x_if, x_box, x_get, x_sl, x_onone, x_osome, x_snil, x_scons, x_set, x_expr, x_ret, x_retB, x_sif, x_bk, x_ct, x_aug, x_asg, x_gname, x_gnil, x_gcons, x_gtup, mkt0, mkl0, mkt1, mkl1, mkt2, mkl2, mkt3, mkl3, mkt4, mkl4, mkt5, mkl5, mkt6, mkl6, mkt7, mkl7, v_il0, v_it0, v_il1, v_it1, v_il2, v_it2, v_il3, v_it3, v_il4, v_it4, v_il5, v_it5, v_add, v_addI, v_sub, v_neg, v_mul, v_fdv, v_mod, v_cmp, v_eqs, v_nes, v_eqi, v_nei, v_eqb, v_ixc, opt_some, v_lenl, v_lent, v_lenc, v_tupt, v_tupl, v_intb, v_inti, v_max, v_isn, v_isnn, end_rt, end_nx, fz_int, fz_str, fz_bl, fz_non, List.getElem?_cons_zero, List.getElem?_cons_succ, List.set_cons_zero, List.set_cons_succ, List.length_cons, List.length_nil, List.take_length, Option.map_some, oldLoc, Bool.false_and, Bool.and_false, Bool.true_and, Bool.and_true, Bool.not_true, Bool.not_false, Bool.false_eq_true, decide_true, decide_false, decide_eq_true_eq, if_true, if_false, ↓reduceIte, Nat.reduceAdd, Nat.reduceLeDiff, vd]
  have s9 : q_law_9 (Fm D 100) (fr7 ns ws (some t'.pv) (some (.loc 0)) y1 (some (.dct ks2 xs2)) z) [.dct ks2 xs2] = .rt (.bl true) [.dct ks2 xs2] := by
    unfold q_law_9
    have h1 := tl ks2 xs2 C2
    have h2 := C2.eq false
    simp -implicitDefEqProofs (disch := omega) only [bind_ok, s_ok, sb_nx, sb_rt, sb_ct, sb_bk, onB_bl, onBS_bl, x_var, x_c, x_bin, x_un, x_nil, x_cons, x_tup, x_lst, x_app, x_and, x_or, x_not, x_if, x_box, x_get, x_sl, x_onone, x_osome, x_snil, x_scons, x_set, x_expr, x_ret, x_retB, x_sif, x_bk, x_ct, x_aug, x_asg, x_gname, x_gnil, x_gcons, x_gtup, mkt0, mkl0, mkt1, mkl1, mkt2, mkl2, mkt3, mkl3, mkt4, mkl4, mkt5, mkl5, mkt6, mkl6, mkt7, mkl7, v_il0, v_it0, v_il1, v_it1, v_il2, v_it2, v_il3, v_it3, v_il4, v_it4, v_il5, v_it5, v_add, v_addI, v_sub, v_neg, v_mul, v_fdv, v_mod, v_cmp, v_eqs, v_nes, v_eqi, v_nei, v_eqb, v_ixc, opt_some, v_lenl, v_lent, v_lenc, v_tupt, v_tupl, v_intb, v_inti, v_max, v_isn, v_isnn, end_rt, end_nx, fz_int, fz_str, fz_bl, fz_non, List.getElem?_cons_zero, List.getElem?_cons_succ, List.set_cons_zero, List.set_cons_succ, List.length_cons, List.length_nil, List.take_length, Option.map_some, oldLoc, Bool.false_and, Bool.and_false, Bool.true_and, Bool.and_true, Bool.not_true, Bool.not_false, Bool.false_eq_true, decide_true, decide_false, decide_eq_true_eq, if_true, if_false, ↓reduceIte, Nat.reduceAdd, Nat.reduceLeDiff, h1, h2]
  refine ⟨[], ?_⟩
  rw [h0, b_law_q, x_scons, s0, sb_nx, x_scons, s1, sb_nx, x_scons, s2, sb_nx, x_scons, s3, sb_nx, x_scons, s4, sb_nx, x_scons, s5, sb_nx, x_scons, s6, sb_nx, x_scons, s7, sb_nx, x_scons, s8, sb_nx, x_scons, s9, sb_rt, end_rt]
  exact Eq.trans rfl rfl
end Lk

namespace Lk
open PySem PySem.Spec PyProof.Rows L2 Vm
theorem all_mk (main : ∀ ns : List Int, ns.length ≤ 63 → ∃ st, callI d_law (Fm D 100) [.scr ns] [] = .ok (.bl true) st) {P : Program} {w : World} {K : PySem.W.Frag} {h : Heap} {mg : Str → Option Value} {fa f0 f1 f2 f3 f4 f5 f6 f7 f8 f9 f10 f11 f12 : Addr} (X : K.In h) (G : h.Ns mainGlobals mg) (hfa : mg "law" = some (.ref fa))
    {od0 an0 od1 an1 od2 an2 od3 an3 od4 an4 od5 an5 od6 an6 od7 an7 od8 an8 od9 an9 od10 an10 od11 an11 od12 an12 : Option Addr} {sl0 sl1 sl2 sl3 sl4 sl5 sl6 sl7 sl8 sl9 sl10 sl11 sl12 : Array (Option Value)} {oc0 kV0 dc0 pm0 cd0 ct0 oc1 kV1 dc1 pm1 cd1 ct1 oc2 kV2 dc2 pm2 cd2 ct2 oc3 kV3 dc3 pm3 cd3 ct3 oc4 kV4 dc4 pm4 cd4 ct4 oc5 kV5 dc5 pm5 cd5 ct5 oc6 kV6 dc6 pm6 cd6 ct6 oc7 kV7 dc7 pm7 cd7 ct7 oc8 kV8 dc8 pm8 cd8 ct8 oc9 kV9 dc9 pm9 cd9 ct9 oc10 kV10 dc10 pm10 cd10 ct10 oc11 kV11 dc11 pm11 cd11 ct11 oc12 kV12 dc12 pm12 cd12 ct12 : Value} {t0 : Tok}
    (a0 : PySem.W.nsIn K mainGlobals "names_in" = some (some (.ref f0))) (l0 : K.lookup f0 = some ⟨oc0, od0, .func (PySem.W.fnOf "names_in" "names_in" (defArgs s_names_in) (defBody s_names_in) (defScope s_names_in) .none kV0 dc0 pm0 an0 cd0 ct0), sl0⟩) (c0 : PySem.W.codeIn K cd0 "names_in" = true) (k0 : PySem.W.keepIn K (.ref f0) = true)
    (a1 : PySem.W.nsIn K mainGlobals "_note_names" = some (some (.ref f1))) (l1 : K.lookup f1 = some ⟨oc1, od1, .func (PySem.W.fnOf "_note_names" "_note_names" (defArgs s__note_names) (defBody s__note_names) (defScope s__note_names) .none kV1 dc1 pm1 an1 cd1 ct1), sl1⟩) (c1 : PySem.W.codeIn K cd1 "_note_names" = true) (k1 : PySem.W.keepIn K (.ref f1) = true)
    (a2 : PySem.W.nsIn K mainGlobals "worth" = some (some (.ref f2))) (l2 : K.lookup f2 = some ⟨oc2, od2, .func (PySem.W.fnOf "worth" "worth" (defArgs s_worth) (defBody s_worth) (defScope s_worth) .none kV2 dc2 pm2 an2 cd2 ct2), sl2⟩) (c2 : PySem.W.codeIn K cd2 "worth" = true) (k2 : PySem.W.keepIn K (.ref f2) = true)
    (a3 : PySem.W.nsIn K mainGlobals "_law_cell" = some (some (.ref f3))) (l3 : K.lookup f3 = some ⟨oc3, od3, .func (PySem.W.fnOf "_law_cell" "_law_cell" (defArgs s__law_cell) (defBody s__law_cell) (defScope s__law_cell) .none kV3 dc3 pm3 an3 cd3 ct3), sl3⟩) (c3 : PySem.W.codeIn K cd3 "_law_cell" = true) (k3 : PySem.W.keepIn K (.ref f3) = true)
    (a4 : PySem.W.nsIn K mainGlobals "_law_mixed" = some (some (.ref f4))) (l4 : K.lookup f4 = some ⟨oc4, od4, .func (PySem.W.fnOf "_law_mixed" "_law_mixed" (defArgs s__law_mixed) (defBody s__law_mixed) (defScope s__law_mixed) .none kV4 dc4 pm4 an4 cd4 ct4), sl4⟩) (c4 : PySem.W.codeIn K cd4 "_law_mixed" = true) (k4 : PySem.W.keepIn K (.ref f4) = true)
    (a5 : PySem.W.nsIn K mainGlobals "_law_words" = some (some (.ref f5))) (l5 : K.lookup f5 = some ⟨oc5, od5, .func (PySem.W.fnOf "_law_words" "_law_words" (defArgs s__law_words) (defBody s__law_words) (defScope s__law_words) .none kV5 dc5 pm5 an5 cd5 ct5), sl5⟩) (c5 : PySem.W.codeIn K cd5 "_law_words" = true) (k5 : PySem.W.keepIn K (.ref f5) = true)
    (a6 : PySem.W.nsIn K mainGlobals "_law_term" = some (some (.ref f6))) (l6 : K.lookup f6 = some ⟨oc6, od6, .func (PySem.W.fnOf "_law_term" "_law_term" (defArgs s__law_term) (defBody s__law_term) (defScope s__law_term) .none kV6 dc6 pm6 an6 cd6 ct6), sl6⟩) (c6 : PySem.W.codeIn K cd6 "_law_term" = true) (k6 : PySem.W.keepIn K (.ref f6) = true)
    (a7 : PySem.W.nsIn K mainGlobals "_law_names" = some (some (.ref f7))) (l7 : K.lookup f7 = some ⟨oc7, od7, .func (PySem.W.fnOf "_law_names" "_law_names" (defArgs s__law_names) (defBody s__law_names) (defScope s__law_names) .none kV7 dc7 pm7 an7 cd7 ct7), sl7⟩) (c7 : PySem.W.codeIn K cd7 "_law_names" = true) (k7 : PySem.W.keepIn K (.ref f7) = true)
    (a8 : PySem.W.nsIn K mainGlobals "_law_worth" = some (some (.ref f8))) (l8 : K.lookup f8 = some ⟨oc8, od8, .func (PySem.W.fnOf "_law_worth" "_law_worth" (defArgs s__law_worth) (defBody s__law_worth) (defScope s__law_worth) .none kV8 dc8 pm8 an8 cd8 ct8), sl8⟩) (c8 : PySem.W.codeIn K cd8 "_law_worth" = true) (k8 : PySem.W.keepIn K (.ref f8) = true)
    (a9 : PySem.W.nsIn K mainGlobals "_law_numbers" = some (some (.ref f9))) (l9 : K.lookup f9 = some ⟨oc9, od9, .func (PySem.W.fnOf "_law_numbers" "_law_numbers" (defArgs s__law_numbers) (defBody s__law_numbers) (defScope s__law_numbers) .none kV9 dc9 pm9 an9 cd9 ct9), sl9⟩) (c9 : PySem.W.codeIn K cd9 "_law_numbers" = true) (k9 : PySem.W.keepIn K (.ref f9) = true)
    (a10 : PySem.W.nsIn K mainGlobals "_law_once" = some (some (.ref f10))) (l10 : K.lookup f10 = some ⟨oc10, od10, .func (PySem.W.fnOf "_law_once" "_law_once" (defArgs s__law_once) (defBody s__law_once) (defScope s__law_once) .none kV10 dc10 pm10 an10 cd10 ct10), sl10⟩) (c10 : PySem.W.codeIn K cd10 "_law_once" = true) (k10 : PySem.W.keepIn K (.ref f10) = true)
    (a11 : PySem.W.nsIn K mainGlobals "_law_told" = some (some (.ref f11))) (l11 : K.lookup f11 = some ⟨oc11, od11, .func (PySem.W.fnOf "_law_told" "_law_told" (defArgs s__law_told) (defBody s__law_told) (defScope s__law_told) .none kV11 dc11 pm11 an11 cd11 ct11), sl11⟩) (c11 : PySem.W.codeIn K cd11 "_law_told" = true) (k11 : PySem.W.keepIn K (.ref f11) = true)
    (a12 : PySem.W.nsIn K mainGlobals "law" = some (some (.ref f12))) (l12 : K.lookup f12 = some ⟨oc12, od12, .func (PySem.W.fnOf "law" "law" (defArgs s_law) (defBody s_law) (defScope s_law) .none kV12 dc12 pm12 an12 cd12 ct12), sl12⟩) (c12 : PySem.W.codeIn K cd12 "law" = true) (k12 : PySem.W.keepIn K (.ref f12) = true)
    (z0 : PySem.W.nsIn K mainGlobals "bool" = some none)
    (z1 : PySem.W.nsIn K mainGlobals "dict" = some none)
    (z2 : PySem.W.nsIn K mainGlobals "int" = some none)
    (z3 : PySem.W.nsIn K mainGlobals "isinstance" = some none)
    (z4 : PySem.W.nsIn K mainGlobals "len" = some none)
    (z5 : PySem.W.nsIn K mainGlobals "list" = some none)
    (z6 : PySem.W.nsIn K mainGlobals "range" = some none)
    (z7 : PySem.W.nsIn K mainGlobals "str" = some none)
    (y0 : PySem.W.nsIn K mainGlobals "RESTS_OF" = some (some (.int 1000003 t0))) :
    ∃ fd : FuncData, (∀ (s : Shared) (v : Value), BindsTo s fd ⟨[v], []⟩ [("_law_script", v)]) ∧ ∀ base : Heap, K.In base → base.Ns mainGlobals mg → FnOk P w K mg base CX0 101 fa fd ["_law_script"] (spLaw K) := by
  have e := hfa.symm.trans (PySem.W.mg_of X G a12)
  cases e
  have F0 := fun_mk (st := s_names_in) l0 c0 k0
  have b0 := F0.binds (ps := ["term"]) fun _ _ _ _ _ _ us hl => match us, hl with | [_], _ => rfl
  have F1 := fun_mk (st := s__note_names) l1 c1 k1
  have b1 := F1.binds (ps := ["term", "found"]) fun _ _ _ _ _ _ us hl => match us, hl with | [_, _], _ => rfl
  have F2 := fun_mk (st := s_worth) l2 c2 k2
  have b2 := F2.binds (ps := ["term", "cells"]) fun _ _ _ _ _ _ us hl => match us, hl with | [_, _], _ => rfl
  have F3 := fun_mk (st := s__law_cell) l3 c3 k3
  have b3 := F3.binds (ps := ["_law_script", "_law_k"]) fun _ _ _ _ _ _ us hl => match us, hl with | [_, _], _ => rfl
  have F4 := fun_mk (st := s__law_mixed) l4 c4 k4
  have b4 := F4.binds (ps := ["_law_cell_here", "_law_k"]) fun _ _ _ _ _ _ us hl => match us, hl with | [_, _], _ => rfl
  have F5 := fun_mk (st := s__law_words) l5 c5 k5
  have b5 := F5.binds (ps := ["_law_cell_here", "_law_many"]) fun _ _ _ _ _ _ us hl => match us, hl with | [_, _], _ => rfl
  have F6 := fun_mk (st := s__law_term) l6 c6 k6
  have b6 := F6.binds (ps := ["_law_cell_here", "_law_words_here", "_law_deep"]) fun _ _ _ _ _ _ us hl => match us, hl with | [_, _, _], _ => rfl
  have F7 := fun_mk (st := s__law_names) l7 c7 k7
  have b7 := F7.binds (ps := ["_law_term_here"]) fun _ _ _ _ _ _ us hl => match us, hl with | [_], _ => rfl
  have F8 := fun_mk (st := s__law_worth) l8 c8 k8
  have b8 := F8.binds (ps := ["_law_term_here", "_law_cells"]) fun _ _ _ _ _ _ us hl => match us, hl with | [_, _], _ => rfl
  have F9 := fun_mk (st := s__law_numbers) l9 c9 k9
  have b9 := F9.binds (ps := ["_law_found"]) fun _ _ _ _ _ _ us hl => match us, hl with | [_], _ => rfl
  have F10 := fun_mk (st := s__law_once) l10 c10 k10
  have b10 := F10.binds (ps := ["_law_names_here"]) fun _ _ _ _ _ _ us hl => match us, hl with | [_], _ => rfl
  have F11 := fun_mk (st := s__law_told) l11 c11 k11
  have b11 := F11.binds (ps := ["_law_term_here", "_law_cells"]) fun _ _ _ _ _ _ us hl => match us, hl with | [_, _], _ => rfl
  have F12 := fun_mk (st := s_law) l12 c12 k12
  have b12 := F12.binds (ps := ["_law_script"]) fun _ _ _ _ _ _ us hl => match us, hl with | [_], _ => rfl
  have hB : ∀ x ∈ bs, mg x = none := fun x hx => by
    rcases List.mem_cons.mp hx with rfl | hx
    · exact PySem.W.mg_none_of X G z0
    rcases List.mem_cons.mp hx with rfl | hx
    · exact PySem.W.mg_none_of X G z1
    rcases List.mem_cons.mp hx with rfl | hx
    · exact PySem.W.mg_none_of X G z2
    rcases List.mem_cons.mp hx with rfl | hx
    · exact PySem.W.mg_none_of X G z3
    rcases List.mem_cons.mp hx with rfl | hx
    · exact PySem.W.mg_none_of X G z4
    rcases List.mem_cons.mp hx with rfl | hx
    · exact PySem.W.mg_none_of X G z5
    rcases List.mem_cons.mp hx with rfl | hx
    · exact PySem.W.mg_none_of X G z6
    rcases List.mem_cons.mp hx with rfl | hx
    · exact PySem.W.mg_none_of X G z7
    cases hx
  have hC : ∀ p ∈ cs, ∃ u, mg p.1 = some u ∧ RelV (.int p.2) u := fun p hx => by
    rcases List.mem_cons.mp hx with rfl | hx
    · exact ⟨_, PySem.W.mg_of X G y0, t0, rfl⟩
    cases hx
  refine ⟨PySem.W.fnOf "law" "law" (defArgs s_law) (defBody s_law) (defScope s_law) .none kV12 dc12 pm12 an12 cd12 ct12, fun s v => .of_eq rfl, fun base _ _ => ?_⟩
  have A : FnAt P w K mg base pr (Fm D 100) 100 := all_fn (fun i hi => match i, hi with
    | 0, _ => ⟨f0, _, _, PySem.W.mg_of X G a0, k0, b0, fun n T hF => ok_names_in F0 hB hC hF⟩
    | 1, _ => ⟨f1, _, _, PySem.W.mg_of X G a1, k1, b1, fun n T hF => ok__note_names F1 hB hC hF⟩
    | 2, _ => ⟨f2, _, _, PySem.W.mg_of X G a2, k2, b2, fun n T hF => ok_worth F2 hB hC hF⟩
    | 3, _ => ⟨f3, _, _, PySem.W.mg_of X G a3, k3, b3, fun n T hF => ok__law_cell F3 hB hC hF⟩
    | 4, _ => ⟨f4, _, _, PySem.W.mg_of X G a4, k4, b4, fun n T hF => ok__law_mixed F4 hB hC hF⟩
    | 5, _ => ⟨f5, _, _, PySem.W.mg_of X G a5, k5, b5, fun n T hF => ok__law_words F5 hB hC hF⟩
    | 6, _ => ⟨f6, _, _, PySem.W.mg_of X G a6, k6, b6, fun n T hF => ok__law_term F6 hB hC hF⟩
    | 7, _ => ⟨f7, _, _, PySem.W.mg_of X G a7, k7, b7, fun n T hF => ok__law_names F7 hB hC hF⟩
    | 8, _ => ⟨f8, _, _, PySem.W.mg_of X G a8, k8, b8, fun n T hF => ok__law_worth F8 hB hC hF⟩
    | 9, _ => ⟨f9, _, _, PySem.W.mg_of X G a9, k9, b9, fun n T hF => ok__law_numbers F9 hB hC hF⟩
    | 10, _ => ⟨f10, _, _, PySem.W.mg_of X G a10, k10, b10, fun n T hF => ok__law_once F10 hB hC hF⟩
    | 11, _ => ⟨f11, _, _, PySem.W.mg_of X G a11, k11, b11, fun n T hF => ok__law_told F11 hB hC hF⟩
    | 12, _ => ⟨fa, _, _, PySem.W.mg_of X G a12, k12, b12, fun n T hF => ok_law F12 hB hC hF⟩) 100
  exact (ok_law F12 hB hC A).imp (law_ok main)
end Lk
open PySem PySem.W PyProof.Rows
set_option maxRecDepth 100000 in
set_option maxHeartbeats 0 in
theorem PySem.Challenge.cw_safeturn_k01_terms_holds : PySem.Challenge.rw_safeturn_k01_terms.Holds := by
  w_on; o_law; k_head; (case hw => w_witness2)
  k_fill
  refine L2.walk_of (l := PySem.Challenge.rw_safeturn_k01_terms) (n := 63) (k := 101) (x := "_law_script") (CX := fun _ => L2.CX0) (sp := fun w => Vm.spLaw _) rfl (by decide) rfl ⟨rfl, by decide, by decide⟩ (fun w h Y => PySem.W.kIn_of Y) ?F (fun _ _ a ns hl _ hS => ⟨a, ns, rfl, hS, hl, fun _ => rfl⟩) (fun _ _ _ _ _ h => h)
  case F =>
    intro w mg fa h KX G hmg
    refine' Lk.all_mk Lk.main KX G hmg ?a0 ?l0 ?c0 ?k0 ?a1 ?l1 ?c1 ?k1 ?a2 ?l2 ?c2 ?k2 ?a3 ?l3 ?c3 ?k3 ?a4 ?l4 ?c4 ?k4 ?a5 ?l5 ?c5 ?k5 ?a6 ?l6 ?c6 ?k6 ?a7 ?l7 ?c7 ?k7 ?a8 ?l8 ?c8 ?k8 ?a9 ?l9 ?c9 ?k9 ?a10 ?l10 ?c10 ?k10 ?a11 ?l11 ?c11 ?k11 ?a12 ?l12 ?c12 ?k12 ?z0 ?z1 ?z2 ?z3 ?z4 ?z5 ?z6 ?z7 ?y0
    (case a0 => k_is); (case l0 => k_is); (case c0 => k_is); (case k0 => k_is)
    (case a1 => k_is); (case l1 => k_is); (case c1 => k_is); (case k1 => k_is)
    (case a2 => k_is); (case l2 => k_is); (case c2 => k_is); (case k2 => k_is)
    (case a3 => k_is); (case l3 => k_is); (case c3 => k_is); (case k3 => k_is)
    (case a4 => k_is); (case l4 => k_is); (case c4 => k_is); (case k4 => k_is)
    (case a5 => k_is); (case l5 => k_is); (case c5 => k_is); (case k5 => k_is)
    (case a6 => k_is); (case l6 => k_is); (case c6 => k_is); (case k6 => k_is)
    (case a7 => k_is); (case l7 => k_is); (case c7 => k_is); (case k7 => k_is)
    (case a8 => k_is); (case l8 => k_is); (case c8 => k_is); (case k8 => k_is)
    (case a9 => k_is); (case l9 => k_is); (case c9 => k_is); (case k9 => k_is)
    (case a10 => k_is); (case l10 => k_is); (case c10 => k_is); (case k10 => k_is)
    (case a11 => k_is); (case l11 => k_is); (case c11 => k_is); (case k11 => k_is)
    (case a12 => k_is); (case l12 => k_is); (case c12 => k_is); (case k12 => k_is)
    (case z0 => k_is)
    (case z1 => k_is)
    (case z2 => k_is)
    (case z3 => k_is)
    (case z4 => k_is)
    (case z5 => k_is)
    (case z6 => k_is)
    (case z7 => k_is)
    (case y0 => k_is)
