import PyProof.Rows.All
import Wide.All
import OpenK.AllK
import Wide.FinOn
import HandS.Base
import HandS.Call
import HandS.List
import HandS.Dict
import HandS.Words
import HandS.SetKeys
import HandS.Set
import HandS.SetTxt0
import HandS.SetFor
import HandS.TupSets
import HandS.Strs
import HandS.Comp
import HandS.Ends
import HandS.Exc
import HandS.ExcOwn
import HandS.WordsExc
import HandS.ExcCtx
import HandS.HotCalls
import HandS.ExcIs
import HandS.IsInst
import KE.KExcIs
import HandS.Text
import HandS.Conv
import HandS.TupAny
import HandS.Wide
import HandS.DictComp
import HandS.WordsDict
import HandS.Flow
import PySem.Challenge.RW_safeturn_k04_places
set_option Elab.async false
set_option linter.all false
set_option maxRecDepth 100000
set_option maxHeartbeats 4000000
namespace Vm
open PySem PySem.Spec L2 PySem.Froz
/-! ## sets of texts, whose table stands in order -/
def Okt (w : World) (t : SetTable) : Prop := Ris t.place.toList ∧ (w.params.followText "set-order" = true ∨ t.led = true)
/-- the set at a has the texts l, each once -/
def SX (P : Program) (w : World) (h : Heap) (a : Addr) (l : List Str) : Prop :=
  ∃ D : SD, h.get? a = some (sObj "set" D) ∧ TxOk P w D l ∧ l.Nodup ∧ Okt w D.2.2 ∧ l.length < scanBound
theorem okt_add {w : World} {D : SD} (x : Int) (v : Value) (O : Okt w D.2.2) : Okt w (addTx x v D).2.2 := by
  obtain ⟨es, ep, t⟩ := D
  have r1 := layNew_ris t es x v O.1
  have l1 := layNew_led t es x v
  show Okt w (tailTx ep (layNew t es x v).1 (if (layNew t es x v).2.1.plain = true then { (layNew t es x v).2.1 with plain := false } else (layNew t es x v).2.1) (layNew t es x v).2.2.1).2.2
  generalize layNew t es x v = Z at r1 l1 ⊢
  obtain ⟨es1, t1, b, g⟩ := Z
  have O1 : Okt w (if t1.plain = true then { t1 with plain := false } else t1) := by
    split
    · exact ⟨r1, O.2.imp id fun z => l1.trans z⟩
    · exact ⟨r1, O.2.imp id fun z => l1.trans z⟩
  show Okt w (tailTx ep es1 (if t1.plain = true then { t1 with plain := false } else t1) b).2.2
  generalize (if t1.plain = true then { t1 with plain := false } else t1) = t2 at O1 ⊢
  unfold tailTx
  split
  · exact ⟨relayAll_ris t2 es1 _, O1.2.imp id fun z => (relayAll_led t2 es1 _).trans z⟩
  · exact O1
section
variable {P : Program} {w : World} {A : Around} {E : Value → Shared → Prop} {s : Shared} {a : Addr} {l : List Str}
theorem SX.keep {h h' : Heap} (R : SX P w h a l) (k : ∀ o, h.get? a = some o → h'.get? a = some o) : SX P w h' a l := by
  obtain ⟨D, ho, r⟩ := R
  exact ⟨D, k _ ho, r⟩
theorem txok_same {D : SD} {l m : List Str} (F : TxOk P w D l) (h : ∀ k, k ∈ m ↔ k ∈ l) (n : m.length = l.length) : TxOk P w D m :=
  ⟨F.el, fun k => (h k).trans (F.mem k), F.sz.trans n.symm, F.fit⟩
theorem sx_add {k : Str} {u : Tok} {Q : Bool → Shared → Prop} (R : SX P w s.heap a l) (room : l.length + 1 < scanBound)
    (hQ : ∀ h' b, Heap.SameBut a s.heap h' → SX P w h' a (if k ∈ l then l else l ++ [k]) → Q b { s with heap := h' }) : wpAny (model P w) A (setAddHashed a (.str k u) (hashStr w k)) Q E s := by
  obtain ⟨D, ho, F, nd, O, lb⟩ := R
  by_cases hk : k ∈ l
  · rw [if_pos hk] at hQ
    have fin := hQ s.heap false (Heap.SameBut.refl a s.heap) ⟨D, ho, F, nd, O, lb⟩
    obtain ⟨es, ep, t⟩ := D
    have hd : (sObj "set" (es, ep, t)).data = .set es ep t := rfl
    have hel : ElemsOf (strKind P w) es.toList := F.el
    have hsz : es.size = l.length := F.sz
    have hft : t.fits es.size = true := F.fit
    unfold setAddHashed setAddHashedIn; refine wpAny_holding (wpAny_bind (wpAny_setState_of ho hd hft ?_)); dsimp only
    rw [byScan_of (knd := strKind P w) (x := .str k u) rfl (by omega) hel]; simp only [↓reduceIte]; unfold setAddByScan
    refine wpAny_bind (wpAny_bind (wpAny_rule (wpAny_bind (wpAny_setScan_of (knd := strKind P w) (is_str k u) ho hd hft hel ?_))))
    cases hf : List.findIdx? (fun e => (strKind P w).is k e.2) es.toList with
    | some j => exact wpAny_pure (wpAny_pure fin)
    | none =>
      obtain ⟨e, he, q⟩ := (F.mem k).mp hk
      have c := List.findIdx?_eq_none_iff.mp hf e he
      rw [q] at c; cases c
  · rw [if_neg hk] at hQ
    refine add_x ho F hk room (hQ _ true (Heap.SameBut.update s.heap a _) ⟨addTx (hashStr w k) (.str k u) D, ?_, ?_, ?_, okt_add _ _ O, by rw [List.length_append]; exact room⟩)
    · exact get_upd _ ho rfl
    · refine txok_same (add_ok u F) (fun x => ?_) ?_
      · simp [or_comm]
      · rw [List.length_append]; rfl
    · rw [List.nodup_append]
      exact ⟨nd, by simp, fun x hx y hy e => hk (by obtain rfl : y = k := by simpa using hy
                                                    subst e; exact hx)⟩


theorem SX.setOf {h : Heap} (R : SX P w h a l) : h.SetOf (strKind P w) a (fun k => decide (k ∈ l)) l.length := by
  obtain ⟨D, ho, F, nd, O, lb⟩ := R
  have sz := F.sz; have ft := F.fit
  exact ⟨_, D.1, D.2.1, D.2.2, ho, ⟨rfl, rfl, rfl⟩, rfl, F.el, fun k => by rw [decide_eq_true_eq]; exact F.mem k, by rw [sz]; exact lb, ft, sz⟩
/-- a set as it is made -/
abbrev so (w : World) : Obj := { cls := .type "set", dict := none, data := .set #[] 0 (.fresh 0 0 (!w.params.followText "set-order")) }
theorem sx_new {h : Heap} (e : h.get? a = some (so w)) : SX P w h a [] :=
  ⟨(#[], 0, .fresh 0 0 (!w.params.followText "set-order")), e, TxOk.nil rfl, .nil, ⟨List.Pairwise.nil, by cases w.params.followText "set-order" <;> simp [SetTable.fresh]⟩, by decide⟩
end
/-- the set of texts at a, over the heap -/
def SXo (P : Program) (w : World) (a : Addr) (l : List Str) : HO := .ext fun h => SX P w h a l
section
variable {X : Cx}
theorem sxo_new {P : Program} {w : World} {H : Hp} {h : Heap} {a : Addr} {l : List Str} (R : SX P w h a l) : ObjOk P w H h a (SXo P w a l) := by
  have ⟨_, ho, _⟩ := R
  exact ⟨R, ⟨_, ho⟩, fun _ _ p k => p.keep k⟩
theorem sxo_get {pins : List (Addr × Obj)} {σ : St} {H : Hp} {s : Shared} {a : Addr} {l : List Str} (I : Inv X pins σ H s) (e : H a = some (SXo X.prog X.w a l)) : SX X.prog X.w s.heap a l := (I.hok a _ e).1
def rSInX (P : Program) (w : World) (neg : Bool) : V → V → Hp → VK → Prop := fun x y H Q => ∃ (k : Str) (a : Addr) (l : List Str), x = .str k ∧ y = V.ref a ∧ H a = some (SXo P w a l) ∧ Q (.bl (if neg then !decide (k ∈ l) else decide (k ∈ l))) H
theorem or_sinX : OpR X (compareOp .In) (rSInX X.prog X.w false) := by
  intro pins s σ H x y v u Q I rx ry h
  obtain ⟨k, a, l, rfl, rfl, e, q⟩ := h
  obtain ⟨t, rfl⟩ := rx
  cases ry
  exact wpAny_inSet_of (knd := strKind X.prog X.w) (is_str k t) rfl (sxo_get I e).setOf ⟨.bl (decide (k ∈ l)), H, I.tok _, rfl, q⟩
theorem or_sninX : OpR X (compareOp .NotIn) (rSInX X.prog X.w true) := by
  intro pins s σ H x y v u Q I rx ry h
  obtain ⟨k, a, l, rfl, rfl, e, q⟩ := h
  obtain ⟨t, rfl⟩ := rx
  cases ry
  exact wpAny_notInSet_of (knd := strKind X.prog X.w) (is_str k t) rfl (sxo_get I e).setOf ⟨.bl (!decide (k ∈ l)), H, I.tok _, rfl, q⟩
end
end Vm

namespace Vm
open PySem L2

/-! ## pure values, the store of what may change, results -/
inductive PV where
  | non | bl (b : Bool) | int (i : Int) | str (x : Str)
  | tup (xs : List PV) | lst (xs : List PV) | dct (ks : List Key) (xs : List PV) | sset (xs : List Str)
  | scr (ns : List Int) | loc (n : Nat) | raw (a : Addr)
  deriving Inhabited
abbrev VSt := List PV
abbrev VEnv := List (Option PV)

mutual
/-- scalars, and tuples of them -/
def pureP : PV → Bool
  | .non => true | .bl _ => true | .int _ => true | .str _ => true
  | .tup xs => pures xs
  | _ => false
def pures : List PV → Bool
  | [] => true
  | x :: r => pureP x && pures r
end
/-- what may stand in the store: a list, a dict, a set of such -/
def noLoc : PV → Bool
  | .lst xs => pures xs
  | .dct _ xs => pures xs
  | .sset _ => true
  | _ => false
mutual
/-- locs from k on are read off the store -/
def freeze (st : VSt) (k : Nat) : PV → PV
  | .loc n => if n < k then .loc n else st.getD n .non
  | .tup xs => .tup (freezes st k xs)
  | .lst xs => .lst (freezes st k xs)
  | .dct ks xs => .dct ks (freezes st k xs)
  | p => p
def freezes (st : VSt) (k : Nat) : List PV → List PV
  | [] => []
  | x :: r => freeze st k x :: freezes st k r
end
def deref (st : VSt) : PV → PV
  | .loc n => st.getD n .non
  | p => p

/-- exceptions: the classes by their numbers, what is wanted where one leaves -/
structure XD where
  C : Nat → Addr
  E : XK
/-- what the relation is over: the program, its world, the written part, the hidden addresses -/
structure Gx where
  P : Program
  w : World
  K : PySem.W.Frag
  hid : List Addr
  X : XD
def memb (xs : List Str) : Key → Bool
  | .inl _ => false
  | .inr x => decide (x ∈ xs)

def Scr (G : Gx) (ρ : List Addr) (H : Hp) (a : Addr) (xs : List V) : Prop :=
  (Rd H a (.lst xs) ∧ a ∉ ρ ∧ a ∉ G.hid) ∨ ∃ (o : Obj) (its : Array Value) (n : Nat), G.K.lookup a = some o ∧ o.cls = .type "list" ∧ o.dict = none ∧ o.data = .seq its n ∧ its.size ≤ sizeLine ∧ Vals xs its.toList
def SetO' (G : Gx) (a : Addr) (xs : List Str) : HO := SXo G.P G.w a xs

mutual
def Rep (G : Gx) (ρ : List Addr) (H : Hp) : PV → V → Prop
  | .non, v => v = .non
  | .bl b, v => v = .bl b
  | .int i, v => v = .int i
  | .str x, v => v = .str x
  | .tup xs, v => ∃ a vs, v = .ref a ∧ SqT G.K H a vs ∧ Reps G ρ H xs vs
  | .lst xs, v => ∃ a vs, v = .ref a ∧ a ∉ ρ ∧ a ∉ G.hid ∧ H a = some (.lst vs) ∧ Reps G ρ H xs vs
  | .dct ks xs, v => ∃ a vs, v = .ref a ∧ a ∉ ρ ∧ a ∉ G.hid ∧ ks.length = vs.length ∧ H a = some (.dK (ks.zip vs)) ∧ Reps G ρ H xs vs
  | .sset xs, v => ∃ a, v = .ref a ∧ a ∉ ρ ∧ a ∉ G.hid ∧ H a = some (SetO' G a xs)
  | .scr ns, v => ∃ a, v = .ref a ∧ Scr G ρ H a (ns.map V.int)
  | .loc n, v => ∃ a, v = .ref a ∧ ρ[n]? = some a
  | .raw a, v => v = .ref a
def Reps (G : Gx) (ρ : List Addr) (H : Hp) : List PV → List V → Prop
  | [], vs => vs = []
  | p :: ps, vs => ∃ v r, vs = v :: r ∧ Rep G ρ H p v ∧ Reps G ρ H ps r
end

structure Later (ρ : List Addr) (H : Hp) (ρ' : List Addr) (H' : Hp) : Prop where
  ext : ∃ δ, ρ' = ρ ++ δ ∧ ∀ p ∈ δ, H p = none
  keep : ∀ a o, H a = some o → a ∉ ρ → H' a = some o
  dom : ∀ a o, H a = some o → ∃ o', H' a = some o'
  tup : ∀ a xs, H a = some (.tup xs) → H' a = some (.tup xs)
  frz : ∀ a o u, H a = some (.frz o u) → H' a = some (.frz o u)
theorem Later.refl (ρ : List Addr) (H : Hp) : Later ρ H ρ H := ⟨⟨[], by simp, by simp⟩, fun _ _ h _ => h, fun _ o h => ⟨o, h⟩, fun _ _ h => h, fun _ _ _ h => h⟩
theorem Later.back {ρ ρ' : List Addr} {H H' : Hp} (l : Later ρ H ρ' H') {a : Addr} (h : H' a = none) : H a = none := by
  cases e : H a with
  | none => rfl
  | some o => obtain ⟨o', e'⟩ := l.dom a o e; rw [h] at e'; cases e'
theorem Later.nin {ρ ρ' : List Addr} {H H' : Hp} (l : Later ρ H ρ' H') {a : Addr} {o : HO} (h : H a = some o) (n : a ∉ ρ) : a ∉ ρ' := by
  obtain ⟨δ, rfl, hδ⟩ := l.ext
  intro hm
  rcases List.mem_append.mp hm with z | z
  · exact n z
  · rw [hδ a z] at h; cases h
theorem Later.trans {ρ ρ1 ρ2 : List Addr} {H H1 H2 : Hp} (l : Later ρ H ρ1 H1) (m : Later ρ1 H1 ρ2 H2) : Later ρ H ρ2 H2 where
  ext := by
    obtain ⟨δ, e, hδ⟩ := l.ext
    obtain ⟨ε, e', hε⟩ := m.ext
    refine ⟨δ ++ ε, by rw [e', e, List.append_assoc], fun p hp => ?_⟩
    rcases List.mem_append.mp hp with z | z
    · exact hδ p z
    · exact l.back (hε p z)
  keep := fun a o h n => m.keep a o (l.keep a o h n) (l.nin h n)
  dom := fun a o h => by obtain ⟨o', h'⟩ := l.dom a o h; exact m.dom a o' h'
  tup := fun a xs h => m.tup a xs (l.tup a xs h)
  frz := fun a o u h => m.frz a o u (l.frz a o u h)
theorem Later.new {ρ : List Addr} {H : Hp} {p : Addr} {o : HO} (h : H p = none) : Later ρ H ρ (upd H p o) where
  ext := ⟨[], by simp, by simp⟩
  keep := fun a u e _ => by rw [upd_ne (ne_of_none e h)]; exact e
  dom := fun a u e => ⟨u, by rw [upd_ne (ne_of_none e h)]; exact e⟩
  tup := fun a u e => by rw [upd_ne (ne_of_none e h)]; exact e
  frz := fun a u z e => by rw [upd_ne (ne_of_none e h)]; exact e
/-- a new object that is boxed -/
theorem Later.box {ρ : List Addr} {H : Hp} {p : Addr} (h : H p = none) : Later ρ H (ρ ++ [p]) H where
  ext := ⟨[p], rfl, fun q hq => by obtain rfl := List.mem_singleton.mp hq; exact h⟩
  keep := fun a u e _ => e
  dom := fun a u e => ⟨u, e⟩
  tup := fun a u e => e
  frz := fun a u z e => e
/-- an object that H doesn't know changes -/
theorem Later.mut {ρ ρ' : List Addr} {H H' : Hp} (l : Later ρ H ρ' H') {p : Addr} {o : HO} (h : H p = none) : Later ρ H ρ' (upd H' p o) where
  ext := l.ext
  keep := fun a u e n => by rw [upd_ne (ne_of_none e h)]; exact l.keep a u e n
  dom := fun a u e => by rw [upd_ne (ne_of_none e h)]; exact l.dom a u e
  tup := fun a u e => by rw [upd_ne (ne_of_none e h)]; exact l.tup a u e
  frz := fun a u z e => by rw [upd_ne (ne_of_none e h)]; exact l.frz a u z e

theorem rd_later {ρ ρ' : List Addr} {H H' : Hp} (l : Later ρ H ρ' H') {a : Addr} {u : HO} (h : Rd H a u) (n : a ∉ ρ) : Rd H' a u ∧ a ∉ ρ' := by
  rcases h with h | ⟨o, h⟩
  · exact ⟨.inl (l.keep a _ h n), l.nin h n⟩
  · exact ⟨.inr ⟨o, l.frz a o u h⟩, l.nin h n⟩
theorem sqT_later {K : PySem.W.Frag} {ρ ρ' : List Addr} {H H' : Hp} (l : Later ρ H ρ' H') {a : Addr} {xs : List V} (h : SqT K H a xs) : SqT K H' a xs := by
  rcases h with (h | ⟨o, h⟩) | h
  · exact .inl (.inl (l.tup a _ h))
  · exact .inl (.inr ⟨o, l.frz a o _ h⟩)
  · exact .inr h
theorem scr_later {G : Gx} {ρ ρ' : List Addr} {H H' : Hp} (l : Later ρ H ρ' H') {a : Addr} {xs : List V} (h : Scr G ρ H a xs) : Scr G ρ' H' a xs := by
  rcases h with ⟨h, n, n2⟩ | h
  · exact .inl ⟨(rd_later l h n).1, (rd_later l h n).2, n2⟩
  · exact .inr h
theorem scr_sq {G : Gx} {ρ : List Addr} {H : Hp} {a : Addr} {xs : List V} (h : Scr G ρ H a xs) : SqL G.K H a xs := by
  rcases h with ⟨h, _⟩ | h
  · exact .inl h
  · exact .inr h
mutual
theorem Rep.later {G : Gx} {ρ ρ' : List Addr} {H H' : Hp} (l : Later ρ H ρ' H') : ∀ (p : PV) (v : V), Rep G ρ H p v → Rep G ρ' H' p v
  | .non, v, h => h
  | .bl b, v, h => h
  | .int i, v, h => h
  | .str x, v, h => h
  | .tup xs, v, h => by
    obtain ⟨a, vs, e, s, r⟩ := h
    exact ⟨a, vs, e, sqT_later l s, Reps.later l xs vs r⟩
  | .lst xs, v, h => by
    obtain ⟨a, vs, e, n, n2, s, r⟩ := h
    exact ⟨a, vs, e, l.nin s n, n2, l.keep _ _ s n, Reps.later l xs vs r⟩
  | .dct ks xs, v, h => by
    obtain ⟨a, vs, e, n, n2, z, s, r⟩ := h
    exact ⟨a, vs, e, l.nin s n, n2, z, l.keep _ _ s n, Reps.later l xs vs r⟩
  | .sset xs, v, h => by
    obtain ⟨a, e, n, n2, s⟩ := h
    exact ⟨a, e, l.nin s n, n2, l.keep _ _ s n⟩
  | .raw _, v, h => h
  | .scr ns, v, h => by
    obtain ⟨a, e, s⟩ := h
    exact ⟨a, e, scr_later l s⟩
  | .loc n, v, h => by
    obtain ⟨a, e, s⟩ := h
    obtain ⟨δ, rfl, _⟩ := l.ext
    exact ⟨a, e, by rw [List.getElem?_append_left (List.getElem?_eq_some_iff.mp s).1]; exact s⟩
theorem Reps.later {G : Gx} {ρ ρ' : List Addr} {H H' : Hp} (l : Later ρ H ρ' H') : ∀ (ps : List PV) (vs : List V), Reps G ρ H ps vs → Reps G ρ' H' ps vs
  | [], vs, h => h
  | p :: ps, vs, h => by
    obtain ⟨v, r, e, h1, h2⟩ := h
    exact ⟨v, r, e, Rep.later l p v h1, Reps.later l ps r h2⟩
end
theorem Reps.length {G : Gx} {ρ : List Addr} {H : Hp} : ∀ {ps : List PV} {vs : List V}, Reps G ρ H ps vs → vs.length = ps.length
  | [], vs, h => by rw [show vs = [] from h]; rfl
  | p :: ps, vs, h => by
    obtain ⟨v, r, rfl, _, h2⟩ := h
    rw [List.length_cons, List.length_cons, Reps.length h2]
theorem Reps.get {G : Gx} {ρ : List Addr} {H : Hp} : ∀ {ps : List PV} {vs : List V} {i : Nat} {p : PV}, Reps G ρ H ps vs → ps[i]? = some p → ∃ v, vs[i]? = some v ∧ Rep G ρ H p v
  | [], _, _, _, _, e => by simp at e
  | q :: ps, vs, 0, p, h, e => by
    obtain ⟨v, r, rfl, h1, _⟩ := h
    have e : q = p := by simpa using e
    subst e
    exact ⟨v, rfl, h1⟩
  | q :: ps, vs, i + 1, p, h, e => by
    obtain ⟨v, r, rfl, _, h2⟩ := h
    obtain ⟨u, a, b⟩ := Reps.get (i := i) h2 (by simpa using e)
    exact ⟨u, by simpa using a, b⟩
theorem Reps.append {G : Gx} {ρ : List Addr} {H : Hp} : ∀ {ps qs : List PV} {vs ws : List V}, Reps G ρ H ps vs → Reps G ρ H qs ws → Reps G ρ H (ps ++ qs) (vs ++ ws)
  | [], _, vs, _, h, k => by rw [show vs = [] from h]; exact k
  | p :: ps, _, vs, _, h, k => by
    obtain ⟨v, r, rfl, h1, h2⟩ := h
    exact ⟨v, _, rfl, h1, Reps.append h2 k⟩
theorem Reps.one {G : Gx} {ρ : List Addr} {H : Hp} {p : PV} {v : V} (h : Rep G ρ H p v) : Reps G ρ H [p] [v] := ⟨v, [], rfl, h, rfl⟩
theorem Reps.take {G : Gx} {ρ : List Addr} {H : Hp} : ∀ {ps : List PV} {vs : List V} (n : Nat), Reps G ρ H ps vs → Reps G ρ H (ps.take n) (vs.take n)
  | _, _, 0, _ => rfl
  | [], vs, _ + 1, h => by rw [show vs = [] from h]; rfl
  | p :: ps, vs, n + 1, h => by
    obtain ⟨v, r, rfl, h1, h2⟩ := h
    exact ⟨v, _, rfl, h1, Reps.take n h2⟩
theorem Reps.drop {G : Gx} {ρ : List Addr} {H : Hp} : ∀ {ps : List PV} {vs : List V} (n : Nat), Reps G ρ H ps vs → Reps G ρ H (ps.drop n) (vs.drop n)
  | _, _, 0, h => h
  | [], vs, _ + 1, h => by rw [show vs = [] from h]; rfl
  | p :: ps, vs, n + 1, h => by
    obtain ⟨v, r, rfl, _, h2⟩ := h
    exact Reps.drop n h2
theorem Reps.set {G : Gx} {ρ : List Addr} {H : Hp} {p : PV} {v : V} (h : Rep G ρ H p v) : ∀ {ps : List PV} {vs : List V} (n : Nat), Reps G ρ H ps vs → Reps G ρ H (ps.set n p) (vs.set n v)
  | [], vs, _, k => by rw [show vs = [] from k]; rfl
  | q :: ps, vs, 0, k => by
    obtain ⟨w, r, rfl, _, h2⟩ := k
    exact ⟨v, r, rfl, h, h2⟩
  | q :: ps, vs, n + 1, k => by
    obtain ⟨w, r, rfl, h1, h2⟩ := k
    exact ⟨w, _, rfl, h1, Reps.set h n h2⟩

/-- what stands at a boxed object's address -/
def ObjR (G : Gx) (ρ : List Addr) (H : Hp) : PV → Addr → Prop
  | .lst xs, a => ∃ vs, H a = some (.lst vs) ∧ Reps G ρ H xs vs
  | .dct ks xs, a => ∃ vs, ks.length = vs.length ∧ H a = some (.dK (ks.zip vs)) ∧ Reps G ρ H xs vs
  | .sset xs, a => H a = some (SetO' G a xs)
  | _, _ => False
structure SRel (G : Gx) (ρ : List Addr) (st : VSt) (H : Hp) : Prop where
  nd : ρ.Nodup
  len : ρ.length = st.length
  obj : ∀ (n : Nat) (p : PV) (a : Addr), st[n]? = some p → ρ[n]? = some a → ObjR G ρ H p a ∧ noLoc p = true
  hid : ∀ d ∈ G.hid, d ∉ ρ ∧ ∃ o, H d = some o
theorem ObjR.some {G : Gx} {ρ : List Addr} {H : Hp} {p : PV} {a : Addr} (h : ObjR G ρ H p a) : ∃ o, H a = some o := by
  cases p with
  | lst xs => obtain ⟨vs, h, _⟩ := h; exact ⟨_, h⟩
  | dct ks xs => obtain ⟨vs, _, h, _⟩ := h; exact ⟨_, h⟩
  | sset xs => exact ⟨_, h⟩
  | _ => exact h.elim
theorem SRel.tracked {G : Gx} {ρ : List Addr} {st : VSt} {H : Hp} (s : SRel G ρ st H) {a : Addr} (h : a ∈ ρ) : ∃ o, H a = some o := by
  obtain ⟨n, hn, e⟩ := List.getElem_of_mem h
  have h1 : n < st.length := by rw [← s.len]; exact hn
  exact (s.obj n st[n] a (List.getElem?_eq_getElem h1) (by rw [List.getElem?_eq_getElem hn, e])).1.some
theorem SRel.fresh {G : Gx} {ρ : List Addr} {st : VSt} {H : Hp} (s : SRel G ρ st H) {a : Addr} (h : H a = none) : a ∉ ρ := fun z => by
  obtain ⟨o, e⟩ := s.tracked z
  rw [h] at e; cases e
theorem SRel.freshH {G : Gx} {ρ : List Addr} {st : VSt} {H : Hp} (s : SRel G ρ st H) {a : Addr} (h : H a = none) : a ∉ G.hid := fun z => by
  obtain ⟨_, o, e⟩ := s.hid a z
  rw [h] at e; cases e

/-- the objects of the store are as they were, a new object stands apart -/
theorem ObjR.later {G : Gx} {ρ ρ' : List Addr} {H H' : Hp} (l : Later ρ H ρ' H') {p : PV} {a : Addr} (e : H' a = H a) (h : ObjR G ρ H p a) : ObjR G ρ' H' p a := by
  cases p with
  | lst xs => obtain ⟨vs, h, r⟩ := h; exact ⟨vs, e.trans h, Reps.later l _ _ r⟩
  | dct ks xs => obtain ⟨vs, z, h, r⟩ := h; exact ⟨vs, z, e.trans h, Reps.later l _ _ r⟩
  | sset xs => exact e.trans h
  | _ => exact h.elim
theorem SRel.new {G : Gx} {ρ : List Addr} {st : VSt} {H : Hp} (s : SRel G ρ st H) {p : Addr} {o : HO} (h : H p = none) : SRel G ρ st (upd H p o) :=
  ⟨s.nd, s.len, fun n q a e1 e2 => by
    obtain ⟨k, nl⟩ := s.obj n q a e1 e2
    obtain ⟨u, e⟩ := k.some
    exact ⟨k.later (.new h) (upd_ne (ne_of_none e h)), nl⟩, fun d hd => by
    obtain ⟨h1, u, e⟩ := s.hid d hd
    exact ⟨h1, u, by rw [upd_ne (ne_of_none e h)]; exact e⟩⟩

/-! ## the frame -/
def EnvR (G : Gx) (ρ : List Addr) (H : Hp) (env : VEnv) (σ : L2.St) : Prop := env.length = σ.length ∧ ∀ (i : Nat) (p : PV), env[i]? = some (some p) → ∃ v, σ[i]? = some (some v) ∧ Rep G ρ H p v
theorem EnvR.later {G : Gx} {ρ ρ' : List Addr} {H H' : Hp} {env : VEnv} {σ : L2.St} (l : Later ρ H ρ' H') (h : EnvR G ρ H env σ) : EnvR G ρ' H' env σ :=
  ⟨h.1, fun i p e => by obtain ⟨v, a, b⟩ := h.2 i p e; exact ⟨v, a, Rep.later l p v b⟩⟩
theorem EnvR.set {G : Gx} {ρ : List Addr} {H : Hp} {env : VEnv} {σ : L2.St} {p : PV} {v : V} (h : EnvR G ρ H env σ) (r : Rep G ρ H p v) (i : Nat) : EnvR G ρ H (env.set i (some p)) (σ.set i (some v)) := by
  refine ⟨by rw [List.length_set, List.length_set, h.1], fun j q e => ?_⟩
  by_cases hij : i = j
  · subst hij
    by_cases hi : i < env.length
    · rw [List.getElem?_set_self hi] at e
      have e : p = q := by simpa using e
      subst e
      exact ⟨v, by rw [List.getElem?_set_self (by rw [← h.1]; exact hi)], r⟩
    · rw [List.getElem?_eq_none (by rw [List.length_set]; omega)] at e; cases e
  · rw [List.getElem?_set_ne hij] at e
    obtain ⟨w, a, b⟩ := h.2 j q e
    exact ⟨w, by rw [List.getElem?_set_ne hij]; exact a, b⟩
def wipeE (env : VEnv) : List Nat → VEnv
  | [] => env
  | v :: vs => (wipeE env vs).set v none
theorem EnvR.unset {G : Gx} {ρ : List Addr} {H : Hp} {env : VEnv} {σ : L2.St} (h : EnvR G ρ H env σ) (i : Nat) : EnvR G ρ H (env.set i none) (σ.set i none) := by
  refine ⟨by rw [List.length_set, List.length_set, h.1], fun j q e => ?_⟩
  by_cases hij : i = j
  · subst hij
    by_cases hi : i < env.length
    · rw [List.getElem?_set_self hi] at e; cases e
    · rw [List.getElem?_eq_none (by rw [List.length_set]; omega)] at e; cases e
  · rw [List.getElem?_set_ne hij] at e
    obtain ⟨w, a, b⟩ := h.2 j q e
    exact ⟨w, by rw [List.getElem?_set_ne hij]; exact a, b⟩
theorem EnvR.wipe {G : Gx} {ρ : List Addr} {H : Hp} {env : VEnv} {σ : L2.St} (h : EnvR G ρ H env σ) : ∀ vs : List Nat, EnvR G ρ H (wipeE env vs) (L2.wipe σ vs)
  | [] => h
  | v :: vs => (EnvR.wipe h vs).unset v

structure Rel (G : Gx) (ρ : List Addr) (env : VEnv) (st : VSt) (σ : L2.St) (H : Hp) : Prop where
  s : SRel G ρ st H
  e : EnvR G ρ H env σ

inductive Res (α : Type) where
  | ok (a : α) (st : VSt)
  | ex (c : Nat) (fs : List PV) (st : VSt)
  | bad
/-- a mark that holds what stands behind as it is -/
structure Fx {γ : Type} (k : γ) : Type where
def Res.bind {α β : Type} (r : Res α) (k : α → VSt → Res β) (_ : Fx k := ⟨⟩) : Res β := match r with
  | .ok a st => k a st
  | .ex c fs st => .ex c fs st
  | .bad => .bad
abbrev EM := VEnv → VSt → Res PV
abbrev AM := VEnv → VSt → Res (List PV)
abbrev Tbl := Nat → List PV → VSt → Res PV

/-- what is to hold behind -/
abbrev KF (α : Type) := List Addr → VSt → Hp → α → Prop
/-- an exception's fields: none, or two -/
def XcR (G : Gx) (ρ : List Addr) (H : Hp) : List PV → Option Addr → Prop
  | [], d => d = none
  | [p, q], d => ∃ dd v w, d = some dd ∧ H dd = some (.xd [(("one" : Str), v), (("other" : Str), w)]) ∧ Rep G ρ H p v ∧ Rep G ρ H q w
  | _, _ => False
def XPost (G : Gx) (ρ : List Addr) (H : Hp) (c : Nat) (fs : List PV) (st' : VSt) : Prop := ∀ ρ' H' d, Later ρ H ρ' H' → SRel G ρ' st' H' → XcR G ρ' H' fs d → G.X.E (.ref (G.X.C c)) d H'
def Post {α : Type} (G : Gx) (ρ : List Addr) (H : Hp) (r : Res α) (K : KF α) : Prop := match r with
  | .ok a st' => ∀ ρ' H', Later ρ H ρ' H' → SRel G ρ' st' H' → K ρ' st' H' a
  | .ex c fs st' => XPost G ρ H c fs st'
  | .bad => False
theorem XPost.move {G : Gx} {ρ ρ1 : List Addr} {H H1 : Hp} {c : Nat} {fs : List PV} {st' : VSt} (l : Later ρ H ρ1 H1) (h : XPost G ρ H c fs st') : XPost G ρ1 H1 c fs st' := fun ρ' H' d l' s x => h ρ' H' d (l.trans l') s x
theorem Post.bind {α β : Type} {G : Gx} {ρ : List Addr} {H : Hp} {r : Res α} {k : α → VSt → Res β} {K : KF β} (h : Post G ρ H (r.bind k) K) : Post G ρ H r (fun ρ1 st1 H1 a => Post G ρ1 H1 (k a st1) K) := by
  cases r with
  | bad => exact h
  | ex c fs st' => exact h
  | ok a st' =>
    intro ρ1 H1 l _
    have h : Post G ρ H (k a st') K := h
    show Post G ρ1 H1 (k a st') K
    cases e : k a st' with
    | bad => rw [e] at h; exact h
    | ex c fs st2 => rw [e] at h; exact XPost.move l h
    | ok b st2 =>
      rw [e] at h
      exact fun ρ2 H2 l2 s2 => h ρ2 H2 (l.trans l2) s2
theorem Post.imp {α : Type} {G : Gx} {ρ : List Addr} {H : Hp} {r : Res α} {K K' : KF α} (h : Post G ρ H r K) (q : ∀ ρ' st' H' a, Later ρ H ρ' H' → SRel G ρ' st' H' → K ρ' st' H' a → K' ρ' st' H' a) : Post G ρ H r K' := by
  cases r with
  | bad => exact h
  | ex c fs st' => exact h
  | ok a st' => exact fun ρ' H' l s => q _ _ _ _ l s (h ρ' H' l s)
theorem Post.now {α : Type} {G : Gx} {ρ : List Addr} {H : Hp} {a : α} {st : VSt} {K : KF α} (h : Post G ρ H (.ok a st) K) (s : SRel G ρ st H) : K ρ st H a := h ρ H (Later.refl _ _) s
/-- the wish of a value: fr: the value, if an object, is a new one -/
def kE (G : Gx) (H : Hp) (fr : Bool) (Q : VK) : KF PV := fun ρ' _ H' p => ∀ v, Rep G ρ' H' p v → (fr = true → ∀ a, v = .ref a → H a = none) → Q v H'
def kA (G : Gx) (Q : List V → Hp → Prop) : KF (List PV) := fun ρ' _ H' p => ∀ v, Reps G ρ' H' p v → Q v H'
def kT (Q : Bool → Hp → Prop) : KF PV := fun _ _ H' p => match p with
  | .bl b => Q b H'
  | _ => False
theorem kE.back {G : Gx} {ρ ρ1 : List Addr} {H H1 : Hp} {fr : Bool} {Q : VK} (l : Later ρ H ρ1 H1) {r : Res PV} {ρ2 : List Addr} {H2 : Hp} (h : Post G ρ2 H2 r (kE G H fr Q)) : Post G ρ2 H2 r (kE G H1 fr Q) :=
  h.imp fun _ _ _ _ _ _ k v rp f => k v rp fun e a ha => l.back (f e a ha)
def gx (X : Cx) (W : XD) (hid : List Addr) : Gx := ⟨X.prog, X.w, X.K, hid, W⟩

/-- a meaning as a reading -/
def cE (X : Cx) (W : XD) (fr : Bool) (m : EM) : TE := fun σ H Q => ∃ hid ρ env st, Rel (gx X W hid) ρ env st σ H ∧ Post (gx X W hid) ρ H (m env st) (kE (gx X W hid) H fr Q)
def cA (X : Cx) (W : XD) (m : AM) : TA := fun σ H Q => ∃ hid ρ env st, Rel (gx X W hid) ρ env st σ H ∧ Post (gx X W hid) ρ H (m env st) (kA (gx X W hid) Q)
def cT (X : Cx) (W : XD) (m : EM) : TT := fun σ H Q => ∃ hid ρ env st, Rel (gx X W hid) ρ env st σ H ∧ Post (gx X W hid) ρ H (m env st) (kT Q)
def Ev (X : Cx) (W : XD) (fr : Bool) (e : Expr) (m : EM) : Prop := PE X e (cE X W fr m)
def EvA (X : Cx) (W : XD) (es : List Expr) (m : AM) : Prop := PA X es (cA X W m)
def EvT (X : Cx) (W : XD) (e : Expr) (m : EM) : Prop := PT X e (cT X W m)
def EvW (X : Cx) (W : XD) (e : Expr) (m : EM) : Prop := PW X e (cT X W m)
theorem PE.anti {X : Cx} {e : Expr} {t u : TE} (h : PE X e t) (k : ∀ σ H Q, u σ H Q → t σ H Q) : PE X e u := ⟨fun pins s σ H Q I w => h.run pins s σ H Q I (k σ H Q w)⟩
theorem PA.anti {X : Cx} {e : List Expr} {t u : TA} (h : PA X e t) (k : ∀ σ H Q, u σ H Q → t σ H Q) : PA X e u := ⟨fun pos pins s σ H Q I w => h.run pos pins s σ H Q I (k σ H Q w)⟩
theorem PT.anti {X : Cx} {e : Expr} {t u : TT} (h : PT X e t) (k : ∀ σ H Q, u σ H Q → t σ H Q) : PT X e u := ⟨fun pins s σ H Q I w => h.run pins s σ H Q I (k σ H Q w)⟩
theorem PW.anti {X : Cx} {e : Expr} {t u : TT} (h : PW X e t) (k : ∀ σ H Q, u σ H Q → t σ H Q) : PW X e u := ⟨fun wh pins s σ H Q I w => h.run wh pins s σ H Q I (k σ H Q w)⟩
theorem Rel.later {G : Gx} {ρ ρ' : List Addr} {env : VEnv} {st st' : VSt} {σ : L2.St} {H H' : Hp} (R : Rel G ρ env st σ H) (l : Later ρ H ρ' H') (s : SRel G ρ' st' H') : Rel G ρ' env st' σ H' := ⟨s, R.e.later l⟩

section
variable {X : Cx} {W : XD} {hid ρ : List Addr} {env : VEnv} {st : VSt} {σ : L2.St} {H : Hp}
/-- an expression first, then what follows -/
theorem cE_use {fr : Bool} {m : EM} {β : Type} {k : PV → VSt → Res β} {K : KF β} {Q : VK} (R : Rel (gx X W hid) ρ env st σ H) (P : Post (gx X W hid) ρ H ((m env st).bind k) K)
    (q : ∀ ρ1 st1 H1 p v, Later ρ H ρ1 H1 → Rel (gx X W hid) ρ1 env st1 σ H1 → Rep (gx X W hid) ρ1 H1 p v → (fr = true → ∀ a, v = .ref a → H a = none) → Post (gx X W hid) ρ1 H1 (k p st1) K → Q v H1) : cE X W fr m σ H Q :=
  ⟨hid, ρ, env, st, R, P.bind.imp fun ρ1 st1 H1 p l s kk v rp f => q ρ1 st1 H1 p v l (R.later l s) rp f kk⟩
theorem cA_use {m : AM} {β : Type} {k : List PV → VSt → Res β} {K : KF β} {Q : List V → Hp → Prop} (R : Rel (gx X W hid) ρ env st σ H) (P : Post (gx X W hid) ρ H ((m env st).bind k) K)
    (q : ∀ ρ1 st1 H1 p v, Later ρ H ρ1 H1 → Rel (gx X W hid) ρ1 env st1 σ H1 → Reps (gx X W hid) ρ1 H1 p v → Post (gx X W hid) ρ1 H1 (k p st1) K → Q v H1) : cA X W m σ H Q :=
  ⟨hid, ρ, env, st, R, P.bind.imp fun ρ1 st1 H1 p l s kk v rp => q ρ1 st1 H1 p v l (R.later l s) rp kk⟩
end
/-- going on from a truth value -/
def onB {β : Type} (k : Bool → VSt → Res β) : PV → VSt → Res β := fun p st => match p with
  | .bl b => k b st
  | _ => .bad
theorem cT_use {X : Cx} {W : XD} {hid ρ : List Addr} {env : VEnv} {st : VSt} {σ : L2.St} {H : Hp} {m : EM} {β : Type} {k : Bool → VSt → Res β} {K : KF β} {Q : Bool → Hp → Prop} (R : Rel (gx X W hid) ρ env st σ H) (P : Post (gx X W hid) ρ H ((m env st).bind (onB k)) K)
    (q : ∀ ρ1 st1 H1 b, Later ρ H ρ1 H1 → Rel (gx X W hid) ρ1 env st1 σ H1 → Post (gx X W hid) ρ1 H1 (k b st1) K → Q b H1) : cT X W m σ H Q :=
  ⟨hid, ρ, env, st, R, P.bind.imp fun ρ1 st1 H1 p l s kk => by
    cases p with
    | bl b => exact q ρ1 st1 H1 b l (R.later l s) kk
    | _ => exact False.elim kk⟩
theorem Ev.weak {X : Cx} {W : XD} {fr : Bool} {e : Expr} {m : EM} (h : Ev X W fr e m) : Ev X W false e m := PE.anti h fun σ H Q ⟨hid, ρ, env, st, R, P⟩ => ⟨hid, ρ, env, st, R, P.imp fun _ _ _ _ _ _ k v rp _ => k v rp (fun z => nomatch z)⟩

/-! ## reading a value through the store -/
section
variable {G : Gx} {ρ : List Addr} {st : VSt} {H : Hp} {p : PV} {v : V}
theorem rep_deref (s : SRel G ρ st H) (h : Rep G ρ H p v) : (∃ n a, p = .loc n ∧ v = .ref a ∧ ObjR G ρ H (deref st p) a) ∨ ((∀ n, p ≠ .loc n) ∧ deref st p = p) := by
  cases p with
  | loc n =>
    obtain ⟨a, e, hn⟩ := h
    have h1 : n < st.length := by rw [← s.len]; exact (List.getElem?_eq_some_iff.mp hn).1
    have e2 : deref st (.loc n) = st[n] := by
      show st.getD n .non = st[n]
      rw [List.getD_eq_getElem?_getD, List.getElem?_eq_getElem h1]; rfl
    exact .inl ⟨n, a, rfl, e, by rw [e2]; exact (s.obj n st[n] a (List.getElem?_eq_getElem h1) hn).1⟩
  | _ => exact .inr ⟨(fun n z => nomatch z), rfl⟩
theorem rep_lst {xs : List PV} (s : SRel G ρ st H) (h : Rep G ρ H p v) (e : deref st p = .lst xs) : ∃ a vs, v = .ref a ∧ H a = some (.lst vs) ∧ Reps G ρ H xs vs := by
  rcases rep_deref s h with ⟨n, a, rfl, rfl, o⟩ | ⟨_, z⟩
  · rw [e] at o
    obtain ⟨vs, h1, h2⟩ := o
    exact ⟨a, vs, rfl, h1, h2⟩
  · rw [z] at e
    subst e
    obtain ⟨a, vs, e, _, _, s, r⟩ := h
    exact ⟨a, vs, e, s, r⟩
theorem rep_dct {ks : List Key} {xs : List PV} (s : SRel G ρ st H) (h : Rep G ρ H p v) (e : deref st p = .dct ks xs) : ∃ a vs, v = .ref a ∧ ks.length = vs.length ∧ H a = some (.dK (ks.zip vs)) ∧ Reps G ρ H xs vs := by
  rcases rep_deref s h with ⟨n, a, rfl, rfl, o⟩ | ⟨_, z⟩
  · rw [e] at o
    obtain ⟨vs, h0, h1, h2⟩ := o
    exact ⟨a, vs, rfl, h0, h1, h2⟩
  · rw [z] at e
    subst e
    obtain ⟨a, vs, e, _, _, z, s, r⟩ := h
    exact ⟨a, vs, e, z, s, r⟩
theorem rep_set {xs : List Str} (s : SRel G ρ st H) (h : Rep G ρ H p v) (e : deref st p = .sset xs) : ∃ a, v = .ref a ∧ H a = some (SetO' G a xs) := by
  rcases rep_deref s h with ⟨n, a, rfl, rfl, o⟩ | ⟨_, z⟩
  · rw [e] at o
    exact ⟨a, rfl, o⟩
  · rw [z] at e
    subst e
    obtain ⟨a, e, _, _, s⟩ := h
    exact ⟨a, e, s⟩


theorem rep_tup {xs : List PV} (s : SRel G ρ st H) (h : Rep G ρ H p v) (e : deref st p = .tup xs) : ∃ a vs, v = .ref a ∧ SqT G.K H a vs ∧ Reps G ρ H xs vs := by
  rcases rep_deref s h with ⟨n, a, rfl, rfl, o⟩ | ⟨_, z⟩
  · rw [e] at o
    exact o.elim
  · rw [z] at e
    subst e
    exact h
theorem rep_scr {ns : List Int} (s : SRel G ρ st H) (h : Rep G ρ H p v) (e : deref st p = .scr ns) : ∃ a, v = .ref a ∧ SqL G.K H a (ns.map V.int) := by
  rcases rep_deref s h with ⟨n, a, rfl, rfl, o⟩ | ⟨_, z⟩
  · rw [e] at o
    exact o.elim
  · rw [z] at e
    subst e
    obtain ⟨a, e, h⟩ := h
    exact ⟨a, e, scr_sq h⟩
end
/-- a new list, tuple as a value -/
theorem new_lst {G : Gx} {ρ : List Addr} {st : VSt} {H : Hp} {xs : List PV} {vs : List V} {p : Addr} (s : SRel G ρ st H) (r : Reps G ρ H xs vs) (hp : H p = none) : Rep G ρ (upd H p (.lst vs)) (.lst xs) (.ref p) :=
  ⟨p, vs, rfl, s.fresh hp, s.freshH hp, upd_same, Reps.later (.new hp) _ _ r⟩
theorem new_tup {G : Gx} {ρ : List Addr} {H : Hp} {xs : List PV} {vs : List V} {p : Addr} (r : Reps G ρ H xs vs) (hp : H p = none) : Rep G ρ (upd H p (.tup vs)) (.tup xs) (.ref p) :=
  ⟨p, vs, rfl, .inl (.inl upd_same), Reps.later (.new hp) _ _ r⟩
/-- the end: a new object is handed on -/
theorem Post.give {G : Gx} {ρ : List Addr} {st : VSt} {H H0 : Hp} {fr : Bool} {Q : VK} {x : PV} {p : Addr} {o : HO} (P : Post G ρ H (.ok x st) (kE G H0 fr Q)) (s : SRel G ρ st H) (hp : H p = none) (h0 : H0 p = none) (r : Rep G ρ (upd H p o) x (.ref p)) : Q (.ref p) (upd H p o) :=
  P ρ _ (.new hp) (s.new hp) (.ref p) r fun _ a e => by cases e; exact h0
/-- .. a value without an object -/
theorem Post.val {G : Gx} {ρ : List Addr} {st : VSt} {H H0 : Hp} {fr : Bool} {Q : VK} {x : PV} {v : V} (P : Post G ρ H (.ok x st) (kE G H0 fr Q)) (s : SRel G ρ st H) (r : Rep G ρ H x v) (f : fr = true → ∀ a, v = .ref a → H0 a = none) : Q v H := P.now s v r f
theorem sz (n : Nat) (h : n ≤ 1000000) : n ≤ sizeLine := by rw [sizeLine_eq]; omega
theorem szl (n : Nat) (h : n ≤ 1000000) : n < sizeLine := by rw [sizeLine_eq]; omega
end Vm

namespace Vm
open PySem L2

/-! ## meanings of expressions -/
def eVar (i : Nat) : EM := fun env st => match env[i]? with
  | some (some p) => .ok p st
  | _ => .bad
def eC (p : PV) : EM := fun _ st => .ok p st
def eBin (f : PV → PV → VSt → Res PV) (a b : EM) : EM := fun env st => (a env st).bind fun x s1 => (b env s1).bind fun y s2 => f x y s2
def eUn (f : PV → VSt → Res PV) (a : EM) : EM := fun env st => (a env st).bind f
def aNil : AM := fun _ st => .ok [] st
def aCons (a : EM) (r : AM) : AM := fun env st => (a env st).bind fun x s1 => (r env s1).bind fun xs s2 => .ok (x :: xs) s2
def mkTup (xs : List PV) (st : VSt) : Res PV := if xs.length ≤ 1000000 then .ok (.tup xs) st else .bad
def mkLst (xs : List PV) (st : VSt) : Res PV := if xs.length ≤ 1000000 then .ok (.lst xs) st else .bad
def eTup (es : AM) : EM := fun env st => (es env st).bind mkTup
def eLst (es : AM) : EM := fun env st => (es env st).bind mkLst
def eApp (f : List PV → VSt → Res PV) (es : AM) : EM := fun env st => (es env st).bind f
def eAnd (a b : EM) : EM := fun env st => (a env st).bind (onB fun c s1 => if c = true then b env s1 else .ok (.bl false) s1)
def eOr (a b : EM) : EM := fun env st => (a env st).bind (onB fun c s1 => if c = true then .ok (.bl true) s1 else b env s1)
def eNot (a : EM) : EM := fun env st => (a env st).bind (onB fun c s1 => .ok (.bl (!c)) s1)
def eIf (c a b : EM) : EM := fun env st => (c env st).bind (onB fun c s1 => if c = true then a env s1 else b env s1)

/-! ## operations by values -/
def vCat (x y : PV) (st : VSt) : Res PV := match deref st x, deref st y with
  | .lst xs, .lst ys => if xs.length + ys.length ≤ 1000000 then .ok (.lst (xs ++ ys)) st else .bad
  | _, _ => .bad
def vAdd (x y : PV) (st : VSt) : Res PV := match x, y with
  | .int i, .int j => .ok (.int (i + j)) st
  | .str a, .str b => if a.length + b.length ≤ 1000000 then .ok (.str (a ++ b)) st else .bad
  | .tup xs, .tup ys => if xs.length + ys.length ≤ 1000000 then .ok (.tup (xs ++ ys)) st else .bad
  | x, y => vCat x y st
def vSub (x y : PV) (st : VSt) : Res PV := match x, y with
  | .int i, .int j => .ok (.int (i - j)) st
  | _, _ => .bad
def repS (x : Str) (n : Nat) : Str := ⟨(List.replicate n x.cps.toList).flatten.toArray⟩
def vMul (x y : PV) (st : VSt) : Res PV := match x, y with
  | .int i, .int j => if (-(2 ^ 64) < i ∧ i < 2 ^ 64) ∨ (-(2 ^ 64) < j ∧ j < 2 ^ 64) then .ok (.int (i * j)) st else .bad
  | .str a, .int j => if 1 ≤ j ∧ j ≤ 1000 ∧ a.length ≤ 1000 then .ok (.str (repS a j.toNat)) st else .bad
  | _, _ => .bad
def vFdv (x y : PV) (st : VSt) : Res PV := match x, y with
  | .int i, .int j => if 0 < j ∧ j < 2 ^ 100 then .ok (.int (i / j)) st else .bad
  | _, _ => .bad
def vMod (x y : PV) (st : VSt) : Res PV := match x, y with
  | .int i, .int j => if 0 < j then .ok (.int (i % j)) st else .bad
  | _, _ => .bad
def vPow (x y : PV) (st : VSt) : Res PV := match x, y with
  | .int i, .int j => if 0 ≤ j ∧ j ≤ 1000 ∧ i.natAbs < 2 ^ 64 then .ok (.int (i ^ j.toNat)) st else .bad
  | _, _ => .bad
def vNeg (x : PV) (st : VSt) : Res PV := match x with
  | .int i => .ok (.int (-i)) st
  | _ => .bad
def vCmp (f : Int → Int → Bool) (x y : PV) (st : VSt) : Res PV := match x, y with
  | .int i, .int j => .ok (.bl (f i j)) st
  | _, _ => .bad
abbrev vLt := vCmp fun i j => decide (i < j)
abbrev vLe := vCmp fun i j => decide (i ≤ j)
abbrev vGt := vCmp fun i j => decide (j < i)
abbrev vGe := vCmp fun i j => decide (j ≤ i)
def isNon : PV → Bool
  | .non => true
  | _ => false
def vIsN (neg : Bool) (x y : PV) (st : VSt) : Res PV := match y with
  | .non => .ok (.bl (if neg then !isNon x else isNon x)) st
  | _ => .bad
mutual
def toD : PV → Option PyData
  | .non => some .none
  | .bl b => some (.bool b)
  | .int i => some (.int i)
  | .str x => some (.str x)
  | .tup xs => (toDs xs).map .tuple
  | .lst xs => (toDs xs).map .list
  | _ => none
def toDs : List PV → Option (List PyData)
  | [] => some []
  | x :: r => match toD x, toDs r with
    | some d, some ds => some (d :: ds)
    | _, _ => none
end
/-- two dicts of flat values, one as the other -/
def dEq : List Key → List PV → List Key → List PV → Bool
  | [], [], [], [] => true
  | k :: ks, .int i :: xs, k' :: ks', .int j :: ys => decide (k = k') && decide (i = j) && dEq ks xs ks' ys
  | _, _, _, _ => false
def vEqF (neg : Bool) (x y : PV) (st : VSt) : Res PV := match x, y with
  | .str a, .str b => .ok (.bl (if neg then !decide (a = b) else decide (a = b))) st
  | .int a, .int b => .ok (.bl (if neg then !decide (a = b) else decide (a = b))) st
  | .bl a, .bl b => .ok (.bl (if neg then !decide (a = b) else decide (a = b))) st
  | x, y => match deref st x, deref st y with
    | .dct ks xs, .dct ks' ys => if (dEq ks xs ks' ys && decide ks.Nodup) = true then .ok (.bl (!neg)) st else .bad
    | x', y' => match toD x', toD y' with
      | some d, some e => if (SeqAt.shaped d && SeqAt.shaped e) = true then .ok (.bl (if neg then !PyData.eqv d e else PyData.eqv d e)) st else .bad
      | _, _ => .bad
def flatP : PV → Bool
  | .non => true | .bl _ => true | .int _ => true | .str _ => true
  | _ => false
def eqP : PV → PV → Bool
  | .non, .non => true
  | .bl a, .bl b => a == b
  | .bl a, .int b => (if a then 1 else 0) == b
  | .int a, .bl b => a == (if b then 1 else 0)
  | .int a, .int b => a == b
  | .str a, .str b => a == b
  | _, _ => false
def inP (x : PV) (xs : List PV) : Bool := xs.any fun y => eqP y x
def seqOf (st : VSt) (p : PV) : Option (List PV) := match deref st p with
  | .lst xs => some xs
  | .tup xs => some xs
  | _ => none
def keyP : PV → Option Key
  | .int i => some (.inl i)
  | .str x => some (.inr x)
  | _ => none
def kLook (ks : List Key) (xs : List PV) (k : Key) : Option PV := match ks, xs with
  | k' :: ks, x :: xs => if k' = k then some x else kLook ks xs k
  | _, _ => none
def vIn (neg : Bool) (x y : PV) (st : VSt) : Res PV := match deref st y with
  | .sset xs => match x with
    | .str s => .ok (.bl (if neg then !decide (s ∈ xs) else decide (s ∈ xs))) st
    | _ => .bad
  | .dct ks ys => match keyP x with
    | some k => .ok (.bl (if neg then !(kLook ks ys k).isSome else (kLook ks ys k).isSome)) st
    | none => .bad
  | .lst xs => if (flatP x && xs.all flatP) = true then .ok (.bl (if neg then !inP x xs else inP x xs)) st else .bad
  | .tup xs => if (flatP x && xs.all flatP) = true then .ok (.bl (if neg then !inP x xs else inP x xs)) st else .bad
  | _ => .bad
def opt (o : Option PV) (st : VSt) : Res PV := match o with
  | some p => .ok p st
  | none => .bad
def vIx (x y : PV) (st : VSt) : Res PV := match deref st x, y with
  | .lst xs, .int i => opt (atI xs i) st
  | .tup xs, .int i => opt (atI xs i) st
  | .scr ns, .int i => opt ((atI ns i).map .int) st
  | .str z, .int i => if z.length ≤ 1000000 then opt ((atI z.cps.toList i).map fun c => .str ⟨#[c]⟩) st else .bad
  | .dct ks xs, k => match keyP k with
    | some k => opt (kLook ks xs k) st
    | none => .bad
  | _, _ => .bad

/-! ## the rules -/
def OpSem (X : Cx) (W : XD) (fr : Bool) (r : R2) (f : PV → PV → VSt → Res PV) : Prop := ∀ (hid ρ : List Addr) (st : VSt) (H : Hp) (x y : PV) (v w : V) (Q : VK), SRel (gx X W hid) ρ st H → Rep (gx X W hid) ρ H x v → Rep (gx X W hid) ρ H y w →
  Post (gx X W hid) ρ H (f x y st) (kE (gx X W hid) H fr Q) → r v w H Q
def UnSem (X : Cx) (W : XD) (fr : Bool) (r : V → Hp → VK → Prop) (f : PV → VSt → Res PV) : Prop := ∀ (hid ρ : List Addr) (st : VSt) (H : Hp) (x : PV) (v : V) (Q : VK), SRel (gx X W hid) ρ st H → Rep (gx X W hid) ρ H x v →
  Post (gx X W hid) ρ H (f x st) (kE (gx X W hid) H fr Q) → r v H Q
def CallSem (X : Cx) (W : XD) (fr : Bool) (r : List V → Hp → VK → Prop) (f : List PV → VSt → Res PV) : Prop := ∀ (hid ρ : List Addr) (st : VSt) (H : Hp) (xs : List PV) (vs : List V) (Q : VK), SRel (gx X W hid) ρ st H → Reps (gx X W hid) ρ H xs vs →
  Post (gx X W hid) ρ H (f xs st) (kE (gx X W hid) H fr Q) → r vs H Q
section
variable {X : Cx} {W : XD} {fr fa fb : Bool} {a b c : Expr} {ma mb mc : EM} {pos : Pos}
theorem ev_var (i : Nat) {x : Str} (hN : X.N[i]? = some x := by rfl) (hv : Vis X.env.scope x := by first | exact Or.inl rfl | exact Or.inr (Or.inl rfl) | exact Or.inr (Or.inr rfl)) (hd : (x == ("__debug__" : Str)) = false := by decide)
    (hcd : (x == ("__classdict__" : Str)) = false := by decide) : Ev X W false (.Name x pos) (eVar i) := PE.anti (pe_var hN hv hd hcd) fun σ H Q ⟨hid, ρ, env, st, R, P⟩ => by
  unfold eVar at P
  split at P
  · rename_i p e
    obtain ⟨v, h1, h2⟩ := R.e.2 i p e
    exact ⟨v, h1, P.val R.s h2 (fun z => nomatch z)⟩
  · exact False.elim P
theorem ev_int {i : Int} {j} : Ev X W true (.Constant (.int i) j pos) (eC (.int i)) := PE.anti pe_int fun σ H Q ⟨hid, ρ, env, st, R, P⟩ => Post.val P R.s (show Rep _ _ _ (.int i) (.int i) from rfl) fun _ a e => nomatch e
theorem ev_bl {i : Bool} {j} : Ev X W true (.Constant (.bool i) j pos) (eC (.bl i)) := PE.anti pe_bl fun σ H Q ⟨hid, ρ, env, st, R, P⟩ => Post.val P R.s (show Rep _ _ _ (.bl i) (.bl i) from rfl) fun _ a e => nomatch e
theorem ev_non {j} : Ev X W true (.Constant .none j pos) (eC .non) := PE.anti pe_non fun σ H Q ⟨hid, ρ, env, st, R, P⟩ => Post.val P R.s (show Rep _ _ _ .non .non from rfl) fun _ a e => nomatch e
theorem ev_str {i : Str} {j} : Ev X W true (.Constant (.str i) j pos) (eC (.str i)) := PE.anti pe_str fun σ H Q ⟨hid, ρ, env, st, R, P⟩ => Post.val P R.s (show Rep _ _ _ (.str i) (.str i) from rfl) fun _ a e => nomatch e
theorem ev_glob {x : Str} {i : Int} {u : Value} (hm : X.mg x = some u) (r : RelV (.int i) u) (hg : Gl X x := by rfl) (hd : (x == ("__debug__" : Str)) = false := by decide) : Ev X W true (.Name x pos) (eC (.int i)) := PE.anti (pe_glob hg hm r hd) fun σ H Q ⟨hid, ρ, env, st, R, P⟩ =>
  Post.val P R.s (show Rep _ _ _ (.int i) (.int i) from rfl) fun _ a e => nomatch e

theorem ev_op {op : Operator} {r : R2} {f : PV → PV → VSt → Res PV} (ho : OpR X (binaryOp op) r) (os : OpSem X W fr r f) (ha : Ev X W fa a ma) (hb : Ev X W fb b mb) : Ev X W fr (.BinOp a op b pos) (eBin f ma mb) :=
  PE.anti (pe_op ho ha hb) fun σ H Q ⟨hid, ρ, env, st, R, P⟩ => cE_use R P fun ρ1 st1 H1 p v l1 R1 rp _ P1 => cE_use R1 P1 fun ρ2 st2 H2 q w l2 R2 rq _ P2 =>
    os _ _ _ _ _ _ _ _ _ R2.s (Rep.later l2 _ _ rp) rq (kE.back (l1.trans l2) P2)
theorem ev_cmp {op : CmpOp} {r : R2} {f : PV → PV → VSt → Res PV} (ho : OpR X (compareOp op) r) (os : OpSem X W fr r f) (ha : Ev X W fa a ma) (hb : Ev X W fb b mb) (hm : behindInMarks op b = false := by first | exact nomark _ | rfl) : Ev X W fr (.Compare a [op] [b] pos) (eBin f ma mb) :=
  PE.anti (pe_cmpR ho ha hb hm) fun σ H Q ⟨hid, ρ, env, st, R, P⟩ => cE_use R P fun ρ1 st1 H1 p v l1 R1 rp _ P1 => cE_use R1 P1 fun ρ2 st2 H2 q w l2 R2 rq _ P2 =>
    os _ _ _ _ _ _ _ _ _ R2.s (Rep.later l2 _ _ rp) rq (kE.back (l1.trans l2) P2)
theorem kE_B {G : Gx} {ρ : List Addr} {H H0 : Hp} {Q : Bool → Hp → Prop} {r : Res PV} (P : Post G ρ H r (kT Q)) : Post G ρ H r (kE G H0 fr fun x H' => ∃ k, x = V.bl k ∧ Q k H') := P.imp fun ρ1 st1 H1 p _ _ k v rp _ => by
  cases p with
  | bl b => exact ⟨b, rp, k⟩
  | _ => exact False.elim k
theorem evt_cmp {op : CmpOp} {r : R2} {f : PV → PV → VSt → Res PV} (ho : OpR X (compareOp op) r) (os : OpSem X W false r f) (ha : Ev X W fa a ma) (hb : Ev X W fb b mb) (hm : behindInMarks op b = false := by first | exact nomark _ | rfl) : EvT X W (.Compare a [op] [b] pos) (eBin f ma mb) :=
  PT.anti (pt_cmpR ho ha hb hm) fun σ H Q ⟨hid, ρ, env, st, R, P⟩ => cE_use R (kE_B (fr := false) (H0 := H) P) fun ρ1 st1 H1 p v l1 R1 rp _ P1 => cE_use R1 P1 fun ρ2 st2 H2 q w l2 R2 rq _ P2 =>
    os _ _ _ _ _ _ _ _ _ R2.s (Rep.later l2 _ _ rp) rq (kE.back (l1.trans l2) P2)
theorem ev_un {op : UnaryOp} {r : V → Hp → VK → Prop} {f : PV → VSt → Res PV} (ho : UnR X (unaryOp op) r) (os : UnSem X W fr r f) (ha : Ev X W fa a ma) : Ev X W fr (.UnaryOp op a pos) (eUn f ma) :=
  PE.anti (pe_un ho ha) fun σ H Q ⟨hid, ρ, env, st, R, P⟩ => cE_use R P fun ρ1 st1 H1 p v l1 R1 rp _ P1 => os _ _ _ _ _ _ _ R1.s rp (kE.back l1 P1)
theorem ev_ix {r : R2} {f : PV → PV → VSt → Res PV} (hr : IxR X r) (os : OpSem X W fr r f) (ha : Ev X W fa a ma) (hb : Ev X W fb b mb) (hs : PlainIx b := by exact fun _ _ => rfl) : Ev X W fr (.Subscript a b pos) (eBin f ma mb) :=
  PE.anti (pe_ix hr ha hb hs) fun σ H Q ⟨hid, ρ, env, st, R, P⟩ => cE_use R P fun ρ1 st1 H1 p v l1 R1 rp _ P1 => cE_use R1 P1 fun ρ2 st2 H2 q w l2 R2 rq _ P2 =>
    os _ _ _ _ _ _ _ _ _ R2.s (Rep.later l2 _ _ rp) rq (kE.back (l1.trans l2) P2)

/-! ### argument lists, displays -/
variable {es : List Expr} {e : Expr} {me : EM} {mes : AM}
theorem eva_nil : EvA X W [] aNil := PA.anti pa_nil fun σ H Q ⟨hid, ρ, env, st, R, P⟩ => P.now R.s [] rfl
theorem eva_cons (ha : Ev X W fa e me) (hr : EvA X W es mes) (hs : starEach (e :: es) X.env = (false, eval e X.env) :: starEach es X.env := by rfl) : EvA X W (e :: es) (aCons me mes) :=
  PA.anti (pa_cons ha hr hs) fun σ H Q ⟨hid, ρ, env, st, R, P⟩ => cE_use R P fun ρ1 st1 H1 p v l1 R1 rp _ P1 => cA_use R1 P1 fun ρ2 st2 H2 ps vs l2 R2 rps P2 =>
    P2.now R2.s (v :: vs) ⟨v, vs, rfl, Rep.later l2 _ _ rp, rps⟩
theorem ev_tup {x1} (h : EvA X W es mes) : Ev X W true (.Tuple es x1 pos) (eTup mes) := PE.anti (pe_tup h) fun σ H Q ⟨hid, ρ, env, st, R, P⟩ => cA_use R P fun ρ1 st1 H1 ps vs l R1 rps P1 => by
  unfold mkTup at P1
  split at P1
  · rename_i hz
    refine ⟨by rw [rps.length]; exact sz _ hz, fun p hp => ?_⟩
    exact P1.give R1.s hp (l.back hp) (new_tup rps hp)
  · exact False.elim P1
theorem ev_lst (h : EvA X W es mes) : Ev X W true (.List es pos) (eLst mes) := PE.anti (pe_lst h) fun σ H Q ⟨hid, ρ, env, st, R, P⟩ => cA_use R P fun ρ1 st1 H1 ps vs l R1 rps P1 => by
  unfold mkLst at P1
  split at P1
  · rename_i hz
    refine ⟨by rw [rps.length]; exact sz _ hz, fun p hp => ?_⟩
    exact P1.give R1.s hp (l.back hp) (new_lst R1.s rps hp)
  · exact False.elim P1
theorem ev_callB {id : String} {x : Str} {p : Pos} {r : List V → Hp → VK → Prop} {f : List PV → VSt → Res PV} (hc : CallR X (.builtin id) r) (os : CallSem X W fr r f) (hm : X.mg x = none) (hv : bootBuiltins x = some (.builtin id)) (ha : EvA X W (e :: es) mes) (hg : Gl X x := by rfl)
    (hn : x ≠ "__name__" := by decide) (hdb : (x == ("__debug__" : Str)) = false := by decide)
    (he : starEach (e :: es) X.env = (false, eval e X.env) :: starEach es X.env := by rfl) (hpl : (backTo pos (starEach es X.env)).any (·.1) = false := by rfl) : Ev X W fr (.Call (.Name x p) (e :: es) [] pos) (eApp f mes) :=
  PE.anti (pe_callB hc hg hm hv ha hn hdb he hpl) fun σ H Q ⟨hid, ρ, env, st, R, P⟩ => cA_use R P fun ρ1 st1 H1 ps vs l R1 rps P1 => os _ _ _ _ _ _ _ R1.s rps (kE.back l P1)
theorem ev_callTy {id : String} {x : Str} {p : Pos} {r : List V → Hp → VK → Prop} {f : List PV → VSt → Res PV} (hc : CallR X (.type id) r) (os : CallSem X W fr r f) (hm : X.mg x = none) (hv : bootBuiltins x = some (.type id)) (ha : EvA X W (e :: es) mes) (hg : Gl X x := by rfl)
    (hn : x ≠ "__name__" := by decide) (hdb : (x == ("__debug__" : Str)) = false := by decide)
    (he : starEach (e :: es) X.env = (false, eval e X.env) :: starEach es X.env := by rfl) (hpl : (backTo pos (starEach es X.env)).any (·.1) = false := by rfl) : Ev X W fr (.Call (.Name x p) (e :: es) [] pos) (eApp f mes) :=
  PE.anti (pe_callTy hc hg hm hv ha hn hdb he hpl) fun σ H Q ⟨hid, ρ, env, st, R, P⟩ => cA_use R P fun ρ1 st1 H1 ps vs l R1 rps P1 => os _ _ _ _ _ _ _ R1.s rps (kE.back l P1)

/-! ### tests -/
theorem evt_val (h : Ev X W fr e me) (he : ∀ whole, isTrue e X.env whole = (do let v ← whole; standAt e.pos; holding [v] (truthy v)) := by intro _; rfl) : EvT X W e me :=
  PT.anti (pt_val h he) fun σ H Q ⟨hid, ρ, env, st, R, P⟩ => ⟨hid, ρ, env, st, R, kE_B P⟩
theorem evw_pt (h : EvW X W e me) : EvT X W e me := PW.pt h
theorem evw_and1 (h : EvT X W a ma) : EvW X W (.BoolOp .And [a] pos) ma := pw_and1 h
theorem evw_or1 (h : EvT X W a ma) : EvW X W (.BoolOp .Or [a] pos) ma := pw_or1 h
theorem kT_iff {G : Gx} {ρ : List Addr} {H : Hp} {Q : Bool → Hp → Prop} {b : Bool} {st : VSt} (P : Post G ρ H (.ok (.bl b) st) (kT Q)) (s : SRel G ρ st H) : Q b H := P.now s
theorem evw_and {rest : List Expr} (h : EvT X W a ma) (h2 : EvW X W (.BoolOp .And (b :: rest) pos) mb) : EvW X W (.BoolOp .And (a :: b :: rest) pos) (eAnd ma mb) :=
  PW.anti (pw_and h h2) fun σ H Q ⟨hid, ρ, env, st, R, P⟩ => cT_use R P fun ρ1 st1 H1 c l R1 P1 => by
    cases c with
    | true => exact ⟨hid, ρ1, env, st1, R1, P1⟩
    | false => exact kT_iff P1 R1.s
theorem evw_or {rest : List Expr} (h : EvT X W a ma) (h2 : EvW X W (.BoolOp .Or (b :: rest) pos) mb) : EvW X W (.BoolOp .Or (a :: b :: rest) pos) (eOr ma mb) :=
  PW.anti (pw_or h h2) fun σ H Q ⟨hid, ρ, env, st, R, P⟩ => cT_use R P fun ρ1 st1 H1 c l R1 P1 => by
    cases c with
    | false => exact ⟨hid, ρ1, env, st1, R1, P1⟩
    | true => exact kT_iff P1 R1.s
theorem evt_not (h : EvT X W a ma) : EvT X W (.UnaryOp .Not a pos) (eNot ma) :=
  PT.anti (pt_not h) fun σ H Q ⟨hid, ρ, env, st, R, P⟩ => cT_use R P fun ρ1 st1 H1 c l R1 P1 => kT_iff P1 R1.s
/-- as values -/
theorem ev_one {op} (h : Ev X W fr a ma) : Ev X W fr (.BoolOp op [a] pos) ma := pe_one h
theorem toB {G : Gx} {ρ : List Addr} {H H0 : Hp} {r : Res PV} {k : Bool → VSt → Res PV} {K : KF PV} {Q : VK} (P : Post G ρ H (r.bind (onB k)) K)
    (q : ∀ ρ1 st1 H1 c, Later ρ H ρ1 H1 → SRel G ρ1 st1 H1 → Post G ρ1 H1 (k c st1) K → Q (.bl c) H1) : Post G ρ H r (kE G H0 fr Q) := P.bind.imp fun ρ1 st1 H1 p l s k v rp _ => by
  cases p with
  | bl b =>
    obtain rfl : v = .bl b := rp
    exact q ρ1 st1 H1 b l s k
  | _ => exact False.elim k
theorem ev_and {rest : List Expr} (h : Ev X W fa a ma) (h2 : Ev X W fr (.BoolOp .And (b :: rest) pos) mb) : Ev X W fr (.BoolOp .And (a :: b :: rest) pos) (eAnd ma mb) :=
  PE.anti (pe_and h h2) fun σ H Q ⟨hid, ρ, env, st, R, P⟩ => ⟨hid, ρ, env, st, R, toB P fun ρ1 st1 H1 c l s P1 => ⟨c, rfl, by
    cases c with
    | true => exact ⟨hid, ρ1, env, st1, R.later l s, kE.back l P1⟩
    | false => exact Post.val P1 s (show Rep _ _ _ (.bl false) (.bl false) from rfl) fun _ _ e => nomatch e⟩⟩
theorem ev_or {rest : List Expr} (h : Ev X W fa a ma) (h2 : Ev X W fr (.BoolOp .Or (b :: rest) pos) mb) : Ev X W fr (.BoolOp .Or (a :: b :: rest) pos) (eOr ma mb) :=
  PE.anti (pe_or h h2) fun σ H Q ⟨hid, ρ, env, st, R, P⟩ => ⟨hid, ρ, env, st, R, toB P fun ρ1 st1 H1 c l s P1 => ⟨c, rfl, by
    cases c with
    | false => exact ⟨hid, ρ1, env, st1, R.later l s, kE.back l P1⟩
    | true => exact Post.val P1 s (show Rep _ _ _ (.bl true) (.bl true) from rfl) fun _ _ e => nomatch e⟩⟩
theorem ev_not (h : Ev X W fa a ma) : Ev X W true (.UnaryOp .Not a pos) (eNot ma) :=
  PE.anti (pe_not h) fun σ H Q ⟨hid, ρ, env, st, R, P⟩ => ⟨hid, ρ, env, st, R, toB P fun ρ1 st1 H1 c l s P1 => ⟨c, rfl, Post.val P1 s (show Rep _ _ _ (.bl (!c)) (.bl (!c)) from rfl) fun _ _ e => nomatch e⟩⟩
theorem ev_if (hc : EvT X W c mc) (ha : Ev X W fr a ma) (hb : Ev X W fr b mb) : Ev X W fr (.IfExp c a b pos) (eIf mc ma mb) :=
  PE.anti (pe_ifExp hc ha hb) fun σ H Q ⟨hid, ρ, env, st, R, P⟩ => cT_use R P fun ρ1 st1 H1 c l R1 P1 => by
    cases c with
    | true => exact ⟨hid, ρ1, env, st1, R1, kE.back l P1⟩
    | false => exact ⟨hid, ρ1, env, st1, R1, kE.back l P1⟩
end

/-! ## operations: readings -/
section
variable {X : Cx} {W : XD} {fr : Bool}
theorem os_cat : OpSem X W true rCat vCat := by
  intro hid ρ st H x y v w Q S rx ry P
  unfold vCat at P
  split at P
  · rename_i xs ys e1 e2
    split at P
    · rename_i hz
      obtain ⟨a, vs, rfl, ha, r1⟩ := rep_lst S rx e1
      obtain ⟨b, ws, rfl, hb, r2⟩ := rep_lst S ry e2
      refine ⟨a, b, vs, ws, rfl, rfl, ha, hb, by rw [r1.length, r2.length]; exact sz _ hz, fun p hp => ?_⟩
      exact P.give S hp hp (new_lst S (r1.append r2) hp)
    · exact False.elim P
  · exact False.elim P
theorem OpSem.weak {r : R2} {f} (h : OpSem X W fr r f) : OpSem X W false r f := fun hid ρ st H x y v w Q S rx ry P => h hid ρ st H x y v w Q S rx ry (P.imp fun _ _ _ _ _ _ k v rp _ => k v rp (fun z => nomatch z))
def rAdd4 (K : PySem.W.Frag) : R2 := fun x y H Q => (∃ i j, x = .int i ∧ y = .int j ∧ Q (.int (i + j)) H) ∨ (∃ i j, x = .str i ∧ y = .str j ∧ i.length + j.length ≤ sizeLine ∧ Q (.str (i ++ j)) H) ∨ rCatA K x y H Q ∨ rCat x y H Q
theorem op_add4 : OpR X (binaryOp .Add) (rAdd4 X.K) := OpR.or op_add (OpR.or op_add_str (OpR.or op_catA op_cat))
theorem os_add : OpSem X W false (rAdd4 X.K) vAdd := by
  intro hid ρ st H x y v w Q S rx ry P
  unfold vAdd at P
  split at P
  · rename_i i j
    exact .inl ⟨i, j, rx, ry, P.val S rfl (fun z => nomatch z)⟩
  · rename_i i j
    split at P
    · rename_i hz
      exact .inr (.inl ⟨i, j, rx, ry, sz _ hz, P.val S rfl (fun z => nomatch z)⟩)
    · exact False.elim P
  · rename_i xs ys
    split at P
    · rename_i hz
      obtain ⟨a, vs, rfl, ha, r1⟩ := rx
      obtain ⟨b, ws, rfl, hb, r2⟩ := ry
      refine .inr (.inr (.inl ⟨a, b, vs, ws, rfl, rfl, ha, hb, by rw [r1.length, r2.length]; exact sz _ hz, fun e => ?_, fun e e2 => ?_, fun e e2 p hp => ?_⟩))
      · subst e
        have : xs = [] := by
          cases xs with
          | nil => rfl
          | cons x r => obtain ⟨_, _, e, _⟩ := r1; cases e
        subst this
        exact P.val S ⟨b, ws, rfl, hb, r2⟩ (fun z => nomatch z)
      · subst e2
        have : ys = [] := by
          cases ys with
          | nil => rfl
          | cons x r => obtain ⟨_, _, e, _⟩ := r2; cases e
        subst this
        exact P.val S ⟨a, vs, rfl, ha, by rw [List.append_nil]; exact r1⟩ (fun z => nomatch z)
      · exact P.give S hp hp (new_tup (r1.append r2) hp)
    · exact False.elim P
  · exact .inr (.inr (.inr (os_cat.weak hid ρ st H x y v w Q S rx ry P)))
theorem os_sub : OpSem X W true (rI0 fun i j => .int (i - j)) vSub := by
  intro hid ρ st H x y v w Q S rx ry P
  unfold vSub at P
  split at P
  · rename_i i j
    exact ⟨i, j, rx, ry, P.val S rfl (fun _ _ e => nomatch e)⟩
  · exact False.elim P
theorem op_mul_str : OpR X (binaryOp .Mult) (fun x y H Q => ∃ s k, x = .str s ∧ y = .int k ∧ 1 ≤ k ∧ k ≤ 1000 ∧ s.length ≤ 1000 ∧ Q (.str (repS s k.toNat)) H) := by
  intro pins s σ H x y v u Q I rx ry h
  obtain ⟨z, k, rfl, rfl, h1, h2, h3, q⟩ := h
  obtain ⟨t, rfl⟩ := rx
  obtain ⟨t', rfl⟩ := ry
  have hfold : ∀ (n : Nat) (acc : Array Nat), (List.replicate n z.cps).foldl (· ++ ·) acc = acc ++ (List.replicate n z.cps.toList).flatten.toArray := by
    intro n
    induction n with
    | zero => intro acc; simp
    | succ n ih => intro acc; rw [List.replicate_succ, List.foldl_cons, ih, List.replicate_succ, List.flatten_cons, Array.append_assoc]; congr 1; apply Array.toList_inj.mp; simp
  have hrep : (⟨(List.replicate k.toNat z.cps).foldl (· ++ ·) #[]⟩ : Str) = repS z k.toNat := by
    rw [hfold]
    simp [repS]
  refine P.mul_str (by
      have a1 : ¬ k < -(2 ^ 63 : Int) := by omega
      have a2 : ¬ k ≥ 2 ^ 63 := by omega
      rw [decide_eq_false a1, decide_eq_false a2]; rfl) (fun _ _ => ?_) (fun _ _ => ?_) ?_
  · intro hc
    have hk : (1000 : Int) ≤ (2 ^ 63 - 1) / k := by
      rw [Int.le_ediv_iff_mul_le (by omega)]
      have : (1000 : Int) * k ≤ 1000 * 1000 := by omega
      omega
    omega
  · unfold Builtin.Str.tooLong
    have : z.length * k.toNat ≤ 1000 * 1000 := Nat.mul_le_mul h3 (by omega)
    rw [sizeLine_eq]
    exact decide_eq_false (by omega)
  · have hk : ¬ k < 1 := by omega
    rw [if_neg hk]
    have hlen : (repS z k.toNat).length ≤ sizeLine := by
      have : (repS z k.toNat).length = k.toNat * z.length := by
        unfold repS Str.length
        simp [List.length_flatten]
      rw [this]
      have h4 : k.toNat * z.length ≤ 1000 * 1000 := Nat.mul_le_mul (by omega) h3
      rw [sizeLine_eq]
      omega
    split
    · rename_i hc
      have e : repS z k.toNat = z := by
        rcases Bool.or_eq_true_iff.mp hc with e1 | e1
        · have : k = 1 := by simpa using e1
          subst this
          show (⟨(List.replicate 1 z.cps.toList).flatten.toArray⟩ : Str) = z
          simp
        · have : z.cps = #[] := by
            have : z.cps.size = 0 := by simpa [Str.length] using e1
            exact Array.eq_empty_of_size_eq_zero this
          obtain ⟨c⟩ := z
          subst this
          show (⟨(List.replicate k.toNat (#[] : Array Nat).toList).flatten.toArray⟩ : Str) = _
          simp
      rw [e] at q
      exact ⟨.str z, H, I, ⟨t, rfl⟩, q⟩
    · refine ⟨?_, ?_⟩
      · rw [hrep]; first | exact hlen | (unfold Builtin.Str.tooLong; exact decide_eq_false (by omega))
      · exact ⟨.str _, H, I.tok _, ⟨_, by rw [hrep]⟩, q⟩

theorem os_mul : OpSem X W true (fun x y H Q => rI CMul (fun i j => .int (i * j)) x y H Q ∨ (∃ s k, x = .str s ∧ y = .int k ∧ 1 ≤ k ∧ k ≤ 1000 ∧ s.length ≤ 1000 ∧ Q (.str (repS s k.toNat)) H)) vMul := by
  intro hid ρ st H x y v w Q S rx ry P
  unfold vMul at P
  split at P
  · split at P
    · rename_i i j hz
      exact .inl ⟨i, j, rx, ry, hz, P.val S rfl (fun _ _ e => nomatch e)⟩
    · exact False.elim P
  · split at P
    · rename_i i j hz
      exact .inr ⟨i, j, rx, ry, hz.1, hz.2.1, hz.2.2, P.val S rfl (fun _ _ e => nomatch e)⟩
    · exact False.elim P
  · exact False.elim P
theorem op_mul2 : OpR X (binaryOp .Mult) (fun x y H Q => rI CMul (fun i j => .int (i * j)) x y H Q ∨ (∃ s k, x = .str s ∧ y = .int k ∧ 1 ≤ k ∧ k ≤ 1000 ∧ s.length ≤ 1000 ∧ Q (.str (repS s k.toNat)) H)) := OpR.or op_mul op_mul_str
theorem os_fdv : OpSem X W true (rI CDivW fun i j => .int (i / j)) vFdv := by
  intro hid ρ st H x y v w Q S rx ry P
  unfold vFdv at P
  split at P
  · split at P
    · rename_i i j hz
      exact ⟨i, j, rx, ry, wide_div (b := 100) hz.1 (by omega) (by decide) (by decide), P.val S rfl (fun _ _ e => nomatch e)⟩
    · exact False.elim P
  · exact False.elim P
theorem os_mod : OpSem X W true (rI (fun _ j => 0 < j) fun i j => .int (i % j)) vMod := by
  intro hid ρ st H x y v w Q S rx ry P
  unfold vMod at P
  split at P
  · split at P
    · rename_i i j hz
      exact ⟨i, j, rx, ry, hz, P.val S rfl (fun _ _ e => nomatch e)⟩
    · exact False.elim P
  · exact False.elim P
theorem os_pow : OpSem X W true (rI CPow fun i j => .int (i ^ j.toNat)) vPow := by
  intro hid ρ st H x y v w Q S rx ry P
  unfold vPow at P
  split at P
  · split at P
    · rename_i i j hz
      exact ⟨i, j, rx, ry, ⟨hz.1, by omega, hz.2.2⟩, P.val S rfl (fun _ _ e => nomatch e)⟩
    · exact False.elim P
  · exact False.elim P
theorem us_neg : UnSem X W true (rU fun i => .int (-i)) vNeg := by
  intro hid ρ st H x v Q S rx P
  unfold vNeg at P
  split at P
  · rename_i i
    exact ⟨i, rx, P.val S rfl (fun _ _ e => nomatch e)⟩
  · exact False.elim P
theorem os_cmp {g : Int → Int → Bool} : OpSem X W true (rI0 fun i j => .bl (g i j)) (vCmp g) := by
  intro hid ρ st H x y v w Q S rx ry P
  unfold vCmp at P
  split at P
  · rename_i i j
    exact ⟨i, j, rx, ry, P.val S rfl (fun _ _ e => nomatch e)⟩
  · exact False.elim P
theorem rep_non {G : Gx} {ρ : List Addr} {H : Hp} {p : PV} {v : V} (h : Rep G ρ H p v) : decide (v = .non) = isNon p := by
  cases p with
  | non => obtain rfl : v = .non := h; rfl
  | bl _ => obtain rfl := (show v = _ from h); rfl
  | int _ => obtain rfl := (show v = _ from h); rfl
  | str _ => obtain rfl := (show v = _ from h); rfl
  | tup _ => obtain ⟨a, _, rfl, _⟩ := h; rfl
  | lst _ => obtain ⟨a, _, rfl, _⟩ := h; rfl
  | dct _ _ => obtain ⟨a, _, rfl, _⟩ := h; rfl
  | sset _ => obtain ⟨a, rfl, _⟩ := h; rfl
  | scr _ => obtain ⟨a, rfl, _⟩ := h; rfl
  | loc _ => obtain ⟨a, rfl, _⟩ := h; rfl
  | raw _ => obtain rfl := (show v = _ from h); rfl
theorem os_isN : OpSem X W true (fun x y H Q => y = .non ∧ Q (.bl (decide (x = .non))) H) (vIsN false) := by
  intro hid ρ st H x y v w Q S rx ry P
  unfold vIsN at P
  split at P
  · refine ⟨ry, P.val S ?_ (fun _ _ e => nomatch e)⟩
    rw [rep_non rx]; rfl
  · exact False.elim P
theorem os_notN : OpSem X W true (fun x y H Q => y = .non ∧ Q (.bl (!decide (x = .non))) H) (vIsN true) := by
  intro hid ρ st H x y v w Q S rx ry P
  unfold vIsN at P
  split at P
  · refine ⟨ry, P.val S ?_ (fun _ _ e => nomatch e)⟩
    rw [rep_non rx]; rfl
  · exact False.elim P

mutual
theorem rep_toD {G : Gx} {ρ : List Addr} {H : Hp} : ∀ (p : PV) (v : V) (d : PyData), Rep G ρ H p v → toD p = some d → Dp G.K H v d
  | .non, v, d, h, e => by obtain rfl : v = .non := h; cases e; exact .non
  | .bl b, v, d, h, e => by obtain rfl : v = _ := h; cases e; exact .bl b
  | .int b, v, d, h, e => by obtain rfl : v = _ := h; cases e; exact .int b
  | .str b, v, d, h, e => by obtain rfl : v = _ := h; cases e; exact .str b
  | .tup xs, v, d, h, e => by
    obtain ⟨a, vs, rfl, s, r⟩ := h
    cases q : toDs xs with
    | none => unfold toD at e; rw [q] at e; cases e
    | some ds => unfold toD at e; rw [q] at e; cases e; exact .tup s (reps_toD xs vs ds r q)
  | .lst xs, v, d, h, e => by
    obtain ⟨a, vs, rfl, _, _, s, r⟩ := h
    cases q : toDs xs with
    | none => unfold toD at e; rw [q] at e; cases e
    | some ds => unfold toD at e; rw [q] at e; cases e; exact .lst (SqL.of s) (reps_toD xs vs ds r q)
  | .dct _ _, _, _, _, e => by cases e
  | .sset _, _, _, _, e => by cases e
  | .scr _, _, _, _, e => by cases e
  | .loc _, _, _, _, e => by cases e
  | .raw _, _, _, _, e => by cases e
theorem reps_toD {G : Gx} {ρ : List Addr} {H : Hp} : ∀ (ps : List PV) (vs : List V) (ds : List PyData), Reps G ρ H ps vs → toDs ps = some ds → DpAll G.K H vs ds
  | [], vs, ds, h, e => by obtain rfl : vs = [] := h; cases e; exact .nil
  | p :: ps, vs, ds, h, e => by
    obtain ⟨v, r, rfl, h1, h2⟩ := h
    cases q1 : toD p with
    | none => unfold toDs at e; rw [q1] at e; cases e
    | some d =>
      cases q2 : toDs ps with
      | none => unfold toDs at e; rw [q1, q2] at e; cases e
      | some ds' =>
        unfold toDs at e; rw [q1, q2] at e; cases e
        exact .cons (rep_toD p v d h1 q1) (reps_toD ps r ds' h2 q2)
end
/-- through the store -/
theorem rep_deD {G : Gx} {ρ : List Addr} {st : VSt} {H : Hp} {p : PV} {v : V} {d : PyData} (S : SRel G ρ st H) (h : Rep G ρ H p v) (e : toD (deref st p) = some d) : Dp G.K H v d := by
  rcases rep_deref S h with ⟨n, a, rfl, rfl, o⟩ | ⟨_, z⟩
  · revert e o
    cases deref st (.loc n) with
    | lst xs =>
      intro e o
      obtain ⟨vs, s, r⟩ := o
      cases q : toDs xs with
      | none => unfold toD at e; rw [q] at e; cases e
      | some ds => unfold toD at e; rw [q] at e; cases e; exact .lst (SqL.of s) (reps_toD xs vs ds r q)
    | dct _ _ => intro e _; cases e
    | sset _ => intro e _; cases e
    | _ => intro _ o; exact False.elim o
  · rw [z] at e
    exact rep_toD p v d h e
theorem dEq_eq : ∀ (ks : List Key) (xs : List PV) (ks' : List Key) (ys : List PV), dEq ks xs ks' ys = true → ks = ks' ∧ xs = ys ∧ ∀ x ∈ xs, ∃ i, x = PV.int i
  | [], [], [], [], _ => ⟨rfl, rfl, by simp⟩
  | k :: ks, .int i :: xs, k' :: ks', .int j :: ys, h => by
    unfold dEq at h
    rw [Bool.and_eq_true, Bool.and_eq_true] at h
    obtain ⟨⟨h1, h2⟩, h3⟩ := h
    obtain ⟨e1, e2, e3⟩ := dEq_eq ks xs ks' ys h3
    refine ⟨by rw [of_decide_eq_true h1, e1], by rw [of_decide_eq_true h2, e2], fun x hx => ?_⟩
    rcases List.mem_cons.mp hx with rfl | hx
    · exact ⟨i, rfl⟩
    · exact e3 x hx
  | [], _ :: _, _, _, h => by simp [dEq] at h
  | [], [], _ :: _, _, h => by simp [dEq] at h
  | [], [], [], _ :: _, h => by simp [dEq] at h
  | k :: ks, [], _, _, h => by simp [dEq] at h
  | k :: ks, .non :: xs, _, _, h => by simp [dEq] at h
  | k :: ks, .bl _ :: xs, _, _, h => by simp [dEq] at h
  | k :: ks, .str _ :: xs, _, _, h => by simp [dEq] at h
  | k :: ks, .tup _ :: xs, _, _, h => by simp [dEq] at h
  | k :: ks, .lst _ :: xs, _, _, h => by simp [dEq] at h
  | k :: ks, .dct _ _ :: xs, _, _, h => by simp [dEq] at h
  | k :: ks, .sset _ :: xs, _, _, h => by simp [dEq] at h
  | k :: ks, .scr _ :: xs, _, _, h => by simp [dEq] at h
  | k :: ks, .loc _ :: xs, _, _, h => by simp [dEq] at h
  | k :: ks, .raw _ :: xs, _, _, h => by simp [dEq] at h
  | k :: ks, .int i :: xs, [], _, h => by simp [dEq] at h
  | k :: ks, .int i :: xs, k' :: ks', [], h => by simp [dEq] at h
  | k :: ks, .int i :: xs, k' :: ks', .non :: ys, h => by simp [dEq] at h
  | k :: ks, .int i :: xs, k' :: ks', .bl _ :: ys, h => by simp [dEq] at h
  | k :: ks, .int i :: xs, k' :: ks', .str _ :: ys, h => by simp [dEq] at h
  | k :: ks, .int i :: xs, k' :: ks', .tup _ :: ys, h => by simp [dEq] at h
  | k :: ks, .int i :: xs, k' :: ks', .lst _ :: ys, h => by simp [dEq] at h
  | k :: ks, .int i :: xs, k' :: ks', .dct _ _ :: ys, h => by simp [dEq] at h
  | k :: ks, .int i :: xs, k' :: ks', .sset _ :: ys, h => by simp [dEq] at h
  | k :: ks, .int i :: xs, k' :: ks', .scr _ :: ys, h => by simp [dEq] at h
  | k :: ks, .int i :: xs, k' :: ks', .loc _ :: ys, h => by simp [dEq] at h
  | k :: ks, .int i :: xs, k' :: ks', .raw _ :: ys, h => by simp [dEq] at h
/-- a dict of flat values is told by what it holds -/
theorem reps_int {G : Gx} {ρ : List Addr} {H : Hp} : ∀ {xs : List PV} {vs ws : List V}, (∀ x ∈ xs, ∃ i, x = PV.int i) → Reps G ρ H xs vs → Reps G ρ H xs ws → vs = ws ∧ ∀ v ∈ vs, flatB v = true
  | [], vs, ws, _, h, k => by rw [show vs = [] from h, show ws = [] from k]; exact ⟨rfl, by simp⟩
  | x :: xs, vs, ws, hx, h, k => by
    obtain ⟨v, r, rfl, h1, h2⟩ := h
    obtain ⟨w, q, rfl, k1, k2⟩ := k
    obtain ⟨i, rfl⟩ := hx x List.mem_cons_self
    obtain rfl : v = .int i := h1
    obtain rfl : w = .int i := k1
    obtain ⟨e, f⟩ := reps_int (fun y hy => hx y (List.mem_cons_of_mem _ hy)) h2 k2
    exact ⟨by rw [e], fun v hv => by
      rcases List.mem_cons.mp hv with rfl | hv
      · rfl
      · exact f v hv⟩
theorem valV_zip : ∀ {ks : List Key} {vs : List V}, ks.length = vs.length → ks.Nodup → ∀ p ∈ ks.zip vs, valV (ks.zip vs) p.1 = some p.2
  | [], vs, _, _, p, h => by simp at h
  | k :: ks, [], h, _, _, _ => by simp at h
  | k :: ks, v :: vs, hl, nd, p, hp => by
    obtain ⟨n1, n2⟩ := List.nodup_cons.mp nd
    rw [List.zip_cons_cons] at hp ⊢
    rcases List.mem_cons.mp hp with rfl | hp
    · exact valV_pos rfl
    · rw [valV_neg (fun e : k = p.1 => n1 (by rw [e]; exact (List.of_mem_zip hp).1))]
      exact valV_zip (by simpa using hl) n2 p hp
def rEq3 (neg : Bool) (K : PySem.W.Frag) : R2 := fun x y H Q => (scal x y = true ∧ Q (.bl (if neg then !decide (x = y) else decide (x = y))) H) ∨
  (∃ a b ks ls, x = .ref a ∧ y = .ref b ∧ H a = some (.dK ks) ∧ H b = some (.dK ls) ∧ ks.length = ls.length ∧ (∀ p ∈ ks, valV ls p.1 = some p.2 ∧ flatB p.2 = true) ∧ Q (.bl (!neg)) H) ∨
  (∃ d e, Dp K H x d ∧ Dp K H y e ∧ SeqAt.shaped d = true ∧ SeqAt.shaped e = true ∧ Q (.bl (if neg then !PyData.eqv d e else PyData.eqv d e)) H)
theorem op_eq3 (hu : X.A.units + 64 < cLine) : OpR X (compareOp .Eq) (rEq3 false X.K) := OpR.or op_eq (OpR.or (op_eq_dictA (by omega)) (op_eqD hu))
theorem op_ne3 (hu : X.A.units + 64 < cLine) : OpR X (compareOp .NotEq) (rEq3 true X.K) := OpR.or op_ne (OpR.or (op_ne_dictA (by omega)) (op_neD hu))
theorem os_eq {neg : Bool} : OpSem X W true (rEq3 neg X.K) (vEqF neg) := by
  intro hid ρ st H x y v w Q S rx ry P
  unfold vEqF at P
  split at P
  · rename_i a b
    obtain rfl : v = .str a := rx
    obtain rfl : w = .str b := ry
    refine .inl ⟨rfl, ?_⟩
    have e : decide (V.str a = V.str b) = decide (a = b) := by simp
    rw [e]
    exact P.val S rfl (fun _ _ e => nomatch e)
  · rename_i a b
    obtain rfl : v = .int a := rx
    obtain rfl : w = .int b := ry
    refine .inl ⟨rfl, ?_⟩
    have e : decide (V.int a = V.int b) = decide (a = b) := by simp
    rw [e]
    exact P.val S rfl (fun _ _ e => nomatch e)
  · rename_i a b
    obtain rfl : v = .bl a := rx
    obtain rfl : w = .bl b := ry
    refine .inl ⟨rfl, ?_⟩
    have e : decide (V.bl a = V.bl b) = decide (a = b) := by simp
    rw [e]
    exact P.val S rfl (fun _ _ e => nomatch e)
  · split at P
    · rename_i ks xs ks' ys e1 e2
      split at P
      · rename_i hz
        rw [Bool.and_eq_true] at hz
        obtain ⟨e3, e4, e5⟩ := dEq_eq _ _ _ _ hz.1
        subst e3 e4
        obtain ⟨a, vs, rfl, l1, ha, r1⟩ := rep_dct S rx e1
        obtain ⟨b, ws, rfl, l2, hb, r2⟩ := rep_dct S ry e2
        obtain ⟨e6, fl⟩ := reps_int e5 r1 r2
        subst e6
        refine .inr (.inl ⟨a, b, _, _, rfl, rfl, ha, hb, rfl, fun p hp => ⟨valV_zip l1 (of_decide_eq_true hz.2) p hp, fl _ (List.of_mem_zip hp).2⟩, P.val S rfl (fun _ _ e => nomatch e)⟩)
      · exact False.elim P
    · split at P
      · rename_i d e q1 q2
        split at P
        · rename_i hz
          rw [Bool.and_eq_true] at hz
          exact .inr (.inr ⟨d, e, rep_deD S rx q1, rep_deD S ry q2, hz.1, hz.2, P.val S rfl (fun _ _ e => nomatch e)⟩)
        · exact False.elim P
      · exact False.elim P
end
end Vm

namespace Vm
open PySem PySem.Spec L2
section
variable {X : Cx} {W : XD} {fr : Bool}
/-! ### in -/
theorem rep_key {G : Gx} {ρ : List Addr} {H : Hp} {p : PV} {v : V} {k : Key} (h : Rep G ρ H p v) (e : keyP p = some k) : v = kV k := by
  cases p with
  | int i => cases e; exact h
  | str i => cases e; exact h
  | _ => cases e
theorem kLook_rep {G : Gx} {ρ : List Addr} {H : Hp} {k : Key} : ∀ {ks : List Key} {xs : List PV} {vs : List V}, ks.length = vs.length → Reps G ρ H xs vs → (match kLook ks xs k, valV (ks.zip vs) k with
    | some p, some v => Rep G ρ H p v
    | none, none => True
    | _, _ => False)
  | [], xs, vs, _, r => by simp [kLook, valV]
  | k' :: ks, xs, [], h, r => by simp at h
  | k' :: ks, [], v :: vs, h, r => by have : v :: vs = [] := r; cases this
  | k' :: ks, x :: xs, v :: vs, h, r => by
    obtain ⟨v', r', e, h1, h2⟩ := r
    cases e
    unfold kLook
    rw [List.zip_cons_cons]
    by_cases hk : k' = k
    · rw [if_pos hk, valV_pos hk]
      exact h1
    · rw [if_neg hk, valV_neg hk]
      exact kLook_rep (by simpa using h) h2
theorem kLook_some {G : Gx} {ρ : List Addr} {H : Hp} {k : Key} {ks : List Key} {xs : List PV} {vs : List V} (hl : ks.length = vs.length) (r : Reps G ρ H xs vs) : (kLook ks xs k).isSome = (valV (ks.zip vs) k).isSome := by
  have h := kLook_rep (k := k) hl r
  cases e1 : kLook ks xs k <;> cases e2 : valV (ks.zip vs) k <;> rw [e1, e2] at h <;> first | rfl | exact False.elim h
theorem op_in_dict (hu : X.A.units + 1 < cLine) : OpR X (compareOp .In) (fun x y H Q => ∃ a o, y = .ref a ∧ DGet H a x o ∧ Q (.bl o.isSome) H) := by
  intro pins s σ H x y v u Q I rx ry h
  obtain ⟨a, o, rfl, g, q⟩ := h
  obtain rfl : u = Value.ref a := ry
  exact d_in hu I g rx fun s' I' => ⟨.bl _, H, I', rfl, q⟩
theorem op_notin_dict (hu : X.A.units + 1 < cLine) : OpR X (compareOp .NotIn) (fun x y H Q => ∃ a o, y = .ref a ∧ DGet H a x o ∧ Q (.bl (!o.isSome)) H) := by
  intro pins s σ H x y v u Q I rx ry h
  obtain ⟨a, o, rfl, g, q⟩ := h
  obtain rfl : u = Value.ref a := ry
  exact d_notIn hu I g rx fun s' I' => ⟨.bl _, H, I', rfl, q⟩
def rIn3 (P : Program) (w : World) (K : PySem.W.Frag) (neg : Bool) : R2 := fun x y H Q => (∃ a o, y = .ref a ∧ DGet H a x o ∧ Q (.bl (if neg then !o.isSome else o.isSome)) H) ∨ rIn K neg x y H Q ∨ rSInX P w neg x y H Q
theorem op_in3 (hu : X.A.units + 64 < cLine) : OpR X (compareOp .In) (rIn3 X.prog X.w X.K false) := OpR.or (op_in_dict (by omega)) (OpR.or op_in_seq or_sinX)
theorem op_notin3 (hu : X.A.units + 64 < cLine) : OpR X (compareOp .NotIn) (rIn3 X.prog X.w X.K true) := OpR.or (op_notin_dict (by omega)) (OpR.or op_notIn_seq or_sninX)
theorem rep_flat {G : Gx} {ρ : List Addr} {H : Hp} {p : PV} {v : V} (h : Rep G ρ H p v) (f : flatP p = true) : flatV v = true := by
  cases p with
  | non => obtain rfl : v = _ := h; rfl
  | bl _ => obtain rfl : v = _ := h; rfl
  | int _ => obtain rfl : v = _ := h; rfl
  | str _ => obtain rfl : v = _ := h; rfl
  | _ => cases f
theorem rep_eqP {G : Gx} {ρ : List Addr} {H : Hp} {p q : PV} {v w : V} (h : Rep G ρ H p v) (k : Rep G ρ H q w) (f : flatP p = true) (g : flatP q = true) : eqV v w = eqP p q := by
  cases p with
  | non => obtain rfl : v = _ := h; cases q <;> first | (obtain rfl : w = _ := k; rfl) | cases g
  | bl _ => obtain rfl : v = _ := h; cases q <;> first | (obtain rfl : w = _ := k; rfl) | cases g
  | int _ => obtain rfl : v = _ := h; cases q <;> first | (obtain rfl : w = _ := k; rfl) | cases g
  | str _ => obtain rfl : v = _ := h; cases q <;> first | (obtain rfl : w = _ := k; rfl) | cases g
  | _ => cases f
theorem reps_in {G : Gx} {ρ : List Addr} {H : Hp} {x : PV} {v : V} (h : Rep G ρ H x v) (f : flatP x = true) : ∀ {xs : List PV} {vs : List V}, Reps G ρ H xs vs → xs.all flatP = true → vs.all flatV = true ∧ inV v vs = inP x xs
  | [], vs, r, _ => by rw [show vs = [] from r]; exact ⟨rfl, rfl⟩
  | y :: xs, vs, r, g => by
    obtain ⟨w, q, rfl, h1, h2⟩ := r
    rw [List.all_cons, Bool.and_eq_true] at g
    obtain ⟨i1, i2⟩ := reps_in h f h2 g.2
    refine ⟨by rw [List.all_cons, rep_flat h1 g.1, i1]; rfl, ?_⟩
    have e1 : inV v (w :: q) = (eqV w v || inV v q) := rfl
    have e2 : inP x (y :: xs) = (eqP y x || inP x xs) := rfl
    rw [e1, e2, i2, rep_eqP h1 h g.1 f]
theorem os_in {neg : Bool} : OpSem X W true (rIn3 X.prog X.w X.K neg) (vIn neg) := by
  intro hid ρ st H x y v w Q S rx ry P
  unfold vIn at P
  split at P
  · rename_i xs e
    split at P
    · rename_i z
      obtain ⟨a, rfl, ha⟩ := rep_set S ry e
      refine .inr (.inr ⟨z, a, xs, rx, rfl, ha, ?_⟩)
      exact P.val S rfl (fun _ _ e => nomatch e)
    · exact False.elim P
  · rename_i ks ys e
    split at P
    · rename_i k ek
      obtain ⟨a, vs, rfl, l, ha, r⟩ := rep_dct S ry e
      refine .inl ⟨a, _, rfl, by rw [rep_key rx ek]; exact DGet.k ha, ?_⟩
      rw [← kLook_some l r]
      exact P.val S rfl (fun _ _ e => nomatch e)
    · exact False.elim P
  · rename_i xs e
    split at P
    · rename_i hz
      rw [Bool.and_eq_true] at hz
      obtain ⟨a, vs, rfl, ha, r⟩ := rep_lst S ry e
      obtain ⟨f1, f2⟩ := reps_in rx hz.1 r hz.2
      refine .inr (.inl ⟨a, vs, rfl, .inl (SqL.of ha), rep_flat rx hz.1, f1, ?_⟩)
      rw [f2]
      exact P.val S rfl (fun _ _ e => nomatch e)
    · exact False.elim P
  · rename_i xs e
    split at P
    · rename_i hz
      rw [Bool.and_eq_true] at hz
      obtain ⟨a, vs, rfl, ha, r⟩ := rep_tup S ry e
      obtain ⟨f1, f2⟩ := reps_in rx hz.1 r hz.2
      refine .inr (.inl ⟨a, vs, rfl, .inr ha, rep_flat rx hz.1, f1, ?_⟩)
      rw [f2]
      exact P.val S rfl (fun _ _ e => nomatch e)
    · exact False.elim P
  · exact False.elim P

/-! ### subscripts -/
def rIxD : R2 := fun x y H Q => ∃ a v, x = .ref a ∧ DGet H a y (some v) ∧ Q v H
theorem ix_dict (hu : X.A.units + 1 < cLine) : IxR X rIxD := by
  intro value slice pins s σ H x y v u Q I rx ry h hs
  obtain ⟨a, w, rfl, g, q⟩ := h
  obtain rfl : v = Value.ref a := rx
  have hT := dict_typeIs I g
  unfold PyProof.Rows.subscriptTail
  refine wpAny_bind ?_
  rw [getitemInPython_of_ne hT.not_modules]
  refine wpAny_bind (wpAny_specialOf hT PySem.F.slot_dict_getitem.lookup ?_)
  have fin : wpAny (model X.prog X.w) X.A (subscripted slice false (.ref a) u) (fun r s₃ => wpAny (model X.prog X.w) X.A (letTemporaryGo value (.ref a) r >>= fun _ => pure r) (EP X pins σ Q) X.xe s₃) X.xe s := by
    rw [hs]
    exact wpAny_operating (d_getItem hu I g ry fun w' s3 I3 rw' => wpAny_bind (wpAny_letTemporaryGo (wpAny_pure ⟨w, H, I3, rw', q⟩)))
  first
    | exact wpAny_pure (wpAny_bind fin)
    | exact wpAny_bind (wpAny_pure (wpAny_bind fin))
    | exact wpAny_bind fin
def rIx4 (K : PySem.W.Frag) : R2 := fun x y H Q => rIxD x y H Q ∨ rIx K x y H Q
theorem ix_4 (hu : X.A.units + 64 < cLine) : IxR X (rIx4 X.K) := IxR.or (ix_dict (by omega)) ix_seq
theorem reps_at {G : Gx} {ρ : List Addr} {H : Hp} {xs : List PV} {vs : List V} {i : Int} {p : PV} (r : Reps G ρ H xs vs) (e : atI xs i = some p) : ∃ v, atI vs i = some v ∧ Rep G ρ H p v := by
  unfold atI at e ⊢
  rw [r.length]
  obtain ⟨j, e1, e2⟩ := Option.bind_eq_some_iff.mp e
  obtain ⟨v, e3, e4⟩ := r.get e2
  exact ⟨v, Option.bind_eq_some_iff.mpr ⟨j, e1, e3⟩, e4⟩
theorem atI_map {α β : Type} (g : α → β) (xs : List α) (i : Int) : atI (xs.map g) i = (atI xs i).map g := by
  unfold atI
  rw [List.length_map]
  cases ixN xs.length i <;> simp
theorem os_ix : OpSem X W false (rIx4 X.K) vIx := by
  intro hid ρ st H x y v w Q S rx ry P
  unfold vIx at P
  split at P
  · rename_i xs i e
    obtain ⟨a, vs, rfl, ha, r⟩ := rep_lst S rx e
    cases e2 : atI xs i with
    | none => rw [e2] at P; exact False.elim P
    | some p =>
      rw [e2] at P
      obtain ⟨v, e3, r3⟩ := reps_at r e2
      exact .inr (.inl ⟨a, vs, i, v, rfl, ry, SqL.of ha, e3, P.val S r3 (fun z => nomatch z)⟩)
  · rename_i xs i e
    obtain ⟨a, vs, rfl, ha, r⟩ := rep_tup S rx e
    cases e2 : atI xs i with
    | none => rw [e2] at P; exact False.elim P
    | some p =>
      rw [e2] at P
      obtain ⟨v, e3, r3⟩ := reps_at r e2
      exact .inr (.inr (.inl ⟨a, vs, i, v, rfl, ry, ha, e3, P.val S r3 (fun z => nomatch z)⟩))
  · rename_i ns i e
    obtain ⟨a, rfl, ha⟩ := rep_scr S rx e
    cases e2 : atI ns i with
    | none => rw [e2] at P; exact False.elim P
    | some p =>
      rw [e2] at P
      exact .inr (.inl ⟨a, _, i, .int p, rfl, ry, ha, by rw [atI_map, e2]; rfl, P.val S rfl (fun z => nomatch z)⟩)
  · rename_i z i e
    have hx : x = .str z ∧ v = .str z := by
      rcases rep_deref S rx with ⟨n, a, rfl, rfl, o⟩ | ⟨_, z'⟩
      · rw [e] at o; exact False.elim o
      · rw [z'] at e; subst e; exact ⟨rfl, rx⟩
    split at P
    · rename_i hz
      cases e2 : atI z.cps.toList i with
      | none => rw [e2] at P; exact False.elim P
      | some c =>
        rw [e2] at P
        exact .inr (.inr (.inr ⟨z, i, c, hx.2, ry, sz _ hz, e2, P.val S rfl (fun z => nomatch z)⟩))
    · exact False.elim P
  · rename_i ks xs e
    split at P
    · rename_i k ek
      obtain ⟨a, vs, rfl, l, ha, r⟩ := rep_dct S rx e
      have h := kLook_rep (k := k) l r
      cases e1 : kLook ks xs k with
      | none => rw [e1] at P; exact False.elim P
      | some p =>
        rw [e1] at P h
        cases e2 : valV (ks.zip vs) k with
        | none => rw [e2] at h; exact False.elim h
        | some v' =>
          rw [e2] at h
          refine .inl ⟨a, v', rfl, ?_, P.val S h (fun z => nomatch z)⟩
          rw [rep_key ry ek, ← e2]
          exact DGet.k ha
    · exact False.elim P
  · exact False.elim P

/-! ### len, list, tuple, isinstance, int -/
def vLen (xs : List PV) (st : VSt) : Res PV := match xs with
  | [p] => match deref st p with
    | .lst xs => .ok (.int xs.length) st
    | .tup xs => .ok (.int xs.length) st
    | .scr ns => .ok (.int ns.length) st
    | .dct ks _ => .ok (.int ks.length) st
    | .str z => if z.length ≤ 1000000 then .ok (.int z.length) st else .bad
    | _ => .bad
  | _ => .bad
def rLen2 (K : PySem.W.Frag) : List V → Hp → VK → Prop := fun xs H Q => (∃ p ys, xs = [.ref p] ∧ (SqL K H p ys ∨ SqT K H p ys) ∧ Q (.int ys.length) H) ∨ (∃ z, xs = [.str z] ∧ z.length ≤ sizeLine ∧ Q (.int z.length) H) ∨ (∃ a kvs, xs = [V.ref a] ∧ H a = some (.dK kvs) ∧ Q (.int kvs.length) H)
theorem call_len2 : CallR X (.builtin "len") (rLen2 X.K) := CallR.or call_len_seq (CallR.or call_len_str call_lenD)
theorem reps1 {G : Gx} {ρ : List Addr} {H : Hp} {p : PV} {vs : List V} (r : Reps G ρ H [p] vs) : ∃ v, vs = [v] ∧ Rep G ρ H p v := by
  obtain ⟨v, q, rfl, h, e⟩ := r
  obtain rfl : q = [] := e
  exact ⟨v, rfl, h⟩
theorem reps2 {G : Gx} {ρ : List Addr} {H : Hp} {p p2 : PV} {vs : List V} (r : Reps G ρ H [p, p2] vs) : ∃ v w, vs = [v, w] ∧ Rep G ρ H p v ∧ Rep G ρ H p2 w := by
  obtain ⟨v, q, rfl, h, e⟩ := r
  obtain ⟨w, rfl, h2⟩ := reps1 e
  exact ⟨v, w, rfl, h, h2⟩
theorem rep_str {G : Gx} {ρ : List Addr} {st : VSt} {H : Hp} {x : PV} {v : V} {z : Str} (S : SRel G ρ st H) (rx : Rep G ρ H x v) (e : deref st x = .str z) : v = .str z := by
  rcases rep_deref S rx with ⟨n, a, rfl, rfl, o⟩ | ⟨_, z'⟩
  · rw [e] at o; exact False.elim o
  · rw [z'] at e; subst e; exact rx
theorem cs_len : CallSem X W true (rLen2 X.K) vLen := by
  intro hid ρ st H xs vs Q S r P
  unfold vLen at P
  split at P
  · rename_i p
    obtain ⟨v, rfl, rp⟩ := reps1 r
    split at P
    · rename_i xs e
      obtain ⟨a, ws, rfl, ha, r1⟩ := rep_lst S rp e
      exact .inl ⟨a, ws, rfl, .inl (SqL.of ha), by rw [r1.length]; exact P.val S rfl (fun _ _ e => nomatch e)⟩
    · rename_i xs e
      obtain ⟨a, ws, rfl, ha, r1⟩ := rep_tup S rp e
      exact .inl ⟨a, ws, rfl, .inr ha, by rw [r1.length]; exact P.val S rfl (fun _ _ e => nomatch e)⟩
    · rename_i ns e
      obtain ⟨a, rfl, ha⟩ := rep_scr S rp e
      exact .inl ⟨a, _, rfl, .inl ha, by rw [List.length_map]; exact P.val S rfl (fun _ _ e => nomatch e)⟩
    · rename_i ks ys e
      obtain ⟨a, ws, rfl, hl, ha, r1⟩ := rep_dct S rp e
      exact .inr (.inr ⟨a, _, rfl, ha, by rw [List.length_zip, ← hl, Nat.min_self]; exact P.val S rfl (fun _ _ e => nomatch e)⟩)
    · rename_i z e
      obtain rfl := rep_str S rp e
      split at P
      · rename_i hz
        exact .inr <| .inl ⟨z, rfl, sz _ hz, P.val S rfl (fun _ _ e => nomatch e)⟩
      · exact False.elim P
    · exact False.elim P
  · exact False.elim P
/-- list(x) of a list or tuple -/
def vList (xs : List PV) (st : VSt) : Res PV := match xs with
  | [p] => match seqOf st p with
    | some xs => .ok (.lst xs) st
    | none => .bad
  | _ => .bad
theorem rep_seq {G : Gx} {ρ : List Addr} {st : VSt} {H : Hp} {p : PV} {v : V} {xs : List PV} (S : SRel G ρ st H) (r : Rep G ρ H p v) (e : seqOf st p = some xs) : ∃ a vs, v = .ref a ∧ (SqL G.K H a vs ∨ SqT G.K H a vs) ∧ Reps G ρ H xs vs := by
  unfold seqOf at e
  split at e
  · rename_i ys e2
    cases e
    obtain ⟨a, vs, h1, h2, h3⟩ := rep_lst S r e2
    exact ⟨a, vs, h1, .inl (SqL.of h2), h3⟩
  · rename_i ys e2
    cases e
    obtain ⟨a, vs, h1, h2, h3⟩ := rep_tup S r e2
    exact ⟨a, vs, h1, .inr h2, h3⟩
  · cases e
theorem cs_list : CallSem X W true (fun xs H Q => ∃ p ys, xs = [.ref p] ∧ (SqL X.K H p ys ∨ SqT X.K H p ys) ∧ ∀ l, H l = none → Q (.ref l) (upd H l (.lst ys))) vList := by
  intro hid ρ st H xs vs Q S r P
  unfold vList at P
  split at P
  · rename_i p
    obtain ⟨v, rfl, rp⟩ := reps1 r
    split at P
    · rename_i xs e
      obtain ⟨a, ws, rfl, ha, r1⟩ := rep_seq S rp e
      exact ⟨a, ws, rfl, ha, fun l hl => P.give S hl hl (new_lst S r1 hl)⟩
    · exact False.elim P
  · exact False.elim P
def vTuple (xs : List PV) (st : VSt) : Res PV := match xs with
  | [p] => match seqOf st p with
    | some xs => .ok (.tup xs) st
    | none => .bad
  | _ => .bad
theorem cs_tuple : CallSem X W false (fun xs H Q => ∃ p ys, xs = [.ref p] ∧ ((SqL X.K H p ys ∧ ∀ l, H l = none → Q (.ref l) (upd H l (.tup ys))) ∨ (SqT X.K H p ys ∧ Q (.ref p) H))) vTuple := by
  intro hid ρ st H xs vs Q S r P
  unfold vTuple at P
  split at P
  · rename_i p
    obtain ⟨v, rfl, rp⟩ := reps1 r
    split at P
    · rename_i xs e
      obtain ⟨a, ws, rfl, ha, r1⟩ := rep_seq S rp e
      rcases ha with ha | ha
      · exact ⟨a, ws, rfl, .inl ⟨ha, fun l hl => P.give S hl hl (new_tup r1 hl)⟩⟩
      · exact ⟨a, ws, rfl, .inr ⟨ha, P.val S ⟨a, ws, rfl, ha, r1⟩ (fun z => nomatch z)⟩⟩
    · exact False.elim P
  · exact False.elim P
/-- the built-in type of a value -/
def tyP (st : VSt) (p : PV) : Option String := match deref st p with
  | .non => some "NoneType" | .bl _ => some "bool" | .int _ => some "int" | .str _ => some "str"
  | .tup _ => some "tuple" | .lst _ => some "list" | .dct _ _ => some "dict"
  | _ => none
def isaT (T : String) : String → Option Bool := fun t => kitB t T
def vIsa (T : String) (xs : List PV) (st : VSt) : Res PV := match xs with
  | [p] => match (tyP st p).bind (isaT T) with
    | some b => .ok (.bl b) st
    | none => .bad
  | _ => .bad
theorem rep_ty {G : Gx} {ρ : List Addr} {st : VSt} {H : Hp} {p : PV} {v : V} {t : String} (S : SRel G ρ st H) (r : Rep G ρ H p v) (e : tyP st p = some t) : TyX G.K H v (.type t) := by
  unfold tyP at e
  have val : ∀ {q}, deref st p = q → (∀ a, ¬ ObjR G ρ H q a) → Rep G ρ H q v := fun {q} e no => by
    rcases rep_deref S r with ⟨n, a, rfl, rfl, o⟩ | ⟨_, z'⟩
    · rw [e] at o; exact absurd o (no a)
    · rw [z'] at e; subst e; exact r
  split at e
  · rename_i e2
    cases e
    obtain rfl : v = .non := val e2 fun _ z => z
    exact .base .non
  · rename_i b e2
    cases e
    obtain rfl : v = .bl b := val e2 fun _ z => z
    exact .base (.bl _)
  · rename_i b e2
    cases e
    obtain rfl : v = .int b := val e2 fun _ z => z
    exact .base (.int _)
  · rename_i b e2
    cases e
    obtain rfl : v = .str b := val e2 fun _ z => z
    exact .base (.str _)
  · rename_i xs e2
    cases e
    obtain ⟨a, vs, rfl, h, _⟩ := rep_tup S r e2
    rcases h with (h | ⟨o, h⟩) | ⟨o, its, n, h1, h2, _⟩
    · exact .base (.tup h)
    · exact .fTuple h
    · exact .kTuple h1 h2
  · rename_i xs e2
    cases e
    obtain ⟨a, vs, rfl, h, _⟩ := rep_lst S r e2
    exact .base (.lst h)
  · rename_i ks xs e2
    cases e
    obtain ⟨a, vs, rfl, _, h, _⟩ := rep_dct S r e2
    exact .base (.dK h)
  · cases e
/-- isinstance(x, T) -/
theorem ev_isa {a : Expr} {ma : EM} {fa : Bool} {T : Str} {T' : String} {p p2 pos : Pos} (ha : Ev X W fa a ma) (hm : X.mg "isinstance" = none) (hT : X.mg T = none) (hv : bootBuiltins T = some (.type T')) (hg : Gl X "isinstance" := by rfl) (hgT : Gl X T := by rfl)
    (hn : T ≠ "__name__" := by decide) (hd : (T == ("__debug__" : Str)) = false := by decide)
    (hs : starEach (a :: [.Name T p2]) X.env = (false, eval a X.env) :: starEach [.Name T p2] X.env := by rfl) (hs2 : starEach (.Name T p2 :: []) X.env = (false, eval (.Name T p2) X.env) :: starEach [] X.env := by rfl)
    (hpl : (backTo pos (starEach [.Name T p2] X.env)).any (·.1) = false := by rfl) :
    Ev X W true (.Call (.Name "isinstance" p) [a, .Name T p2] [] pos) (eApp (vIsa T') (aCons ma aNil)) := by
  refine PE.anti (pe_callB call_isi hg hm PyProof.Rows.boot_isinstance (pa_cons ha (pa_cons (pe_bltn (v := .ty T') hgT hT hv rfl hn hd) pa_nil hs2) hs) (by decide) (by decide) hs hpl) fun σ H Q ⟨hid, ρ, env, st, R, P⟩ => ?_
  have e : eApp (vIsa T') (aCons ma aNil) env st = (ma env st).bind fun x s1 => vIsa T' [x] s1 := by
    unfold eApp aCons aNil
    cases ma env st <;> rfl
  rw [e] at P
  refine cE_use R P fun ρ1 st1 H1 x v l R1 rx _ P1 => ?_
  show ∃ _ _ _ _ _, _
  replace P1 : Post (gx X W hid) ρ1 H1 (match (tyP st1 x).bind (isaT T') with
    | some b => .ok (.bl b) st1
    | none => .bad) (kE (gx X W hid) H true Q) := P1
  split at P1
  · rename_i b eb
    obtain ⟨t, h1, h2⟩ := Option.bind_eq_some_iff.mp eb
    exact ⟨v, .ty T', .type t, .type T', b, rfl, .ty T', rep_ty R1.s rx h1, kit_ty h2, P1.val R1.s rfl (fun _ _ e => nomatch e)⟩
  · exact False.elim P1
def vInt (xs : List PV) (st : VSt) : Res PV := match xs with
  | [.int i] => .ok (.int i) st
  | [.bl k] => .ok (.int (if k then 1 else 0)) st
  | _ => .bad
theorem cs_int : CallSem X W true (fun xs H Q => (∃ i, xs = [.int i] ∧ Q (.int i) H) ∨ ∃ k, xs = [.bl k] ∧ Q (.int (if k then 1 else 0)) H) vInt := by
  intro hid ρ st H xs vs Q S r P
  unfold vInt at P
  split at P
  · obtain ⟨v, rfl, rp⟩ := reps1 r
    rename_i i
    obtain rfl : v = .int i := rp
    exact .inl ⟨i, rfl, P.val S rfl (fun _ _ e => nomatch e)⟩
  · obtain ⟨v, rfl, rp⟩ := reps1 r
    rename_i i
    obtain rfl : v = .bl i := rp
    exact .inr ⟨i, rfl, P.val S rfl (fun _ _ e => nomatch e)⟩
  · exact False.elim P
def vMax (xs : List PV) (st : VSt) : Res PV := match xs with
  | [.int i, .int j] => .ok (.int (if j > i then j else i)) st
  | _ => .bad
theorem cs_max : CallSem X W true (fun xs H Q => ∃ i j, xs = [.int i, .int j] ∧ Q (.int (if j > i then j else i)) H) vMax := by
  intro hid ρ st H xs vs Q S r P
  unfold vMax at P
  split at P
  · rename_i i j
    obtain ⟨v, w, rfl, rp, rq⟩ := reps2 r
    exact ⟨i, j, by rw [show v = _ from rp, show w = _ from rq], P.val S rfl (fun _ _ e => nomatch e)⟩
  · exact False.elim P
def vMin (xs : List PV) (st : VSt) : Res PV := match xs with
  | [.int i, .int j] => .ok (.int (if j < i then j else i)) st
  | _ => .bad
theorem cs_min : CallSem X W true (fun xs H Q => ∃ i j, xs = [.int i, .int j] ∧ Q (.int (if j < i then j else i)) H) vMin := by
  intro hid ρ st H xs vs Q S r P
  unfold vMin at P
  split at P
  · rename_i i j
    obtain ⟨v, w, rfl, rp, rq⟩ := reps2 r
    exact ⟨i, j, by rw [show v = _ from rp, show w = _ from rq], P.val S rfl (fun _ _ e => nomatch e)⟩
  · exact False.elim P
/-- any(xs) of bools -/
def bools : List PV → Option (List Bool)
  | [] => some []
  | .bl b :: r => (bools r).map (b :: ·)
  | _ => none
def vAny (xs : List PV) (st : VSt) : Res PV := match xs with
  | [p] => match deref st p with
    | .lst xs => match bools xs with
      | some bs => .ok (.bl (bs.any id)) st
      | none => .bad
    | _ => .bad
  | _ => .bad
theorem reps_bools {G : Gx} {ρ : List Addr} {H : Hp} : ∀ {xs : List PV} {vs : List V} {bs : List Bool}, Reps G ρ H xs vs → bools xs = some bs → vs = bs.map V.bl
  | [], vs, bs, r, e => by cases e; exact r
  | .bl b :: xs, vs, bs, r, e => by
    unfold bools at e
    obtain ⟨v, q, rfl, h1, h2⟩ := r
    cases e2 : bools xs with
    | none => rw [e2] at e; cases e
    | some cs =>
      rw [e2] at e
      cases e
      rw [reps_bools h2 e2, show v = .bl b from h1]; rfl
  | .non :: xs, _, _, _, e => by cases e
  | .int _ :: xs, _, _, _, e => by cases e
  | .str _ :: xs, _, _, _, e => by cases e
  | .tup _ :: xs, _, _, _, e => by cases e
  | .lst _ :: xs, _, _, _, e => by cases e
  | .dct _ _ :: xs, _, _, _, e => by cases e
  | .sset _ :: xs, _, _, _, e => by cases e
  | .scr _ :: xs, _, _, _, e => by cases e
  | .loc _ :: xs, _, _, _, e => by cases e
  | .raw _ :: xs, _, _, _, e => by cases e
theorem cs_any : CallSem X W true (rAny X.K) vAny := by
  intro hid ρ st H xs vs Q S r P
  unfold vAny at P
  split at P
  · rename_i p
    obtain ⟨v, rfl, rp⟩ := reps1 r
    split at P
    · rename_i xs e
      obtain ⟨a, ws, rfl, ha, r1⟩ := rep_lst S rp e
      split at P
      · rename_i bs e2
        exact ⟨a, bs, rfl, by rw [← reps_bools r1 e2]; exact SqL.of ha, P.val S rfl (fun _ _ e => nomatch e)⟩
      · exact False.elim P
    · exact False.elim P
  · exact False.elim P
/-- dict(d) -/
def vDictOf (xs : List PV) (st : VSt) : Res PV := match xs with
  | [p] => match deref st p with
    | .dct ks xs => .ok (.dct ks xs) st
    | _ => .bad
  | _ => .bad
theorem call_dictC : CallR X (.type "dict") (fun xs H Q => ∃ a kvs, xs = [.ref a] ∧ Rd H a (.dK kvs) ∧ ∀ p, H p = none → Q (.ref p) (upd H p (.dK kvs))) := by
  intro pins s σ H xs us Q I r h
  obtain ⟨a, kvs, rfl, e, q⟩ := h
  obtain ⟨u, rfl, rr⟩ := vals1 r
  obtain rfl : u = Value.ref a := rr
  exact d_copyOf I e fun p s' hp I' => ⟨.ref p, _, I', rfl, q p hp⟩
theorem new_dct {G : Gx} {ρ : List Addr} {st : VSt} {H : Hp} {ks : List Key} {xs : List PV} {vs : List V} {p : Addr} (s : SRel G ρ st H) (l : ks.length = vs.length) (r : Reps G ρ H xs vs) (hp : H p = none) : Rep G ρ (upd H p (.dK (ks.zip vs))) (.dct ks xs) (.ref p) :=
  ⟨p, vs, rfl, s.fresh hp, s.freshH hp, l, upd_same, Reps.later (.new hp) _ _ r⟩
theorem cs_dictC : CallSem X W true (fun xs H Q => ∃ a kvs, xs = [.ref a] ∧ Rd H a (.dK kvs) ∧ ∀ p, H p = none → Q (.ref p) (upd H p (.dK kvs))) vDictOf := by
  intro hid ρ st H xs vs Q S r P
  unfold vDictOf at P
  split at P
  · rename_i p
    obtain ⟨v, rfl, rp⟩ := reps1 r
    split at P
    · rename_i ks xs e
      obtain ⟨a, ws, rfl, l, ha, r1⟩ := rep_dct S rp e
      exact ⟨a, _, rfl, .inl ha, fun l' hl => P.give S hl hl (new_dct S l r1 hl)⟩
    · exact False.elim P
  · exact False.elim P
end
end Vm

namespace Vm
open PySem PySem.Spec L2

/-! ## slices -/
abbrev OM := VEnv → VSt → Res (Option Int)
def oNone : OM := fun _ st => .ok none st
def oSome (a : EM) : OM := fun env st => (a env st).bind fun p s => match p with
  | .int i => .ok (some i) s
  | _ => .bad
def kO (Q : Option Int → Hp → Prop) : KF (Option Int) := fun _ _ H' o => Q o H'
def cO (X : Cx) (W : XD) (m : OM) : TO := fun σ H Q => ∃ hid ρ env st, Rel (gx X W hid) ρ env st σ H ∧ Post (gx X W hid) ρ H (m env st) (kO Q)
def EvO (X : Cx) (W : XD) (e : Option Expr) (m : OM) : Prop := PO X e (cO X W m)
theorem PO.anti {X : Cx} {e : Option Expr} {t u : TO} (h : PO X e t) (k : ∀ σ H Q, u σ H Q → t σ H Q) : PO X e u := ⟨fun pins s σ H Q I w => h.run pins s σ H Q I (k σ H Q w)⟩
def cutP (xs : List PV) (lo hi : Option Int) : List PV := (xs.drop (HT.sIx xs.length 0 lo)).take (HT.sIx xs.length xs.length hi - HT.sIx xs.length 0 lo)
def vSl (x : PV) (lo hi : Option Int) (st : VSt) : Res PV := match deref st x with
  | .lst xs => .ok (.lst (cutP xs lo hi)) st
  | .tup xs => .ok (.tup (cutP xs lo hi)) st
  | .str z => if z.length ≤ 1000000 then .ok (.str (cutS z lo hi)) st else .bad
  | _ => .bad
def eSl (a : EM) (lo hi : OM) : EM := fun env st => (a env st).bind fun x s1 => (lo env s1).bind fun l s2 => (hi env s2).bind fun h s3 => vSl x l h s3
section
variable {X : Cx} {W : XD} {fr fa fb : Bool} {a b e : Expr} {ma mb me : EM} {pos p2 : Pos}
theorem evo_none : EvO X W none oNone := PO.anti po_none fun σ H Q ⟨hid, ρ, env, st, R, P⟩ => P.now R.s
theorem evo_some (h : Ev X W fa a ma) : EvO X W (some a) (oSome ma) := PO.anti (po_some h) fun σ H Q ⟨hid, ρ, env, st, R, P⟩ => cE_use R P fun ρ1 st1 H1 p v l R1 rp _ P1 => by
  cases p with
  | int i => exact ⟨i, rp, P1.now R1.s⟩
  | _ => exact False.elim P1
theorem cO_use {hid ρ : List Addr} {env : VEnv} {st : VSt} {σ : L2.St} {H : Hp} {m : OM} {β : Type} {k : Option Int → VSt → Res β} {K : KF β} {Q : Option Int → Hp → Prop} (R : Rel (gx X W hid) ρ env st σ H) (P : Post (gx X W hid) ρ H ((m env st).bind k) K)
    (q : ∀ ρ1 st1 H1 o, Later ρ H ρ1 H1 → Rel (gx X W hid) ρ1 env st1 σ H1 → Post (gx X W hid) ρ1 H1 (k o st1) K → Q o H1) : cO X W m σ H Q :=
  ⟨hid, ρ, env, st, R, P.bind.imp fun ρ1 st1 H1 o l s kk => q ρ1 st1 H1 o l (R.later l s) kk⟩
def rSl3 (K : PySem.W.Frag) : V → Option Int → Option Int → Hp → VK → Prop := fun x lo hi H Q => rSlL K x lo hi H Q ∨ rSlA K x lo hi H Q ∨ rSlS x lo hi H Q
theorem sl_3 : SlR X (rSl3 X.K) := SlR.or sl_list (SlR.or sl_tupA sl_str)
theorem reps_cut {G : Gx} {ρ : List Addr} {H : Hp} {xs : List PV} {vs : List V} {lo hi : Option Int} (r : Reps G ρ H xs vs) : Reps G ρ H (cutP xs lo hi) (cutV vs lo hi) := by
  unfold cutP cutV
  rw [r.length]
  exact (r.drop _).take _
theorem cutV_whole {xs : List V} {lo hi : Option Int} (h1 : HT.sIx xs.length 0 lo = 0) (h2 : HT.sIx xs.length xs.length hi = xs.length) : cutV xs lo hi = xs := by
  unfold cutV
  rw [h1, h2]
  simp
theorem ev_sl {lo hi : Option Expr} {ml mh : OM} (ha : Ev X W fa a ma) (hl : EvO X W lo ml) (hh : EvO X W hi mh) : Ev X W false (.Subscript a (.Slice lo hi none p2) pos) (eSl ma ml mh) :=
  PE.anti (pe_slice sl_3 ha hl hh) fun σ H Q ⟨hid, ρ, env, st, R, P⟩ => cE_use R P fun ρ1 st1 H1 x v l1 R1 rx _ P1 => cO_use R1 P1 fun ρ2 st2 H2 lo l2 R2 P2 => cO_use R2 P2 fun ρ3 st3 H3 hi l3 R3 P3 => by
    have S := R3.s
    have rx := Rep.later (l2.trans l3) _ _ rx
    unfold vSl at P3
    split at P3
    · rename_i xs e
      obtain ⟨a, vs, rfl, ha, r⟩ := rep_lst S rx e
      exact .inl ⟨a, vs, rfl, SqL.of ha, fun p hp => P3.give S hp (((l1.trans l2).trans l3).back hp) (new_lst S (reps_cut r) hp)⟩
    · rename_i xs e
      obtain ⟨a, vs, rfl, ha, r⟩ := rep_tup S rx e
      refine .inr (.inl ⟨a, vs, rfl, ha, fun hw => ?_, fun hw p hp => ?_⟩)
      · refine P3.val S ⟨a, vs, rfl, ha, ?_⟩ (fun z => nomatch z)
        have := reps_cut (lo := lo) (hi := hi) r
        rw [cutV_whole hw.1 hw.2] at this
        exact this
      · exact P3.give S hp (((l1.trans l2).trans l3).back hp) (new_tup (reps_cut r) hp)
    · rename_i z e
      obtain rfl := rep_str S rx e
      split at P3
      · rename_i hz
        exact .inr (.inr ⟨z, rfl, sz _ hz, P3.val S rfl (fun z => nomatch z)⟩)
      · exact False.elim P3
    · exact False.elim P3

/-! ## d.get(k, x) -/
def vGet (d k x : PV) (st : VSt) : Res PV := match deref st d with
  | .dct ks xs => match keyP k with
    | some k => .ok ((kLook ks xs k).getD x) st
    | none => .bad
  | _ => .bad
def isDct (st : VSt) (p : PV) : Bool := match deref st p with
  | .dct _ _ => true
  | _ => false
def eGet (d k x : EM) : EM := fun env st => (d env st).bind fun d s1 => if isDct s1 d = true then (k env s1).bind fun k s2 => (x env s2).bind fun x s3 => vGet d k x s3 else .bad
theorem ev_get {d k x : Expr} {md mk mx : EM} {fd fk fx : Bool} {apos cpos : Pos} (hu : X.A.units + 64 < cLine) (hd : Ev X W fd d md) (hk : Ev X W fk k mk) (hx : Ev X W fx x mx) (m : M2 X d "get" apos k x cpos := by exact ⟨rfl, rfl, rfl, rfl⟩) :
    Ev X W false (.Call (.Attribute d "get" apos) [k, x] [] cpos) (eGet md mk mx) :=
  PE.anti (pe_dget2 (by omega) hd hk hx m) fun σ H Q ⟨hid, ρ, env, st, R, P⟩ => cE_use R P fun ρ1 st1 H1 d v l1 R1 rd _ P1 => by
    split at P1
    · rename_i hz
      have hd1 : ∃ ks xs, deref st1 d = .dct ks xs := by
        unfold isDct at hz
        split at hz
        · rename_i ks xs e; exact ⟨ks, xs, e⟩
        · cases hz
      obtain ⟨ks, xs, e1⟩ := hd1
      obtain ⟨a, vs, rfl, l, ha, r⟩ := rep_dct R1.s rd e1
      refine ⟨a, rfl, .inl ⟨_, .inl ha⟩, cE_use R1 P1 fun ρ2 st2 H2 k w l2 R2 rk _ P2 => cE_use R2 P2 fun ρ3 st3 H3 x u l3 R3 rx _ P3 => ?_⟩
      have S := R3.s
      have rd := Rep.later (l2.trans l3) _ _ rd
      have rk := Rep.later l3 _ _ rk
      unfold vGet at P3
      split at P3
      · rename_i ks xs e
        split at P3
        · rename_i kk ek
          obtain ⟨a', vs, ea, l, ha, r⟩ := rep_dct S rd e
          cases ea
          have h := kLook_rep (k := kk) l r
          refine ⟨_, by rw [rep_key rk ek]; exact DGet.k ha, ?_⟩
          cases e1 : kLook ks xs kk with
          | none =>
            rw [e1] at P3 h
            cases e2 : valV (ks.zip vs) kk with
            | some v' => rw [e2] at h; exact False.elim h
            | none => exact P3.val S rx (fun z => nomatch z)
          | some p =>
            rw [e1] at P3 h
            cases e2 : valV (ks.zip vs) kk with
            | none => rw [e2] at h; exact False.elim h
            | some v' =>
              rw [e2] at h
              exact P3.val S h (fun z => nomatch z)
        · exact False.elim P3
      · exact False.elim P3
    · exact False.elim P1
end

/-! ## hidden objects -/
def Gx.hide (G : Gx) (d : Addr) (xd : XD) : Gx := { G with hid := d :: G.hid, X := xd }
mutual
theorem rep_hide {G : Gx} {ρ : List Addr} {H : Hp} {d : Addr} {xd : XD} {o : HO} (hd : H d = none) : ∀ (p : PV) (v : V), Rep G ρ H p v → Rep (G.hide d xd) ρ (upd H d o) p v
  | .non, v, h => h
  | .bl b, v, h => h
  | .int i, v, h => h
  | .str x, v, h => h
  | .tup xs, v, h => by
    obtain ⟨a, vs, e, s, r⟩ := h
    exact ⟨a, vs, e, sqT_later (Later.new (ρ := ρ) hd) s, reps_hide hd xs vs r⟩
  | .lst xs, v, h => by
    obtain ⟨a, vs, e, n, n2, s, r⟩ := h
    have ne := ne_of_none s hd
    exact ⟨a, vs, e, n, fun z => (List.mem_cons.mp z).elim ne n2, by rw [upd_ne ne]; exact s, reps_hide hd xs vs r⟩
  | .dct ks xs, v, h => by
    obtain ⟨a, vs, e, n, n2, z, s, r⟩ := h
    have ne := ne_of_none s hd
    exact ⟨a, vs, e, n, fun z => (List.mem_cons.mp z).elim ne n2, z, by rw [upd_ne ne]; exact s, reps_hide hd xs vs r⟩
  | .sset xs, v, h => by
    obtain ⟨a, e, n, n2, s⟩ := h
    have ne := ne_of_none s hd
    exact ⟨a, e, n, fun z => (List.mem_cons.mp z).elim ne n2, by rw [upd_ne ne]; exact s⟩
  | .raw _, v, h => h
  | .scr ns, v, h => by
    obtain ⟨a, e, s⟩ := h
    refine ⟨a, e, ?_⟩
    rcases s with ⟨h, n, n2⟩ | h
    · have ne : a ≠ d := by rcases h with h | ⟨u, h⟩ <;> exact ne_of_none h hd
      exact .inl ⟨(rd_later (Later.new (ρ := ρ) hd) h n).1, n, fun z => (List.mem_cons.mp z).elim ne n2⟩
    · exact .inr h
  | .loc n, v, h => h
theorem reps_hide {G : Gx} {ρ : List Addr} {H : Hp} {d : Addr} {xd : XD} {o : HO} (hd : H d = none) : ∀ (ps : List PV) (vs : List V), Reps G ρ H ps vs → Reps (G.hide d xd) ρ (upd H d o) ps vs
  | [], vs, h => h
  | p :: ps, vs, h => by
    obtain ⟨v, r, e, h1, h2⟩ := h
    exact ⟨v, r, e, rep_hide hd p v h1, reps_hide hd ps r h2⟩
end
mutual
theorem rep_show {G : Gx} {ρ : List Addr} {H : Hp} {d : Addr} {xd : XD} : ∀ (p : PV) (v : V), Rep (G.hide d xd) ρ H p v → Rep G ρ H p v
  | .non, v, h => h
  | .bl b, v, h => h
  | .int i, v, h => h
  | .str x, v, h => h
  | .tup xs, v, h => by
    obtain ⟨a, vs, e, s, r⟩ := h
    exact ⟨a, vs, e, s, reps_show xs vs r⟩
  | .lst xs, v, h => by
    obtain ⟨a, vs, e, n, n2, s, r⟩ := h
    exact ⟨a, vs, e, n, fun z => n2 (List.mem_cons_of_mem _ z), s, reps_show xs vs r⟩
  | .dct ks xs, v, h => by
    obtain ⟨a, vs, e, n, n2, z, s, r⟩ := h
    exact ⟨a, vs, e, n, fun z => n2 (List.mem_cons_of_mem _ z), z, s, reps_show xs vs r⟩
  | .sset xs, v, h => by
    obtain ⟨a, e, n, n2, s⟩ := h
    exact ⟨a, e, n, fun z => n2 (List.mem_cons_of_mem _ z), s⟩
  | .raw _, v, h => h
  | .scr ns, v, h => by
    obtain ⟨a, e, s⟩ := h
    refine ⟨a, e, ?_⟩
    rcases s with ⟨h, n, n2⟩ | h
    · exact .inl ⟨h, n, fun z => n2 (List.mem_cons_of_mem _ z)⟩
    · exact .inr h
  | .loc n, v, h => h
theorem reps_show {G : Gx} {ρ : List Addr} {H : Hp} {d : Addr} {xd : XD} : ∀ (ps : List PV) (vs : List V), Reps (G.hide d xd) ρ H ps vs → Reps G ρ H ps vs
  | [], vs, h => h
  | p :: ps, vs, h => by
    obtain ⟨v, r, e, h1, h2⟩ := h
    exact ⟨v, r, e, rep_show p v h1, reps_show ps r h2⟩
end
theorem objR_hide {G : Gx} {ρ : List Addr} {H : Hp} {d : Addr} {xd : XD} {o : HO} (hd : H d = none) {p : PV} {a : Addr} (h : ObjR G ρ H p a) : ObjR (G.hide d xd) ρ (upd H d o) p a := by
  obtain ⟨u, e⟩ := h.some
  have ne := ne_of_none e hd
  cases p with
  | lst xs => obtain ⟨vs, h, r⟩ := h; exact ⟨vs, by rw [upd_ne ne]; exact h, reps_hide hd _ _ r⟩
  | dct ks xs => obtain ⟨vs, z, h, r⟩ := h; exact ⟨vs, z, by rw [upd_ne ne]; exact h, reps_hide hd _ _ r⟩
  | sset xs => exact (upd_ne ne).trans h
  | _ => exact h.elim
theorem objR_show {G : Gx} {ρ : List Addr} {H : Hp} {d : Addr} {xd : XD} {p : PV} {a : Addr} (h : ObjR (G.hide d xd) ρ H p a) : ObjR G ρ H p a := by
  cases p with
  | lst xs => obtain ⟨vs, h, r⟩ := h; exact ⟨vs, h, reps_show _ _ r⟩
  | dct ks xs => obtain ⟨vs, z, h, r⟩ := h; exact ⟨vs, z, h, reps_show _ _ r⟩
  | sset xs => exact h
  | _ => exact h.elim
theorem srel_hide {G : Gx} {ρ : List Addr} {st : VSt} {H : Hp} {d : Addr} {xd : XD} {o : HO} (hd : H d = none) (s : SRel G ρ st H) : SRel (G.hide d xd) ρ st (upd H d o) :=
  ⟨s.nd, s.len, fun n p a e1 e2 => ⟨objR_hide hd (s.obj n p a e1 e2).1, (s.obj n p a e1 e2).2⟩, fun b hb => by
    rcases List.mem_cons.mp hb with rfl | hb
    · exact ⟨s.fresh hd, o, upd_same⟩
    · obtain ⟨h1, u, e⟩ := s.hid b hb
      exact ⟨h1, u, by rw [upd_ne (ne_of_none e hd)]; exact e⟩⟩
theorem srel_show {G : Gx} {ρ : List Addr} {st : VSt} {H : Hp} {d : Addr} {xd : XD} (s : SRel (G.hide d xd) ρ st H) : SRel G ρ st H :=
  ⟨s.nd, s.len, fun n p a e1 e2 => ⟨objR_show (s.obj n p a e1 e2).1, (s.obj n p a e1 e2).2⟩, fun b hb => s.hid b (List.mem_cons_of_mem _ hb)⟩
theorem envR_hide {G : Gx} {ρ : List Addr} {H : Hp} {env : VEnv} {σ : L2.St} {d : Addr} {xd : XD} {o : HO} (hd : H d = none) (h : EnvR G ρ H env σ) : EnvR (G.hide d xd) ρ (upd H d o) env σ :=
  ⟨h.1, fun i p e => by obtain ⟨v, a, b⟩ := h.2 i p e; exact ⟨v, a, rep_hide hd p v b⟩⟩

/-- what is wanted of exceptions plays no part in what stands where -/
def Gx.wx (G : Gx) (xd : XD) : Gx := { G with X := xd }
mutual
theorem rep_wx {G : Gx} {ρ : List Addr} {H : Hp} {xd : XD} : ∀ (p : PV) (v : V), Rep G ρ H p v → Rep (G.wx xd) ρ H p v
  | .non, v, h => h
  | .bl b, v, h => h
  | .int i, v, h => h
  | .str x, v, h => h
  | .tup xs, v, h => by
    obtain ⟨a, vs, e, s, r⟩ := h
    exact ⟨a, vs, e, s, reps_wx xs vs r⟩
  | .lst xs, v, h => by
    obtain ⟨a, vs, e, n, n2, s, r⟩ := h
    exact ⟨a, vs, e, n, n2, s, reps_wx xs vs r⟩
  | .dct ks xs, v, h => by
    obtain ⟨a, vs, e, n, n2, z, s, r⟩ := h
    exact ⟨a, vs, e, n, n2, z, s, reps_wx xs vs r⟩
  | .sset xs, v, h => h
  | .raw _, v, h => h
  | .scr ns, v, h => h
  | .loc n, v, h => h
theorem reps_wx {G : Gx} {ρ : List Addr} {H : Hp} {xd : XD} : ∀ (ps : List PV) (vs : List V), Reps G ρ H ps vs → Reps (G.wx xd) ρ H ps vs
  | [], vs, h => h
  | p :: ps, vs, h => by
    obtain ⟨v, r, e, h1, h2⟩ := h
    exact ⟨v, r, e, rep_wx p v h1, reps_wx ps r h2⟩
end
theorem objR_wx {G : Gx} {ρ : List Addr} {H : Hp} {xd : XD} {p : PV} {a : Addr} (h : ObjR G ρ H p a) : ObjR (G.wx xd) ρ H p a := by
  cases p with
  | lst xs => obtain ⟨vs, h, r⟩ := h; exact ⟨vs, h, reps_wx _ _ r⟩
  | dct ks xs => obtain ⟨vs, z, h, r⟩ := h; exact ⟨vs, z, h, reps_wx _ _ r⟩
  | sset xs => exact h
  | _ => exact h.elim
theorem srel_wx {G : Gx} {ρ : List Addr} {st : VSt} {H : Hp} {xd : XD} (s : SRel G ρ st H) : SRel (G.wx xd) ρ st H :=
  ⟨s.nd, s.len, fun n p a e1 e2 => ⟨objR_wx (s.obj n p a e1 e2).1, (s.obj n p a e1 e2).2⟩, s.hid⟩
theorem envR_wx {G : Gx} {ρ : List Addr} {H : Hp} {env : VEnv} {σ : L2.St} {xd : XD} (h : EnvR G ρ H env σ) : EnvR (G.wx xd) ρ H env σ :=
  ⟨h.1, fun i p e => by obtain ⟨v, a, b⟩ := h.2 i p e; exact ⟨v, a, rep_wx p v b⟩⟩
theorem rel_wx {G : Gx} {ρ : List Addr} {env : VEnv} {st : VSt} {H : Hp} {σ : L2.St} {xd : XD} (h : Rel G ρ env st σ H) : Rel (G.wx xd) ρ env st σ H := ⟨srel_wx h.s, envR_wx h.e⟩
mutual
theorem rep_wr {G : Gx} {ρ : List Addr} {H : Hp} {d : Addr} {o : HO} (hd : d ∈ ρ ∨ d ∈ G.hid) (mu : Mut (H d)) : ∀ (p : PV) (v : V), Rep G ρ H p v → Rep G ρ (upd H d o) p v
  | .non, v, h => h
  | .bl b, v, h => h
  | .int i, v, h => h
  | .str x, v, h => h
  | .tup xs, v, h => by
    obtain ⟨a, vs, e, s, r⟩ := h
    refine ⟨a, vs, e, ?_, reps_wr hd mu xs vs r⟩
    rcases s with (h | ⟨u, h⟩) | h
    · exact .inl (.inl (by rw [upd_ne (fun e => by rw [← e, h] at mu; exact mu)]; exact h))
    · exact .inl (.inr ⟨u, by rw [upd_ne (fun e => by rw [← e, h] at mu; exact mu)]; exact h⟩)
    · exact .inr h
  | .lst xs, v, h => by
    obtain ⟨a, vs, e, n, n2, s, r⟩ := h
    have ne : a ≠ d := fun e => by subst e; exact hd.elim n n2
    exact ⟨a, vs, e, n, n2, by rw [upd_ne ne]; exact s, reps_wr hd mu xs vs r⟩
  | .dct ks xs, v, h => by
    obtain ⟨a, vs, e, n, n2, z, s, r⟩ := h
    have ne : a ≠ d := fun e => by subst e; exact hd.elim n n2
    exact ⟨a, vs, e, n, n2, z, by rw [upd_ne ne]; exact s, reps_wr hd mu xs vs r⟩
  | .sset xs, v, h => by
    obtain ⟨a, e, n, n2, s⟩ := h
    have ne : a ≠ d := fun e => by subst e; exact hd.elim n n2
    exact ⟨a, e, n, n2, by rw [upd_ne ne]; exact s⟩
  | .raw _, v, h => h
  | .scr ns, v, h => by
    obtain ⟨a, e, s⟩ := h
    refine ⟨a, e, ?_⟩
    rcases s with ⟨h, n, n2⟩ | h
    · have ne : a ≠ d := fun e => by subst e; exact hd.elim n n2
      refine .inl ⟨?_, n, n2⟩
      rcases h with h | ⟨u, h⟩
      · exact .inl (by rw [upd_ne ne]; exact h)
      · exact .inr ⟨u, by rw [upd_ne ne]; exact h⟩
    · exact .inr h
  | .loc n, v, h => h
theorem reps_wr {G : Gx} {ρ : List Addr} {H : Hp} {d : Addr} {o : HO} (hd : d ∈ ρ ∨ d ∈ G.hid) (mu : Mut (H d)) : ∀ (ps : List PV) (vs : List V), Reps G ρ H ps vs → Reps G ρ (upd H d o) ps vs
  | [], vs, h => h
  | p :: ps, vs, h => by
    obtain ⟨v, r, e, h1, h2⟩ := h
    exact ⟨v, r, e, rep_wr hd mu p v h1, reps_wr hd mu ps r h2⟩
end
theorem nodup_ix' {N : List Addr} (hN : N.Nodup) {i j : Nat} {x : Addr} (a : N[i]? = some x) (b : N[j]? = some x) : i = j := by
  obtain ⟨h1, e1⟩ := List.getElem?_eq_some_iff.mp a
  obtain ⟨h2, e2⟩ := List.getElem?_eq_some_iff.mp b
  exact (List.getElem_inj hN).mp (e1.trans e2.symm)
theorem objR_wr {G : Gx} {ρ : List Addr} {H : Hp} {d : Addr} {o : HO} (hd : d ∈ ρ ∨ d ∈ G.hid) (mu : Mut (H d)) {p : PV} {a : Addr} (ne : a ≠ d) (h : ObjR G ρ H p a) : ObjR G ρ (upd H d o) p a := by
  cases p with
  | lst xs => obtain ⟨vs, h, r⟩ := h; exact ⟨vs, by rw [upd_ne ne]; exact h, reps_wr hd mu _ _ r⟩
  | dct ks xs => obtain ⟨vs, z, h, r⟩ := h; exact ⟨vs, z, by rw [upd_ne ne]; exact h, reps_wr hd mu _ _ r⟩
  | sset xs => exact (upd_ne ne).trans h
  | _ => exact h.elim
/-- the hidden object changes -/
theorem srel_hwr {G : Gx} {ρ : List Addr} {st : VSt} {H : Hp} {d : Addr} {o : HO} (hd : d ∈ G.hid) (mu : Mut (H d)) (s : SRel G ρ st H) : SRel G ρ st (upd H d o) :=
  ⟨s.nd, s.len, fun n p a e1 e2 => ⟨objR_wr (.inr hd) mu (fun e => (s.hid d hd).1 (by rw [← e]; exact List.mem_of_getElem? e2)) (s.obj n p a e1 e2).1, (s.obj n p a e1 e2).2⟩, fun b hb => by
    obtain ⟨h1, u, e⟩ := s.hid b hb
    refine ⟨h1, ?_⟩
    by_cases hbd : b = d
    · subst hbd; exact ⟨o, upd_same⟩
    · exact ⟨u, by rw [upd_ne hbd]; exact e⟩⟩
theorem envR_wr {G : Gx} {ρ : List Addr} {H : Hp} {env : VEnv} {σ : L2.St} {d : Addr} {o : HO} (hd : d ∈ ρ ∨ d ∈ G.hid) (mu : Mut (H d)) (h : EnvR G ρ H env σ) : EnvR G ρ (upd H d o) env σ :=
  ⟨h.1, fun i p e => by obtain ⟨v, a, b⟩ := h.2 i p e; exact ⟨v, a, rep_wr hd mu p v b⟩⟩
/-- a boxed object changes -/
theorem srel_wr {G : Gx} {ρ : List Addr} {st : VSt} {H : Hp} {n : Nat} {d : Addr} {o : HO} {q : PV} (hn : ρ[n]? = some d) (mu : Mut (H d)) (s : SRel G ρ st H) (new : ObjR G ρ (upd H d o) q d) (nl : noLoc q = true) : SRel G ρ (st.set n q) (upd H d o) := by
  have hd : d ∈ ρ := List.mem_of_getElem? hn
  have hlt : n < st.length := by rw [← s.len]; exact (List.getElem?_eq_some_iff.mp hn).1
  refine ⟨s.nd, by rw [List.length_set]; exact s.len, fun m p a e1 e2 => ?_, fun b hb => ?_⟩
  · by_cases hm : n = m
    · subst hm
      rw [List.getElem?_set_self hlt] at e1
      cases e1
      rw [hn] at e2
      cases e2
      exact ⟨new, nl⟩
    · rw [List.getElem?_set_ne hm] at e1
      have ne : a ≠ d := fun e => by
        subst e
        exact hm (nodup_ix' s.nd hn e2)
      exact ⟨objR_wr (.inl hd) mu ne (s.obj m p a e1 e2).1, (s.obj m p a e1 e2).2⟩
  · obtain ⟨h1, u, e⟩ := s.hid b hb
    refine ⟨h1, u, ?_⟩
    rw [upd_ne (fun e' => h1 (by rw [e']; exact hd))]
    exact e
theorem Later.wr {ρ : List Addr} {H : Hp} {d : Addr} {o : HO} (hd : d ∈ ρ) (mu : Mut (H d)) : Later ρ H ρ (upd H d o) where
  ext := ⟨[], by simp, by simp⟩
  keep := fun a u e n => by rw [upd_ne (fun z => n (by rw [z]; exact hd))]; exact e
  dom := fun a u e => by
    by_cases h : a = d
    · subst h; exact ⟨o, upd_same⟩
    · exact ⟨u, by rw [upd_ne h]; exact e⟩
  tup := fun a xs e => by rw [upd_ne (fun z => by rw [← z, e] at mu; exact mu)]; exact e
  frz := fun a u z e => by rw [upd_ne (fun z => by rw [← z, e] at mu; exact mu)]; exact e
end Vm

namespace Vm
open PySem PySem.Spec L2

/-! ## scalars and tuples of them do not lean on what is boxed -/
mutual
theorem rep_pure {G G' : Gx} (hK : G.K = G'.K) {ρ ρ' : List Addr} {H : Hp} : ∀ (p : PV) (v : V), pureP p = true → Rep G ρ H p v → Rep G' ρ' H p v
  | .non, v, _, h => h
  | .bl b, v, _, h => h
  | .int i, v, _, h => h
  | .str x, v, _, h => h
  | .tup xs, v, f, h => by
    obtain ⟨a, vs, e, s, r⟩ := h
    exact ⟨a, vs, e, by rw [← hK]; exact s, reps_pure hK xs vs f r⟩
  | .lst _, _, f, _ => by cases f
  | .dct _ _, _, f, _ => by cases f
  | .sset _, _, f, _ => by cases f
  | .scr _, _, f, _ => by cases f
  | .raw _, _, f, _ => by cases f
  | .loc _, _, f, _ => by cases f
theorem reps_pure {G G' : Gx} (hK : G.K = G'.K) {ρ ρ' : List Addr} {H : Hp} : ∀ (ps : List PV) (vs : List V), pures ps = true → Reps G ρ H ps vs → Reps G' ρ' H ps vs
  | [], vs, _, h => h
  | p :: ps, vs, f, h => by
    obtain ⟨v, r, e, h1, h2⟩ := h
    unfold pures at f
    rw [Bool.and_eq_true] at f
    exact ⟨v, r, e, rep_pure hK p v f.1 h1, reps_pure hK ps r f.2 h2⟩
end
theorem objR_pure {G : Gx} {ρ ρ' : List Addr} {H : Hp} {p : PV} {a : Addr} (f : noLoc p = true) (h : ObjR G ρ H p a) : ObjR G ρ' H p a := by
  cases p with
  | lst xs => obtain ⟨vs, h, r⟩ := h; exact ⟨vs, h, reps_pure rfl _ _ f r⟩
  | dct ks xs => obtain ⟨vs, z, h, r⟩ := h; exact ⟨vs, z, h, reps_pure rfl _ _ f r⟩
  | sset xs => exact h
  | _ => exact h.elim
/-- a boxed object as a value -/
theorem objR_rep {G : Gx} {ρ ρ' : List Addr} {H : Hp} {p : PV} {a : Addr} (f : noLoc p = true) (h : ObjR G ρ H p a) (n : a ∉ ρ') (n2 : a ∉ G.hid) : Rep G ρ' H p (.ref a) := by
  cases p with
  | lst xs => obtain ⟨vs, h, r⟩ := h; exact ⟨a, vs, rfl, n, n2, h, reps_pure rfl _ _ f r⟩
  | dct ks xs => obtain ⟨vs, z, h, r⟩ := h; exact ⟨a, vs, rfl, n, n2, z, h, reps_pure rfl _ _ f r⟩
  | sset xs => exact ⟨a, rfl, n, n2, h⟩
  | _ => exact h.elim
theorem rep_objR {G : Gx} {ρ ρ' : List Addr} {H : Hp} {p : PV} {v : V} (f : noLoc p = true) (h : Rep G ρ H p v) : ∃ a, v = .ref a ∧ a ∉ ρ ∧ a ∉ G.hid ∧ ObjR G ρ' H p a := by
  cases p with
  | lst xs => obtain ⟨a, vs, e, n, n2, h, r⟩ := h; exact ⟨a, e, n, n2, vs, h, reps_pure rfl _ _ f r⟩
  | dct ks xs => obtain ⟨a, vs, e, n, n2, z, h, r⟩ := h; exact ⟨a, e, n, n2, vs, z, h, reps_pure rfl _ _ f r⟩
  | sset xs => obtain ⟨a, e, n, n2, h⟩ := h; exact ⟨a, e, n, n2, h⟩
  | _ => cases f

/-! ## boxing -/
def boxV (p : PV) (st : VSt) : Res PV := if noLoc p = true then .ok (.loc st.length) (st ++ [p]) else .bad
def eBox (m : EM) : EM := fun env st => (m env st).bind boxV
theorem srel_box {G : Gx} {ρ : List Addr} {st : VSt} {H : Hp} {p : PV} {a : Addr} (s : SRel G ρ st H) (f : noLoc p = true) (n : a ∉ ρ) (n2 : a ∉ G.hid) (o : ObjR G ρ H p a) : SRel G (ρ ++ [a]) (st ++ [p]) H := by
  refine ⟨?_, by rw [List.length_append, List.length_append, s.len]; rfl, fun i q b e1 e2 => ?_, fun d hd => ?_⟩
  · rw [List.nodup_append]
    exact ⟨s.nd, by simp, fun x hx y hy => by rw [List.mem_singleton] at hy; subst hy; intro e; subst e; exact n hx⟩
  · by_cases hi : i < st.length
    · rw [List.getElem?_append_left hi] at e1
      rw [List.getElem?_append_left (by rw [s.len]; exact hi)] at e2
      obtain ⟨h1, h2⟩ := s.obj i q b e1 e2
      exact ⟨objR_pure h2 h1, h2⟩
    · rw [List.getElem?_append_right (by omega)] at e1
      rw [List.getElem?_append_right (by rw [s.len]; omega), s.len] at e2
      have : i - st.length = 0 := by
        have := (List.getElem?_eq_some_iff.mp e1).1
        simp at this
        omega
      rw [this] at e1 e2
      simp at e1 e2
      subst e1 e2
      exact ⟨objR_pure f o, f⟩
  · obtain ⟨h1, u, e⟩ := s.hid d hd
    refine ⟨fun z => ?_, u, e⟩
    rcases List.mem_append.mp z with z | z
    · exact h1 z
    · rw [List.mem_singleton] at z; subst z; exact n2 hd
section
variable {X : Cx} {W : XD} {fr : Bool} {e : Expr} {m : EM}
theorem box_rd {σ : L2.St} {H : Hp} {Q : VK} (h : cE X W false (eBox m) σ H Q) : cE X W true m σ H Q := by
  obtain ⟨hid, ρ, env, st, R, P⟩ := h
  refine ⟨hid, ρ, env, st, R, ?_⟩
  unfold eBox at P
  cases e : m env st with
  | bad => rw [e] at P; exact P
  | ex c fs s => rw [e] at P; exact P
  | ok p st1 =>
    rw [e] at P
    intro ρ1 H1 l s v rp f
    replace P : Post (gx X W hid) ρ H (boxV p st1) (kE (gx X W hid) H false Q) := P
    unfold boxV at P
    split at P
    · rename_i hz
      obtain ⟨a, rfl, n, n2, o⟩ := rep_objR (ρ' := ρ1) hz rp
      have ha := f rfl a rfl
      obtain ⟨δ, rfl, hδ⟩ := l.ext
      refine P (ρ ++ δ ++ [a]) H1 ⟨⟨δ ++ [a], by rw [List.append_assoc], fun q hq => ?_⟩, l.keep, l.dom, l.tup, l.frz⟩ (srel_box s hz n n2 o) (.ref a) ⟨a, rfl, ?_⟩ (fun z => nomatch z)
      · rcases List.mem_append.mp hq with z | z
        · exact hδ q z
        · rw [List.mem_singleton] at z; rw [z]; exact ha
      · rw [← s.len, List.getElem?_append_right (Nat.le_refl _)]
        simp
    · exact False.elim P
theorem ev_box (h : Ev X W true e m) : Ev X W false e (eBox m) := PE.anti h fun σ H Q => box_rd
end

/-! ## statements -/
inductive SR where
  | nx (env : VEnv) (st : VSt)
  | rt (p : PV) (st : VSt)
  | bk (env : VEnv) (st : VSt)
  | ct (env : VEnv) (st : VSt)
  | ex (c : Nat) (fs : List PV) (st : VSt)
  | bad
abbrev SM := VEnv → VSt → SR
def SR.bind (r : SR) (k : SM) (_ : Fx k := ⟨⟩) : SR := match r with
  | .nx e s => k e s
  | .rt p s => .rt p s
  | .bk e s => .bk e s
  | .ct e s => .ct e s
  | .ex c fs s => .ex c fs s
  | .bad => .bad
def Res.s {α : Type} (r : Res α) (k : α → VSt → SR) (_ : Fx k := ⟨⟩) : SR := match r with
  | .ok a st => k a st
  | .ex c fs st => .ex c fs st
  | .bad => .bad
def PostS (G : Gx) (ρ : List Addr) (H : Hp) (fr : Bool) (r : SR) (D : Ends) : Prop := match r with
  | .nx env' st' => ∀ ρ' H' σ', Later ρ H ρ' H' → Rel G ρ' env' st' σ' H' → D.nx σ' H'
  | .bk env' st' => ∀ ρ' H' σ', Later ρ H ρ' H' → Rel G ρ' env' st' σ' H' → D.bk σ' H'
  | .ct env' st' => ∀ ρ' H' σ', Later ρ H ρ' H' → Rel G ρ' env' st' σ' H' → D.ct σ' H'
  | .rt p st' => ∀ ρ' H' v, Later ρ H ρ' H' → SRel G ρ' st' H' → Rep G ρ' H' p v → (fr = true → (∃ n, p = .loc n) ∨ ∀ a, v = .ref a → H a = none) → D.rt v H'
  | .ex c fs st' => XPost G ρ H c fs st'
  | .bad => False
theorem PostS.move {G : Gx} {ρ ρ1 : List Addr} {H H1 : Hp} {fr : Bool} {r : SR} {D : Ends} (l : Later ρ H ρ1 H1) (h : PostS G ρ H fr r D) : PostS G ρ1 H1 fr r D := by
  cases r with
  | nx e s => exact fun ρ' H' σ' l' R => h ρ' H' σ' (l.trans l') R
  | bk e s => exact fun ρ' H' σ' l' R => h ρ' H' σ' (l.trans l') R
  | ct e s => exact fun ρ' H' σ' l' R => h ρ' H' σ' (l.trans l') R
  | rt p s => exact fun ρ' H' v l' S rp f => h ρ' H' v (l.trans l') S rp fun z => (f z).imp id fun g a ha => l.back (g a ha)
  | ex c fs s => exact XPost.move l h
  | bad => exact h
def cS (X : Cx) (W : XD) (fr : Bool) (m : SM) : TS := fun D σ H => ∃ hid ρ env st, Rel (gx X W hid) ρ env st σ H ∧ PostS (gx X W hid) ρ H fr (m env st) D
def EvS (X : Cx) (W : XD) (fr : Bool) (st : Stmt) (m : SM) : Prop := PS X st (cS X W fr m)
def EvSs (X : Cx) (W : XD) (fr : Bool) (st : List Stmt) (m : SM) : Prop := PSs X st (cS X W fr m)
theorem PS.anti {X : Cx} {e : Stmt} {t u : TS} (h : PS X e t) (k : ∀ D σ H, u D σ H → t D σ H) : PS X e u := ⟨fun pins s σ H D I w => h.run pins s σ H D I (k D σ H w)⟩
theorem PSs.anti {X : Cx} {e : List Stmt} {t u : TS} (h : PSs X e t) (k : ∀ D σ H, u D σ H → t D σ H) : PSs X e u := ⟨fun pins s σ H D I w => h.run pins s σ H D I (k D σ H w)⟩
section
variable {X : Cx} {W : XD} {hid ρ : List Addr} {env : VEnv} {st : VSt} {σ : L2.St} {H : Hp} {fr : Bool} {D : Ends}
theorem PostS.ofRes {α : Type} {G : Gx} {r : Res α} {k : α → VSt → SR} (P : PostS G ρ H fr (r.s k) D) : Post G ρ H r (fun ρ1 st1 H1 a => PostS G ρ1 H1 fr (k a st1) D) := by
  cases r with
  | bad => exact P
  | ex c fs s => exact P
  | ok a st' => exact fun ρ1 H1 l s => PostS.move l P
theorem sE_use {f : Bool} {m : EM} {k : PV → VSt → SR} {Q : VK} (R : Rel (gx X W hid) ρ env st σ H) (P : PostS (gx X W hid) ρ H fr ((m env st).s k) D)
    (q : ∀ ρ1 st1 H1 p v, Later ρ H ρ1 H1 → Rel (gx X W hid) ρ1 env st1 σ H1 → Rep (gx X W hid) ρ1 H1 p v → (f = true → ∀ a, v = .ref a → H a = none) → PostS (gx X W hid) ρ1 H1 fr (k p st1) D → Q v H1) : cE X W f m σ H Q :=
  ⟨hid, ρ, env, st, R, P.ofRes.imp fun ρ1 st1 H1 p l s kk v rp f => q ρ1 st1 H1 p v l (R.later l s) rp f kk⟩
def onBS (k : Bool → VSt → SR) : PV → VSt → SR := fun p st => match p with
  | .bl b => k b st
  | _ => .bad
theorem sT_use {m : EM} {k : Bool → VSt → SR} {Q : Bool → Hp → Prop} (R : Rel (gx X W hid) ρ env st σ H) (P : PostS (gx X W hid) ρ H fr ((m env st).s (onBS k)) D)
    (q : ∀ ρ1 st1 H1 b, Later ρ H ρ1 H1 → Rel (gx X W hid) ρ1 env st1 σ H1 → PostS (gx X W hid) ρ1 H1 fr (k b st1) D → Q b H1) : cT X W m σ H Q :=
  ⟨hid, ρ, env, st, R, P.ofRes.imp fun ρ1 st1 H1 p l s kk => by
    cases p with
    | bl b => exact q ρ1 st1 H1 b l (R.later l s) kk
    | _ => exact False.elim kk⟩
theorem PostS.seq {G : Gx} {r : SR} {k : SM} {N : L2.St → Hp → Prop} (P : PostS G ρ H fr (r.bind k) D)
    (q : ∀ ρ1 env1 st1 σ1 H1, Later ρ H ρ1 H1 → Rel G ρ1 env1 st1 σ1 H1 → PostS G ρ1 H1 fr (k env1 st1) D → N σ1 H1) : PostS G ρ H fr r { D with nx := N } := by
  cases r with
  | nx e s => exact fun ρ1 H1 σ1 l R => q ρ1 e s σ1 H1 l R (PostS.move l P)
  | bk e s => exact P
  | ct e s => exact P
  | rt p s => exact P
  | ex c fs s => exact P
  | bad => exact P
end
def sNil : SM := fun env st => .nx env st
def sCons (a b : SM) : SM := fun env st => (a env st).bind b
def sSet (i : Nat) (a : EM) : SM := fun env st => (a env st).s fun p s1 => .nx (env.set i (some p)) s1
def sExpr (a : EM) : SM := fun env st => (a env st).s fun _ s1 => .nx env s1
def sRet (a : EM) : SM := fun env st => (a env st).s fun p s1 => .rt p s1
def sIf (c : EM) (a b : SM) : SM := fun env st => (c env st).s (onBS fun c s1 => if c = true then a env s1 else b env s1)
def sBreak : SM := fun env st => .bk env st
def sCont : SM := fun env st => .ct env st
section
variable {X : Cx} {W : XD} {fr f : Bool} {st : Stmt} {rest sa sb : List Stmt} {e c : Expr} {m me mc : EM} {ms mr a b : SM} {pos : Pos}
theorem evss_nil : EvSs X W fr [] sNil := PSs.anti pss_nil fun D σ H ⟨hid, ρ, env, st, R, P⟩ => P ρ H σ (Later.refl _ _) R
theorem evss_cons (h1 : EvS X W fr st ms) (h2 : EvSs X W fr rest mr) : EvSs X W fr (st :: rest) (sCons ms mr) :=
  PSs.anti (pss_cons h1 h2) fun D σ H ⟨hid, ρ, env, st, R, P⟩ => ⟨hid, ρ, env, st, R, P.seq fun ρ1 env1 st1 σ1 H1 l R1 P1 => ⟨hid, ρ1, env1, st1, R1, P1⟩⟩
theorem evs_pass : EvS X W fr (.Pass pos) sNil := PS.anti ps_pass fun D σ H ⟨hid, ρ, env, st, R, P⟩ => P ρ H σ (Later.refl _ _) R
theorem evs_doc {x j pos'} : EvS X W fr (.Expr (.Constant (.str x) j pos) pos') sNil := PS.anti ps_doc fun D σ H ⟨hid, ρ, env, st, R, P⟩ => P ρ H σ (Later.refl _ _) R
theorem evs_break : EvS X W fr (.Break pos) sBreak := PS.anti ps_break fun D σ H ⟨hid, ρ, env, st, R, P⟩ => P ρ H σ (Later.refl _ _) R
theorem evs_cont : EvS X W fr (.Continue pos) sCont := PS.anti ps_continue fun D σ H ⟨hid, ρ, env, st, R, P⟩ => P ρ H σ (Later.refl _ _) R
theorem evs_set {i : Nat} {x : Str} {pos' : Pos} (nd : X.N.Nodup) (he : Ev X W f e me) (hx : Loc X.env.scope x := by first | exact Or.inl rfl | exact Or.inr rfl) (hi : X.N[i]? = some x := by rfl) (hs : swapsWith e (some (.Name x pos')) pos.line X.env = pure false := by rfl)
    (hf : X.fn x = true ∨ X.env.scope.names.lookup x = some .local := by first | exact .inl rfl | exact .inr rfl | assumption) : EvS X W fr (.Assign [.Name x pos'] e pos) (sSet i me) :=
  PS.anti (ps_set nd hi hx he hs hf) fun D σ H ⟨hid, ρ, env, st, R, P⟩ => sE_use R P fun ρ1 st1 H1 p v l R1 rp _ P1 => P1 ρ1 H1 _ (Later.refl _ _) ⟨R1.s, R1.e.set rp i⟩
theorem evs_expr (he : Ev X W f e me) (hs : swapsWith e none pos.line X.env = pure false := by rfl) : EvS X W fr (.Expr e pos) (sExpr me) :=
  PS.anti (ps_expr he hs) fun D σ H ⟨hid, ρ, env, st, R, P⟩ => sE_use R P fun ρ1 st1 H1 p v l R1 rp _ P1 => P1 ρ1 H1 _ (Later.refl _ _) R1
theorem evs_ret (he : Ev X W fr e me) : EvS X W fr (.Return (some e) pos) (sRet me) :=
  PS.anti (ps_ret he) fun D σ H ⟨hid, ρ, env, st, R, P⟩ => ⟨hid, ρ, env, st, R, by
    unfold sRet at P
    cases e : me env st with
    | bad => rw [e] at P; exact P
    | ex c fs s => rw [e] at P; exact P
    | ok q s =>
      rw [e] at P
      exact fun ρ1 H1 l S v rp f => P ρ1 H1 v l S rp fun z => .inr (f z)⟩
/-- a boxed list (dict, set) is handed back -/
def sRetB (a : EM) : SM := fun env st => (a env st).s fun p s1 => match p with
  | .loc n => .rt (.loc n) s1
  | _ => .bad
theorem evs_retB (he : Ev X W f e me) : EvS X W fr (.Return (some e) pos) (sRetB me) :=
  PS.anti (ps_ret he) fun D σ H ⟨hid, ρ, env, st, R, P⟩ => ⟨hid, ρ, env, st, R, by
    unfold sRetB at P
    cases e : me env st with
    | bad => rw [e] at P; exact P
    | ex c fs s => rw [e] at P; exact P
    | ok q s =>
      rw [e] at P
      cases q with
      | loc n => exact fun ρ1 H1 l S v rp f => P ρ1 H1 v l S rp fun z => .inl ⟨n, rfl⟩
      | _ => exact False.elim P⟩
def sRetN : SM := fun _ st => .rt .non st
theorem evs_retN : EvS X W fr (.Return none pos) sRetN := PS.anti ps_retN fun D σ H ⟨hid, ρ, env, st, R, P⟩ => P ρ H .non (Later.refl _ _) R.s rfl fun _ => .inr fun a e => nomatch e
theorem evs_if (hc : EvT X W c mc) (ha : EvSs X W fr sa a) (hb : EvSs X W fr sb b) : EvS X W fr (.If c sa sb pos) (sIf mc a b) :=
  PS.anti (ps_if hc ha hb) fun D σ H ⟨hid, ρ, env, st, R, P⟩ => sT_use R P fun ρ1 st1 H1 c l R1 P1 => by
    cases c with
    | true => exact ⟨hid, ρ1, env, st1, R1, P1⟩
    | false => exact ⟨hid, ρ1, env, st1, R1, P1⟩
end

/-! ## targets -/
abbrev GM := PV → VEnv → Option VEnv
def cG (X : Cx) (W : XD) (vs : List Nat) (g : GM) : TG := fun v σ H Q => ∃ hid ρ env st p env', Rel (gx X W hid) ρ env st σ H ∧ Rep (gx X W hid) ρ H p v ∧ g p env = some env' ∧ ∀ σ', EnvR (gx X W hid) ρ H env' σ' → L2.wipe σ' vs = L2.wipe σ vs → Q σ' H
def EvG (X : Cx) (W : XD) (vs : List Nat) (tg : Expr) (g : GM) : Prop := PG X tg (cG X W vs g)
theorem PG.anti {X : Cx} {e : Expr} {t u : TG} (h : PG X e t) (k : ∀ v σ H Q, u v σ H Q → t v σ H Q) : PG X e u := ⟨fun pins s σ H v w Q I r q => h.run pins s σ H v w Q I r (k v σ H Q q)⟩
abbrev GMs := List PV → VEnv → Option VEnv
def cGs (X : Cx) (W : XD) (vs : List Nat) (g : GMs) : TGs := fun v σ H Q => ∃ hid ρ env st p env', Rel (gx X W hid) ρ env st σ H ∧ Reps (gx X W hid) ρ H p v ∧ g p env = some env' ∧ ∀ σ', EnvR (gx X W hid) ρ H env' σ' → L2.wipe σ' vs = L2.wipe σ vs → Q σ' H
def EvGs (X : Cx) (W : XD) (vs : List Nat) (tg : List Expr) (g : GMs) : Prop := PGs X tg (cGs X W vs g)
theorem PGs.anti {X : Cx} {e : List Expr} {t u : TGs} (h : PGs X e t) (k : ∀ v σ H Q, u v σ H Q → t v σ H Q) : PGs X e u := ⟨fun pins s σ H v w Q I r q => h.run pins s σ H v w Q I r (k v σ H Q q)⟩
def gName (i : Nat) : GM := fun p env => some (env.set i (some p))
def gsNil : GMs := fun ps env => match ps with
  | [] => some env
  | _ => none
def gsCons (g : GM) (r : GMs) : GMs := fun ps env => match ps with
  | p :: ps => (g p env).bind (r ps)
  | [] => none
def gTup (n : Nat) (g : GMs) : GM := fun p env => match p with
  | .tup xs => if xs.length = n then g xs env else none
  | _ => none
theorem wipe_set {σ : L2.St} {i : Nat} {x : Option V} : ∀ {vs : List Nat}, i ∈ vs → L2.wipe (σ.set i x) vs = L2.wipe σ vs
  | [], h => by simp at h
  | v :: vs, h => by
    show (L2.wipe (σ.set i x) vs).set v none = (L2.wipe σ vs).set v none
    by_cases hv : i ∈ vs
    · rw [wipe_set hv]
    · have hvi : i = v := (List.mem_cons.mp h).resolve_right hv
      subst hvi
      have key : ∀ ws : List Nat, (L2.wipe (σ.set i x) ws).set i none = (L2.wipe σ ws).set i none := by
        intro ws
        induction ws with
        | nil => show (σ.set i x).set i none = σ.set i none; rw [List.set_set]
        | cons w ws ih =>
          show ((L2.wipe (σ.set i x) ws).set w none).set i none = ((L2.wipe σ ws).set w none).set i none
          by_cases hw : w = i
          · subst hw; rw [List.set_set, List.set_set, ih]
          · rw [List.set_comm _ _ hw, List.set_comm _ _ hw, ih]
      exact key vs
section
variable {X : Cx} {W : XD} {vs : List Nat} {pos : Pos}
theorem evg_name (nd : X.N.Nodup) {i : Nat} {x : Str} (hv : i ∈ vs := by decide) (hi : X.N[i]? = some x := by rfl) (hx : Loc X.env.scope x := by first | exact Or.inl rfl | exact Or.inr rfl)
    (hf : X.fn x = true ∨ X.env.scope.names.lookup x = some .local := by first | exact .inl rfl | exact .inr rfl | assumption) : EvG X W vs (.Name x pos) (gName i) :=
  PG.anti (pg_name nd hi hx hf) fun v σ H Q ⟨hid, ρ, env, st, p, env', R, rp, e, q⟩ => by
    cases e
    exact q _ (R.e.set rp i) (wipe_set hv)
theorem evgs_nil : EvGs X W vs [] gsNil := PGs.anti pgs_nil fun v σ H Q ⟨hid, ρ, env, st, p, env', R, rp, e, q⟩ => by
  unfold gsNil at e
  split at e
  · cases e
    exact ⟨rp, q σ R.e rfl⟩
  · cases e
theorem evgs_cons {e : Expr} {es : List Expr} {g : GM} {r : GMs} (h1 : EvG X W vs e g) (h2 : EvGs X W vs es r) (hs : (assignEach (e :: es) X.env).map (·.2) = assign e X.env :: (assignEach es X.env).map (·.2) := by rfl) : EvGs X W vs (e :: es) (gsCons g r) :=
  PGs.anti (pgs_cons h1 h2 hs) fun v σ H Q ⟨hid, ρ, env, st, p, env', R, rp, e, q⟩ => by
    unfold gsCons at e
    split at e
    · rename_i p ps
      obtain ⟨v, w, rfl, r1, r2⟩ := rp
      obtain ⟨env1, e1, e2⟩ := Option.bind_eq_some_iff.mp e
      exact ⟨v, w, rfl, hid, ρ, env, st, p, env1, R, r1, e1, fun σ1 E1 w1 => ⟨hid, ρ, env1, st, ps, env', ⟨R.s, E1⟩, r2, e2, fun σ2 E2 w2 => q σ2 E2 (w2.trans w1)⟩⟩
    · cases e
theorem evg_tup {es : List Expr} {k n : Nat} {g : GMs} (hc : X.calm = true) (h : EvGs X W vs es g) (hn : (assignEach es X.env).length = n := by rfl) (hst : (assignEach es X.env).findIdx? (·.1) = none := by rfl) : EvG X W vs (.Tuple es k pos) (gTup n g) :=
  PG.anti (pg_tup hc h hn hst) fun v σ H Q ⟨hid, ρ, env, st, p, env', R, rp, e, q⟩ => by
    unfold gTup at e
    split at e
    · rename_i xs
      split at e
      · rename_i hl
        obtain ⟨a, ws, rfl, s, r⟩ := rp
        exact ⟨a, ws, rfl, s, by rw [r.length]; exact hl, hid, ρ, env, st, xs, env', R, r, e, q⟩
      · cases e
    · cases e
def sAsg (g : GM) (a : EM) : SM := fun env st => (a env st).s fun p s1 => match g p env with
  | some env' => .nx env' s1
  | none => .bad
theorem evs_asg {fr f : Bool} {tg e : Expr} {me : EM} {g : GM} (he : Ev X W f e me) (hg : EvG X W vs tg g) (hs : swapsWithSole [tg] e pos.line X.env = pure false := by rfl) (hw : swappedStores [tg] e X.env = pure none := by rfl)
    (h1 : (assignEach [tg] X.env).map (·.2) = [assign tg X.env] := by rfl) : EvS X W fr (.Assign [tg] e pos) (sAsg g me) :=
  PS.anti (ps_asg he hg hs hw h1) fun D σ H ⟨hid, ρ, env, st, R, P⟩ => sE_use R P fun ρ1 st1 H1 p v l R1 rp _ P1 => by
    split at P1
    · rename_i env' e
      exact ⟨hid, ρ1, env, st1, p, env', R1, rp, e, fun σ' E' _ => P1 ρ1 H1 σ' (Later.refl _ _) ⟨R1.s, E'⟩⟩
    · exact False.elim P1
/-- name += e, of whole numbers -/
def vAddI (x y : PV) (st : VSt) : Res PV := match x, y with
  | .int i, .int j => .ok (.int (i + j)) st
  | _, _ => .bad
def sAug (i : Nat) (f : PV → PV → VSt → Res PV) (a : EM) : SM := fun env st => (eVar i env st).s fun x s0 => (a env s0).s fun y s1 => (f x y s1).s fun z s2 => .nx (env.set i (some z)) s2
theorem evs_augI {fr fa : Bool} {i : Nat} {x : Str} {e : Expr} {me : EM} {pos' : Pos} (nd : X.N.Nodup) (he : Ev X W fa e me) (hi : X.N[i]? = some x := by rfl) (hx : Loc X.env.scope x := by first | exact Or.inl rfl | exact Or.inr rfl)
    (hf : X.fn x = true ∨ X.env.scope.names.lookup x = some .local := by first | exact .inl rfl | exact .inr rfl | assumption) : EvS X W fr (.AugAssign (.Name x pos') .Add e pos) (sAug i vAddI me) :=
  PS.anti (ps_aug nd hi hx he ip_add hf) fun D σ H ⟨hid, ρ, env, st, R, P⟩ => by
    unfold sAug eVar at P
    split at P
    · rename_i p e
      obtain ⟨v, h1, h2⟩ := R.e.2 i p e
      refine ⟨v, h1, sE_use R P fun ρ1 st1 H1 q w l R1 rq _ P1 => ?_⟩
      replace h2 := Rep.later l _ _ h2
      unfold vAddI at P1
      split at P1
      · rename_i a b
        exact ⟨a, b, h2, rq, P1 ρ1 H1 _ (Later.refl _ _) ⟨R1.s, R1.e.set (show Rep (gx X W hid) ρ1 H1 (.int (a + b)) (.int (a + b)) from rfl) i⟩⟩
      · exact False.elim P1
    · exact False.elim P
end
end Vm

namespace Vm
open PySem PySem.Spec L2

/-! ## what is walked -/
inductive IT where
  | seq (p : PV)
  | rng (lo : Int) (n : Nat)
def Itm (j : IT) (st : VSt) : Option (List PV) := match j with
  | .seq p => seqOf st p
  | .rng lo n => some ((List.range n).map fun (k : Nat) => .int (lo + (k : Int)))
def RepJ (G : Gx) (ρ : List Addr) (H : Hp) (j : IT) (v : V) : Prop := match j with
  | .seq p => Rep G ρ H p v
  | .rng _ _ => True
theorem RepJ.later {G : Gx} {ρ ρ' : List Addr} {H H' : Hp} (l : Later ρ H ρ' H') {j : IT} {v : V} (h : RepJ G ρ H j v) : RepJ G ρ' H' j v := by
  cases j with
  | seq p => exact Rep.later l p v h
  | rng _ _ => trivial
def JOk (X : Cx) (W : XD) (j : IT) (v : V) (J : It) : Prop := ∀ (hid ρ : List Addr) (st : VSt) (H : Hp), SRel (gx X W hid) ρ st H → RepJ (gx X W hid) ρ H j v → ∀ xs, Itm j st = some xs →
  ∃ vs, Reps (gx X W hid) ρ H xs vs ∧ (∀ i, xs.length ≤ i → J.stop i H) ∧ ∀ i, i < xs.length → J.go i H ∧ ∀ x H2, J.yld i H x H2 → H2 = H ∧ vs[i]? = some x
abbrev IM := VEnv → VSt → Res IT
def kI (X : Cx) (W : XD) (hid : List Addr) (R : It → Hp → Prop) : KF IT := fun ρ' st' H' j => (Itm j st').isSome = true ∧ ∃ v, RepJ (gx X W hid) ρ' H' j v ∧ ∀ J, JOk X W j v J → R J H'
def cI (X : Cx) (W : XD) (m : IM) : TI := fun σ H R => ∃ hid ρ env st, Rel (gx X W hid) ρ env st σ H ∧ Post (gx X W hid) ρ H (m env st) (fun ρ' st' H' j => (Itm j st').isSome = true ∧ ∀ v, RepJ (gx X W hid) ρ' H' j v → ∀ J, JOk X W j v J → R J H')
def EvI (X : Cx) (W : XD) (tg iter : Expr) (m : IM) : Prop := PI X tg iter (cI X W m)
theorem PI.anti {X : Cx} {tg e : Expr} {t u : TI} (h : PI X tg e t) (k : ∀ σ H Q, u σ H Q → t σ H Q) : PI X tg e u := ⟨fun pins s σ H Q I w => h.run pins s σ H Q I (k σ H Q w)⟩
section
variable {X : Cx} {W : XD} {tg : Expr}
/-- a list or a tuple -/
theorem pi_seq {l : Expr} {tl : TE} (hl : PE X l tl) : PI X tg l (fun σ H R => tl σ H fun x H1 => ∃ a, x = .ref a ∧ (((∃ xs, SqL X.K H1 a xs) ∧ R (Itl X.K a) H1) ∨ ((∃ xs, SqT X.K H1 a xs) ∧ R (Itt X.K a) H1))) := by
  refine ⟨fun pins s σ H R I h => ?_⟩
  refine thn (hl.run pins s σ H _ I h) fun v s1 ⟨x, H1, I1, r1, q1⟩ => ?_
  obtain ⟨a, e, q⟩ := q1
  subst e
  cases r1
  rcases q with ⟨⟨xs, hq⟩, q⟩ | ⟨⟨xs, hq⟩, q⟩
  · obtain ⟨its, rv, p, hz⟩ := I1.list hq
    refine wpAny_pyIter_list p.isList ?_
    refine ⟨s1.heap.objs.size, [s1.heap.objs.size], _, _, H1, rfl, I1.kept (t' := s1.toks) fun b o e => Heap.get?_push_of_some _ e, turn_list a _, ⟨_, Heap.get?_push_size _ rfl, rfl, rfl⟩, fun b hb => ?_, q⟩
    have e : b = s1.heap.objs.size := by simpa using hb
    subst e
    exact I1.fpOk (Nat.le_refl _) (I1.hok.fresh (Nat.le_refl _))
  · obtain ⟨its, rv, p, hz⟩ := I1.tuple hq
    refine wpAny_pyIter_tuple (show s1.heap.IsTuple a its.toArray from p) ?_
    refine ⟨s1.heap.objs.size, [s1.heap.objs.size], _, _, H1, rfl, I1.kept (t' := s1.toks) fun b o e => Heap.get?_push_of_some _ e, turn_tuple a _, ⟨_, Heap.get?_push_size _ rfl, rfl, rfl⟩, fun b hb => ?_, q⟩
    have e : b = s1.heap.objs.size := by simpa using hb
    subst e
    exact I1.fpOk (Nat.le_refl _) (I1.hok.fresh (Nat.le_refl _))
def iSeq (a : EM) : IM := fun env st => (a env st).bind fun p s => if (seqOf s p).isSome = true then .ok (.seq p) s else .bad
theorem jok_l {p : PV} {a : Addr} (n : ∀ (hid ρ : List Addr) (st : VSt) (H : Hp), SRel (gx X W hid) ρ st H → Rep (gx X W hid) ρ H p (.ref a) → ∀ xs, seqOf st p = some xs → ∃ vs, SqL X.K H a vs ∧ Reps (gx X W hid) ρ H xs vs) : JOk X W (.seq p) (.ref a) (Itl X.K a) := by
  intro hid ρ st H S r xs e
  obtain ⟨vs, h1, h2⟩ := n hid ρ st H S r xs e
  refine ⟨vs, h2, fun i hi => ⟨vs, h1, by rw [h2.length]; exact hi⟩, fun i hi => ⟨?_, fun x H2 h => ⟨h.1, h.2 vs h1⟩⟩⟩
  have hv : i < vs.length := by rw [h2.length]; exact hi
  exact ⟨vs, vs[i], h1, List.getElem?_eq_getElem hv⟩
theorem jok_t {p : PV} {a : Addr} (n : ∀ (hid ρ : List Addr) (st : VSt) (H : Hp), SRel (gx X W hid) ρ st H → Rep (gx X W hid) ρ H p (.ref a) → ∀ xs, seqOf st p = some xs → ∃ vs, SqT X.K H a vs ∧ Reps (gx X W hid) ρ H xs vs) : JOk X W (.seq p) (.ref a) (Itt X.K a) := by
  intro hid ρ st H S r xs e
  obtain ⟨vs, h1, h2⟩ := n hid ρ st H S r xs e
  refine ⟨vs, h2, fun i hi => ⟨vs, h1, by rw [h2.length]; exact hi⟩, fun i hi => ⟨?_, fun x H2 h => ⟨h.1, h.2 vs h1⟩⟩⟩
  have hv : i < vs.length := by rw [h2.length]; exact hi
  exact ⟨vs, vs[i], h1, List.getElem?_eq_getElem hv⟩
theorem evi_seq {l : Expr} {m : EM} {f : Bool} (h : Ev X W f l m) : EvI X W tg l (iSeq m) :=
  PI.anti (pi_seq h) fun σ H R ⟨hid, ρ, env, st, Re, P⟩ => cE_use Re P fun ρ1 st1 H1 p v l R1 rp _ P1 => by
    split at P1
    · rename_i hz
      obtain ⟨xs, e⟩ := Option.isSome_iff_exists.mp hz
      have P2 := (P1.now R1.s).2 v rp
      by_cases ht : ∃ ys, p = .tup ys
      · obtain ⟨ys, rfl⟩ := ht
        obtain ⟨a, vs, rfl, s, r⟩ := rp
        refine ⟨a, rfl, .inr ⟨⟨vs, s⟩, P2 _ (jok_t fun hid ρ st H S r xs e => ?_)⟩⟩
        obtain ⟨b, ws, eb, s, r⟩ := r
        cases eb
        have e : some ys = some xs := e
        cases e
        exact ⟨ws, s, r⟩
      · obtain ⟨a, vs, rfl, s, r⟩ := rep_seq R1.s rp e
        have key : ∀ (hid ρ : List Addr) (st : VSt) (H : Hp), SRel (gx X W hid) ρ st H → Rep (gx X W hid) ρ H p (.ref a) → ∀ xs, seqOf st p = some xs → ∃ vs, SqL X.K H a vs ∧ Reps (gx X W hid) ρ H xs vs := by
          intro hid ρ st H S r xs e
          unfold seqOf at e
          split at e
          · rename_i zs ez
            cases e
            obtain ⟨b, ws, eb, hb, rb⟩ := rep_lst S r ez
            cases eb
            exact ⟨ws, SqL.of hb, rb⟩
          · rename_i zs ez
            rcases rep_deref S r with ⟨n, b, _, _, o⟩ | ⟨_, z⟩
            · rw [ez] at o; exact False.elim o
            · rw [z] at ez; exact absurd ⟨zs, ez⟩ ht
          · cases e
        obtain ⟨ws, hs, _⟩ := key hid ρ1 st1 H1 R1.s rp xs e
        exact ⟨a, rfl, .inl ⟨⟨ws, hs⟩, P2 _ (jok_l key)⟩⟩
    · exact False.elim P1
def mkRng (lo hi : Int) (st : VSt) : Res IT := if -(2 ^ 62) ≤ lo ∧ lo < 2 ^ 62 ∧ -(2 ^ 62) ≤ hi ∧ hi < 2 ^ 62 then .ok (.rng lo (hi - lo).toNat) st else .bad
def iRng1' (a : EM) : IM := fun env st => (a env st).bind fun p s => match p with
  | .int n => mkRng 0 n s
  | _ => .bad
def iRng2' (a b : EM) : IM := fun env st => (a env st).bind fun p s => (b env s).bind fun q s2 => match p, q with
  | .int lo, .int hi => mkRng lo hi s2
  | _, _ => .bad
theorem jok_r {lo : Int} {n : Nat} {v : V} : JOk X W (.rng lo n) v (Itr lo n) := by
  intro hid ρ st H S _ xs e
  have e : some ((List.range n).map fun (k : Nat) => PV.int (lo + (k : Int))) = some xs := e
  cases e
  refine ⟨(List.range n).map fun (k : Nat) => V.int (lo + (k : Int)), ?_, fun i hi => ?_, fun i hi => ⟨?_, fun x H2 h => ⟨h.1, ?_⟩⟩⟩
  · have : ∀ l : List Nat, Reps (gx X W hid) ρ H (l.map fun (k : Nat) => PV.int (lo + (k : Int))) (l.map fun (k : Nat) => V.int (lo + (k : Int))) := by
      intro l
      induction l with
      | nil => rfl
      | cons k l ih => exact ⟨_, _, rfl, rfl, ih⟩
    exact this _
  · show n ≤ i
    simpa using hi
  · show i < n
    simpa using hi
  · have hi : i < n := by simpa using hi
    rw [h.2]
    simp [hi]
theorem evi_rng1 {a : Expr} {m : EM} {f : Bool} {p pos : Pos} (ha : Ev X W f a m) (hm : X.mg "range" = none) (hg : Gl X "range" := by rfl) (hs : starEach [a] X.env = [(false, eval a X.env)] := by rfl) : EvI X W tg (.Call (.Name "range" p) [a] [] pos) (iRng1' m) :=
  PI.anti (pi_range1 hg hm (pa_cons ha pa_nil hs) hs) fun σ H R ⟨hid, ρ, env, st, Re, P⟩ => cE_use Re P fun ρ1 st1 H1 p v l R1 rp _ P1 => by
    cases p with
    | int n =>
      replace P1 : Post (gx X W hid) ρ1 H1 (mkRng 0 n st1) _ := P1
      unfold mkRng at P1
      split at P1
      · rename_i hz
        rw [Int.sub_zero] at P1
        refine ⟨n, by rw [show v = .int n from rp], hz.2.2.1, hz.2.2.2, (P1.now R1.s).2 v trivial _ jok_r⟩
      · exact False.elim P1
    | _ => exact False.elim P1
theorem evi_rng2 {a b : Expr} {ma mb : EM} {f f2 : Bool} {p pos : Pos} (ha : Ev X W f a ma) (hb : Ev X W f2 b mb) (hm : X.mg "range" = none) (hg : Gl X "range" := by rfl) (hs : starEach [a, b] X.env = [(false, eval a X.env), (false, eval b X.env)] := by rfl)
    (hs2 : starEach [b] X.env = [(false, eval b X.env)] := by rfl) : EvI X W tg (.Call (.Name "range" p) [a, b] [] pos) (iRng2' ma mb) :=
  PI.anti (pi_range2 hg hm (pa_cons ha (pa_cons hb pa_nil hs2) (by rw [hs, hs2])) hs hs2) fun σ H R ⟨hid, ρ, env, st, Re, P⟩ => cE_use Re P fun ρ1 st1 H1 p v l R1 rp _ P1 => cE_use R1 P1 fun ρ2 st2 H2 q w l2 R2 rq _ P2 => by
    replace rp := Rep.later l2 _ _ rp
    clear P1
    split at P2
    · rename_i lo hi
      unfold mkRng at P2
      split at P2
      · rename_i hz
        refine ⟨lo, hi, by rw [show v = .int lo from rp, show w = .int hi from rq], hz, (P2.now R2.s).2 v trivial _ jok_r⟩
      · exact False.elim P2
    · exact False.elim P2
end

/-! ## for -/
def forP (j : IT) (L : Nat) (B : PV → VEnv → VSt → SR) : Nat → VEnv → VSt → SR
  | 0, env, st => match Itm j st with
    | some xs => if xs.length = L then .nx env st else .bad
    | none => .bad
  | m + 1, env, st => match Itm j st with
    | some xs => if xs.length = L then match xs[L - (m + 1)]? with
        | some x => match B x env st with
          | .nx e s => forP j L B m e s
          | .ct e s => forP j L B m e s
          | .bk e s => .nx e s
          | .rt p s => .rt p s
          | .ex c fs s => .ex c fs s
          | .bad => .bad
        | none => .bad
      else .bad
    | none => .bad
def bodyP (g : GM) (body : SM) : PV → VEnv → VSt → SR := fun x e s => match g x e with
  | some e' => body e' s
  | none => .bad
def sFor (it : IM) (g : GM) (body : SM) : SM := fun env st => (it env st).s fun j s1 => match Itm j s1 with
  | some xs => forP j xs.length (bodyP g body) xs.length env s1
  | none => .bad
theorem evs_for {X : Cx} {W : XD} {fr : Bool} {vs : List Nat} {tg iter : Expr} {body : List Stmt} {it : IM} {g : GM} {mb : SM} {pos : Pos} (hp : PassesOwn (model X.prog X.w) X.A X.env X.xe) (hc : X.calm = true) (hi : EvI X W tg iter it) (hg : EvG X W vs tg g) (hb : EvSs X W fr body mb)
    (hs : ∀ x, foldedSetIterable iter X.env x = pure x := by intro _; rfl) : EvS X W fr (.For tg iter body [] pos) (sFor it g mb) :=
  PS.anti (ps_for hp hc hi hg hb hs) fun D σ H ⟨hid, ρ, env, st, R, P⟩ => by
    refine ⟨hid, ρ, env, st, R, (PostS.ofRes P).imp fun ρ1 st1 H1 j l1 S1 P1 => ⟨?_, fun v rj J hJ => ?_⟩⟩
    · cases e : Itm j st1 with
      | none => rw [e] at P1; exact False.elim P1
      | some xs => rfl
    · split at P1
      · rename_i xs ex
        have R1 := R.later l1 S1
        refine ⟨fun i m σ' H' => ∃ ρ' env' st', Later ρ1 H1 ρ' H' ∧ Rel (gx X W hid) ρ' env' st' σ' H' ∧ m + i = xs.length ∧ PostS (gx X W hid) ρ' H' fr (forP j xs.length (bodyP g mb) m env' st') D, ⟨xs.length, ρ1, env, st1, Later.refl _ _, R1, by omega, P1⟩, ?_⟩
        rintro i m σ' H' ⟨ρ', env', st', l, R', hm, P'⟩
        have rj' := rj.later l
        cases m with
        | zero =>
          unfold forP at P'
          split at P'
          · rename_i ys ey
            split at P'
            · rename_i hl
              obtain ⟨ws, _, h1, _⟩ := hJ hid ρ' st' H' R'.s rj' ys ey
              exact .inl ⟨h1 i (by omega), P' ρ' H' σ' (Later.refl _ _) R'⟩
            · exact False.elim P'
          · exact False.elim P'
        | succ m =>
          unfold forP at P'
          split at P'
          · rename_i ys ey
            split at P'
            · rename_i hl
              obtain ⟨ws, hr, _, h2⟩ := hJ hid ρ' st' H' R'.s rj' ys ey
              have hi : i < ys.length := by omega
              obtain ⟨h3, h4⟩ := h2 i hi
              have ei : xs.length - (m + 1) = i := by omega
              rw [ei] at P'
              rw [List.getElem?_eq_getElem hi] at P'
              refine .inr ⟨h3, fun σ2 H2 => ∃ ρ2 env2 st2, Later ρ1 H1 ρ2 H2 ∧ Rel (gx X W hid) ρ2 env2 st2 σ2 H2 ∧ PostS (gx X W hid) ρ2 H2 fr (forP j xs.length (bodyP g mb) m env2 st2) D, fun σ2 H2 ⟨ρ2, env2, st2, l2, R2, P2⟩ => ⟨m, by omega, ρ2, env2, st2, l2, R2, by omega, P2⟩, fun x H2 hy => ?_⟩
              obtain ⟨rfl, hx⟩ := h4 x H2 hy
              obtain ⟨w, hw, rw'⟩ := hr.get (List.getElem?_eq_getElem hi)
              rw [hx] at hw
              cases hw
              cases eg : g ys[i] env' with
              | none =>
                simp only [bodyP, eg] at P'
                exact False.elim P'
              | some env2 =>
                refine ⟨hid, ρ', env', st', ys[i], env2, R', rw', eg, fun σ3 E3 _ => ⟨hid, ρ', env2, st', ⟨R'.s, E3⟩, ?_⟩⟩
                simp only [bodyP, eg] at P'
                cases eb : mb env2 st' with
                | nx e s =>
                  rw [eb] at P'
                  exact fun ρ4 H4 σ4 l4 R4 => ⟨ρ4, e, s, l.trans l4, R4, PostS.move l4 P'⟩
                | ct e s =>
                  rw [eb] at P'
                  exact fun ρ4 H4 σ4 l4 R4 => ⟨ρ4, e, s, l.trans l4, R4, PostS.move l4 P'⟩
                | bk e s =>
                  rw [eb] at P'
                  exact P'
                | rt p s =>
                  rw [eb] at P'
                  exact P'
                | ex c fs s =>
                  rw [eb] at P'
                  exact P'
                | bad =>
                  rw [eb] at P'
                  exact P'
            · exact False.elim P'
          · exact False.elim P'
      · exact False.elim P1
end Vm

namespace Vm
open PySem PySem.Spec L2

/-! ## comprehensions -/
def Res.nox {α : Type} : Res α → Res α
  | .ok a st => .ok a st
  | _ => .bad
def XD.no (W : XD) : XD := ⟨W.C, fun _ _ _ => False⟩
def compP (j : IT) (L : Nat) (f : PV → VSt → Res (Option PV)) : Nat → List PV → VSt → Res (List PV)
  | 0, acc, st => match Itm j st with
    | some xs => if xs.length = L then .ok acc st else .bad
    | none => .bad
  | m + 1, acc, st => match Itm j st with
    | some xs => if xs.length = L ∧ acc.length < 1000000 then match xs[L - (m + 1)]? with
        | some x => (f x st).bind fun o s => compP j L f m (match o with
          | some y => acc ++ [y]
          | none => acc) s
        | none => .bad
      else .bad
    | none => .bad
def compF (g : GM) (tst elt : EM) (vs : List Nat) (env : VEnv) : PV → VSt → Res (Option PV) := fun x s => match g x (wipeE env vs) with
  | some e => (tst e s).nox.bind (onB fun b s2 => if b = true then (elt e s2).nox.bind fun y s3 => .ok (some y) s3 else .ok none s2)
  | none => .bad
def tTrue : EM := fun _ st => .ok (.bl true) st
def eComp (it : IM) (g : GM) (tst elt : EM) (vs : List Nat) : EM := fun env st => (it env st).bind fun j s1 => match Itm j s1 with
  | some xs => (compP j xs.length (compF g tst elt vs env) xs.length [] s1).bind fun ys s => .ok (.lst ys) s
  | none => .bad
def EvTs (X : Cx) (W : XD) (ifs : List Expr) (m : EM) : Prop := PTs X ifs (cT X W m)
theorem PTs.anti {X : Cx} {e : List Expr} {t u : TT} (h : PTs X e t) (k : ∀ σ H Q, u σ H Q → t σ H Q) : PTs X e u := ⟨fun pins s σ H Q I w => h.run pins s σ H Q I (k σ H Q w)⟩
theorem evts_nil {X : Cx} {W : XD} : EvTs X W [] tTrue := PTs.anti pts_nil fun σ H Q ⟨hid, ρ, env, st, R, P⟩ => P.now R.s
theorem evts_one {X : Cx} {W : XD} {c : Expr} {m : EM} (h : EvT X W c m) : EvTs X W [c] m := pts_one h

theorem Res.bind_assoc {α β γ : Type} (r : Res α) (a : α → VSt → Res β) (b : β → VSt → Res γ) : (r.bind a).bind b = r.bind fun x s => (a x s).bind b := by cases r <;> rfl
theorem Post.bind0 {α β : Type} {G : Gx} {ρ : List Addr} {H : Hp} {r : Res α} {k : α → VSt → Res β} {K : KF β} (h : Post G ρ H (r.bind k) K) : Post G ρ H r (fun _ st1 _ a => Post G ρ H (k a st1) K) := by
  cases r with
  | bad => exact h
  | ex c fs s => exact h
  | ok a st' => exact fun _ _ _ _ => h
theorem Post.move {α : Type} {G : Gx} {ρ ρ1 : List Addr} {H H1 : Hp} {r : Res α} {K : KF α} (l : Later ρ H ρ1 H1) (h : Post G ρ H r K) : Post G ρ1 H1 r K := by
  cases r with
  | bad => exact h
  | ex c fs s => exact XPost.move l h
  | ok a st' => exact fun ρ' H' l' s => h ρ' H' (l.trans l') s
theorem Post.hide {α : Type} {G : Gx} {ρ : List Addr} {H : Hp} {d : Addr} {xd : XD} {r : Res α} {K : KF α} (h : Post G ρ H r.nox K) : Post (G.hide d xd) ρ H r K := by
  cases r with
  | bad => exact h
  | ex c fs s => exact h.elim
  | ok a st' => exact fun ρ' H' l' s => h ρ' H' l' (srel_show s)
theorem repJ_hide {G : Gx} {ρ : List Addr} {H : Hp} {d : Addr} {xd : XD} {o : HO} (hd : H d = none) {j : IT} {v : V} (h : RepJ G ρ H j v) : RepJ (G.hide d xd) ρ (upd H d o) j v := by
  cases j with
  | seq p => exact rep_hide hd p v h
  | rng _ _ => trivial
theorem repJ_wr {G : Gx} {ρ : List Addr} {H : Hp} {d : Addr} {o : HO} (hd : d ∈ ρ ∨ d ∈ G.hid) (mu : Mut (H d)) {j : IT} {v : V} (h : RepJ G ρ H j v) : RepJ G ρ (upd H d o) j v := by
  cases j with
  | seq p => exact rep_wr hd mu p v h
  | rng _ _ => trivial
theorem repJ_wx {G : Gx} {ρ : List Addr} {H : Hp} {xd : XD} {j : IT} {v : V} (h : RepJ G ρ H j v) : RepJ (G.wx xd) ρ H j v := by
  cases j with
  | seq p => exact rep_wx p v h
  | rng _ _ => trivial
theorem gx_hide (X : Cx) (W xd : XD) (hid : List Addr) (d : Addr) : (gx X W hid).hide d xd = gx X xd (d :: hid) := rfl
section
variable {X : Cx} {W : XD} {elt tg iter : Expr} {ifs : List Expr} {scope : Scope} {own : List (Str × Nat)} {pos : Pos} {it : IM} {g : GM} {mt me : EM} {fe : Bool}
/-- the reading of a comprehension, by the meanings of its parts -/
theorem lc_rd {vs : List Nat} {σ : L2.St} {H : Hp} {Q : VK} (h : cE X W true (eComp it g mt me vs) σ H Q) : tLc (cI X W it) (cG X W.no vs g) (cT X W.no mt) (cE X W.no fe me) vs σ H Q := by
  obtain ⟨hid, ρ, env, st, R, P⟩ := h
  refine ⟨hid, ρ, env, st, R, P.bind.imp fun ρ1 st1 H1 j l1 S1 P1 => ?_⟩
  have P1' : Post (gx X W hid) ρ1 H1 (match Itm j st1 with
      | some xs => (compP j xs.length (compF g mt me vs env) xs.length [] st1).bind fun ys s => .ok (.lst ys) s
      | none => .bad) (kE (gx X W hid) H true Q) := P1
  cases ex : Itm j st1 with
  | none => rw [ex] at P1'; exact False.elim P1'
  | some xs =>
    rw [ex] at P1'
    refine ⟨rfl, fun v rj J hJ D hD => ?_⟩
    have hDH : H D = none := l1.back hD
    have R1 := R.later l1 S1
    let G' := gx X W.no (D :: hid)
    refine ⟨fun i m H' => ∃ ρ' st' acc accV, Later ρ1 H1 ρ' H' ∧ SRel G' ρ' st' H' ∧ EnvR G' ρ' H' (wipeE env vs) (L2.wipe σ vs) ∧ RepJ G' ρ' H' j v ∧ H' D = some (.lst accV) ∧ Reps G' ρ' H' acc accV ∧ m + i = xs.length ∧
        Post (gx X W hid) ρ1 H1 ((compP j xs.length (compF g mt me vs env) m acc st').bind fun ys s => .ok (.lst ys) s) (kE (gx X W hid) H true Q),
      ⟨xs.length, ρ1, st1, [], [], Later.new hD, srel_hide hD S1, (envR_hide hD R1.e).wipe vs, repJ_hide hD rj, upd_same, rfl, by omega, P1'⟩, ?_⟩
    rintro i m H' ⟨ρ', st', acc, accV, l, S', E', rj', hD', ra, hm, P'⟩
    have hDin : D ∈ ρ' ∨ D ∈ G'.hid := .inr List.mem_cons_self
    have nD : D ∉ ρ' := (S'.hid D List.mem_cons_self).1
    cases m with
    | zero =>
      unfold compP at P'
      split at P'
      · rename_i ys ey
        split at P'
        · rename_i hl
          obtain ⟨ws, _, h1, _⟩ := hJ (D :: hid) ρ' st' H' (srel_wx (xd := W) S') (repJ_wx (xd := W) rj') ys ey
          have l' : Later ρ H ρ' H' := l1.trans l
          have nh : D ∉ hid := (S1.freshH hD : D ∉ (gx X W hid).hid)
          refine .inl ⟨h1 i (by omega), ?_⟩
          have P2 : Post (gx X W hid) ρ1 H1 (.ok (.lst acc) st') (kE (gx X W hid) H true Q) := P'
          exact P2 ρ' H' l (srel_show (G := gx X W hid) S') (.ref D) ⟨D, accV, rfl, nD, nh, hD', reps_show (G := gx X W hid) acc accV ra⟩ fun _ a e => by cases e; exact hDH
        · exact False.elim P'
      · exact False.elim P'
    | succ m =>
      unfold compP at P'
      split at P'
      · rename_i ys ey
        split at P'
        · rename_i hl
          obtain ⟨ws, hr, _, h2⟩ := hJ (D :: hid) ρ' st' H' (srel_wx (xd := W) S') (repJ_wx (xd := W) rj') ys ey
          have hi : i < ys.length := by omega
          obtain ⟨h3, h4⟩ := h2 i hi
          have ei : xs.length - (m + 1) = i := by omega
          rw [ei, List.getElem?_eq_getElem hi] at P'
          refine .inr ⟨h3, fun H2 => ∃ ρ2 st2 acc2 accV2, Later ρ1 H1 ρ2 H2 ∧ SRel G' ρ2 st2 H2 ∧ EnvR G' ρ2 H2 (wipeE env vs) (L2.wipe σ vs) ∧ RepJ G' ρ2 H2 j v ∧ H2 D = some (.lst accV2) ∧ Reps G' ρ2 H2 acc2 accV2 ∧
              Post (gx X W hid) ρ1 H1 ((compP j xs.length (compF g mt me vs env) m acc2 st2).bind fun ys s => .ok (.lst ys) s) (kE (gx X W hid) H true Q),
            fun H2 ⟨ρ2, st2, acc2, accV2, a1, a2, a3, a4, a5, a6, a7⟩ => ⟨m, by omega, ρ2, st2, acc2, accV2, a1, a2, a3, a4, a5, a6, by omega, a7⟩, fun x H2 hy => ?_⟩
          obtain ⟨rfl, hx⟩ := h4 x H2 hy
          obtain ⟨w, hw, rw'⟩ := hr.get (List.getElem?_eq_getElem hi)
          rw [hx] at hw
          cases hw
          replace P' : Post (gx X W hid) ρ1 H1 (((compF g mt me vs env ys[i] st').bind fun o s => compP j xs.length (compF g mt me vs env) m (match o with
            | some y => acc ++ [y]
            | none => acc) s).bind fun ys s => .ok (.lst ys) s) (kE (gx X W hid) H true Q) := P'
          cases eg : g ys[i] (wipeE env vs) with
          | none =>
            simp only [compF, eg] at P'
            exact False.elim P'
          | some env2 =>
            refine ⟨D :: hid, ρ', wipeE env vs, st', ys[i], env2, ⟨S', E'⟩, rep_wx (xd := W.no) _ _ rw', eg, fun σ3 E3 hw3 => ⟨?_, D :: hid, ρ', env2, st', ⟨S', E3⟩, ?_⟩⟩
            · rw [hw3]
              have idem : ∀ us : List Nat, ∀ τ : L2.St, L2.wipe (L2.wipe τ us) us = L2.wipe τ us := by
                intro us
                intro τ
                have h1 : ∀ (as bs : List Nat) (τ : L2.St), (∀ a ∈ as, a ∈ bs) → L2.wipe (L2.wipe τ as) bs = L2.wipe τ bs := by
                  intro as
                  induction as with
                  | nil => intro bs τ _; rfl
                  | cons a as ih =>
                    intro bs τ hs
                    show L2.wipe ((L2.wipe τ as).set a none) bs = _
                    rw [wipe_set (hs a List.mem_cons_self)]
                    exact ih bs τ fun b hb => hs b (List.mem_cons_of_mem _ hb)
                exact h1 us us τ fun a h => h
              exact idem vs σ
            · simp only [compF, eg] at P'
              rw [Res.bind_assoc, Res.bind_assoc] at P'
              refine (Post.hide (G := gx X W hid) (d := D) (xd := W.no) (Post.move l P'.bind0)).imp fun ρ4 st4 H4 b l4 S4 P4 => ?_
              have hD4 : H4 D = some (.lst accV) := l4.keep D _ hD' nD
              cases b with
              | bl b =>
                cases b with
                | false =>
                  exact ⟨ρ4, st4, acc, accV, l.trans l4, S4, E'.later l4, rj'.later l4, hD4, Reps.later l4 _ _ ra, P4⟩
                | true =>
                  refine ⟨D :: hid, ρ4, env2, st4, ⟨S4, E3.later l4⟩, ?_⟩
                  replace P4 : Post (gx X W hid) ρ1 H1 (((me env2 st4).nox.bind fun y s3 => Res.ok (some y) s3).bind fun o s => (compP j xs.length (compF g mt me vs env) m (match o with
                    | some y => acc ++ [y]
                    | none => acc) s).bind fun ys s => .ok (.lst ys) s) (kE (gx X W hid) H true Q) := P4
                  rw [Res.bind_assoc] at P4
                  refine (Post.hide (G := gx X W hid) (d := D) (xd := W.no) (Post.move (l.trans l4) P4.bind0)).imp fun ρ5 st5 H5 y l5 S5 P6 u ry _ => ?_
                  have hD5 : H5 D = some (.lst accV) := l5.keep D _ hD4 (S4.hid D List.mem_cons_self).1
                  have ra5 := Reps.later (l4.trans l5) _ _ ra
                  have mu : Mut (H5 D) := by rw [hD5]; trivial
                  have hin : D ∈ ρ5 ∨ D ∈ (gx X W.no (D :: hid)).hid := .inr List.mem_cons_self
                  refine ⟨accV, hD5, ?_, ρ5, st5, acc ++ [y], accV ++ [u], (l.trans (l4.trans l5)).mut hD, srel_hwr List.mem_cons_self mu S5, envR_wr hin mu (E'.later (l4.trans l5)), repJ_wr hin mu (rj'.later (l4.trans l5)), upd_same, reps_wr hin mu _ _ (ra5.append (Reps.one ry)), P6⟩
                  rw [ra.length]
                  exact szl _ (by omega)
              | _ => exact False.elim P4
        · exact False.elim P'
      · exact False.elim P'
theorem ev_comp (hc : X.calm = true) (nd : X.N.Nodup) (hi : EvI X W tg iter it) (ok : BlkOk X.N X.env.scope scope own)
    (hg : ∀ (s : Shared) (H : Hp) (C : Addr) (cl : List (Str × Addr)) (fp : List Addr), EvG (X.blk s H scope (compEnvC scope cl C X.env) fp) W.no (own.map Prod.snd) tg g)
    (ht : ∀ (s : Shared) (H : Hp) (C : Addr) (cl : List (Str × Addr)) (fp : List Addr), EvTs (X.blk s H scope (compEnvC scope cl C X.env) fp) W.no ifs mt)
    (he : ∀ (s : Shared) (H : Hp) (C : Addr) (cl : List (Str × Addr)) (fp : List Addr), Ev (X.blk s H scope (compEnvC scope cl C X.env) fp) W.no fe elt me) (hs : ∀ x, foldedSetIterable iter X.env x = pure x := by intro _; rfl) :
    Ev X W true (.ListComp elt [⟨tg, iter, ifs, 0⟩] scope pos) (eComp it g mt me (own.map Prod.snd)) :=
  PE.anti (pe_lc (g := cG X W.no (own.map Prod.snd) g) (tt := cT X W.no mt) (te := cE X W.no fe me) hc nd hi ok hg ht he hs) fun σ H Q h => lc_rd h
/-- name = [..], the name a local: m is the comprehension, or the comprehension boxed -/
theorem evs_setLc {fr f : Bool} {i : Nat} {y : Str} {py spos : Pos} {m : EM} (hc : X.calm = true) (nd : X.N.Nodup) (hm : ∀ σ H Q, cE X W f m σ H Q → cE X W true (eComp it g mt me (own.map Prod.snd)) σ H Q) (hi : EvI X W tg iter it) (ok : BlkOk X.N X.env.scope scope own)
    (hg : ∀ (s : Shared) (H : Hp) (C : Addr) (cl : List (Str × Addr)) (fp : List Addr), EvG (X.blk s H scope (compEnvC scope cl C X.env) fp) W.no (own.map Prod.snd) tg g)
    (ht : ∀ (s : Shared) (H : Hp) (C : Addr) (cl : List (Str × Addr)) (fp : List Addr), EvTs (X.blk s H scope (compEnvC scope cl C X.env) fp) W.no ifs mt)
    (he : ∀ (s : Shared) (H : Hp) (C : Addr) (cl : List (Str × Addr)) (fp : List Addr), Ev (X.blk s H scope (compEnvC scope cl C X.env) fp) W.no fe elt me)
    (hsw : swapsWith (.ListComp elt [⟨tg, iter, ifs, 0⟩] scope pos) (some (.Name y py)) spos.line X.env = pure true := by exact sw_true rfl rfl rfl (by decide +kernel)) (hy : X.N[i]? = some y := by rfl) (hyl : X.env.scope.names.lookup y = some .local := by rfl)
    (hs : ∀ x, foldedSetIterable iter X.env x = pure x := by intro _; rfl) : EvS X W fr (.Assign [.Name y py] (.ListComp elt [⟨tg, iter, ifs, 0⟩] scope pos) spos) (sSet i m) :=
  PS.anti (ps_setLc (g := cG X W.no (own.map Prod.snd) g) (tt := cT X W.no mt) (te := cE X W.no fe me) hc nd hy hyl hsw hi ok hg ht he hs) fun D σ H ⟨hid, ρ, env, st, R, P⟩ =>
    lc_rd (hm _ _ _ (sE_use (f := f) R P fun ρ1 st1 H1 p v l R1 rp _ P1 => P1 ρ1 H1 _ (Later.refl _ _) ⟨R1.s, R1.e.set rp i⟩))
theorem lc_plain {m : EM} : ∀ σ H Q, cE X W true m σ H Q → cE X W true m σ H Q := fun _ _ _ h => h
theorem lc_box {m : EM} : ∀ σ H Q, cE X W false (eBox m) σ H Q → cE X W true m σ H Q := fun _ _ _ h => box_rd h
end
end Vm

namespace Vm
open PySem PySem.Spec L2

/-! ## what a def means -/
structure FnD where
  np : Nat
  ns : Nat
  fr : Bool
  body : Tbl → SM
def oldLoc (k : Nat) (p : PV) : Bool := match p with
  | .loc n => decide (n < k)
  | _ => false
def endI (fr : Bool) (k : Nat) (r : SR) : Res PV := match r with
  | .rt p st' => if (fr && oldLoc k p) = true then .bad else .ok (freeze st' k p) (st'.take k)
  | .nx _ st' => .ok .non (st'.take k)
  | .ex c fs st' => if pures fs = true then .ex c fs (st'.take k) else .bad
  | _ => .bad
def callI (d : FnD) (T : Tbl) (args : List PV) (st : VSt) : Res PV := if args.length = d.np then endI d.fr st.length (d.body T (args.map some ++ List.replicate (d.ns - d.np) none) st) else .bad

mutual
theorem rep_freeze {G : Gx} {ρ δ : List Addr} {st : VSt} {H : Hp} (S : SRel G (ρ ++ δ) st H) : ∀ (p : PV) (v : V), Rep G (ρ ++ δ) H p v → Rep G ρ H (freeze st ρ.length p) v
  | .non, v, h => h
  | .bl b, v, h => h
  | .int i, v, h => h
  | .str x, v, h => h
  | .tup xs, v, h => by
    obtain ⟨a, vs, e, s, r⟩ := h
    exact ⟨a, vs, e, s, reps_freeze S xs vs r⟩
  | .lst xs, v, h => by
    obtain ⟨a, vs, e, n, n2, s, r⟩ := h
    exact ⟨a, vs, e, fun z => n (List.mem_append_left _ z), n2, s, reps_freeze S xs vs r⟩
  | .dct ks xs, v, h => by
    obtain ⟨a, vs, e, n, n2, z, s, r⟩ := h
    exact ⟨a, vs, e, fun z => n (List.mem_append_left _ z), n2, z, s, reps_freeze S xs vs r⟩
  | .sset xs, v, h => by
    obtain ⟨a, e, n, n2, s⟩ := h
    exact ⟨a, e, fun z => n (List.mem_append_left _ z), n2, s⟩
  | .raw _, v, h => h
  | .scr ns, v, h => by
    obtain ⟨a, e, s⟩ := h
    refine ⟨a, e, ?_⟩
    rcases s with ⟨h, n, n2⟩ | h
    · exact .inl ⟨h, fun z => n (List.mem_append_left _ z), n2⟩
    · exact .inr h
  | .loc n, v, h => by
    obtain ⟨a, e, hn⟩ := h
    by_cases hlt : n < ρ.length
    · have : freeze st ρ.length (.loc n) = .loc n := by unfold freeze; rw [if_pos hlt]
      rw [this]
      exact ⟨a, e, by rw [List.getElem?_append_left hlt] at hn; exact hn⟩
    · have h1 : n < st.length := by rw [← S.len]; exact (List.getElem?_eq_some_iff.mp hn).1
      have : freeze st ρ.length (.loc n) = st[n] := by
        unfold freeze
        rw [if_neg hlt, List.getD_eq_getElem?_getD, List.getElem?_eq_getElem h1]; rfl
      rw [this, e]
      obtain ⟨o, f⟩ := S.obj n st[n] a (List.getElem?_eq_getElem h1) hn
      refine objR_rep f o (fun z => ?_) fun z => (S.hid a z).1 (List.mem_of_getElem? hn)
      obtain ⟨i, hi, ei⟩ := List.getElem_of_mem z
      have e2 : (ρ ++ δ)[i]? = some a := by rw [List.getElem?_append_left hi, List.getElem?_eq_getElem hi, ei]
      have := nodup_ix' S.nd hn e2
      omega
theorem reps_freeze {G : Gx} {ρ δ : List Addr} {st : VSt} {H : Hp} (S : SRel G (ρ ++ δ) st H) : ∀ (ps : List PV) (vs : List V), Reps G (ρ ++ δ) H ps vs → Reps G ρ H (freezes st ρ.length ps) vs
  | [], vs, h => h
  | p :: ps, vs, h => by
    obtain ⟨v, r, e, h1, h2⟩ := h
    exact ⟨v, r, e, rep_freeze S p v h1, reps_freeze S ps r h2⟩
end
theorem srel_cut {G : Gx} {ρ δ : List Addr} {st : VSt} {H : Hp} (S : SRel G (ρ ++ δ) st H) : SRel G ρ (st.take ρ.length) H := by
  refine ⟨(List.nodup_append.mp S.nd).1, ?_, fun n p a e1 e2 => ?_, fun d hd => ?_⟩
  · have := S.len
    rw [List.length_append] at this
    rw [List.length_take]; omega
  · have hn := (List.getElem?_eq_some_iff.mp e2).1
    rw [List.getElem?_take_of_lt hn] at e1
    obtain ⟨o, f⟩ := S.obj n p a e1 (by rw [List.getElem?_append_left hn]; exact e2)
    exact ⟨objR_pure f o, f⟩
  · obtain ⟨h1, u, e⟩ := S.hid d hd
    exact ⟨fun z => h1 (List.mem_append_left _ z), u, e⟩
theorem Later.cut {ρ ρ' : List Addr} {H H' : Hp} (l : Later ρ H ρ' H') : Later ρ H ρ H' := ⟨⟨[], by simp, by simp⟩, l.keep, l.dom, l.tup, l.frz⟩

/-- around a body nothing is let out -/
theorem takes0N {X : Cx} : L2N.Takes X (fun _ _ _ _ => False) := fun _ _ x => by
  obtain ⟨_, _, _, _, _, _, _, _, _, _, _, _, _, _, _, _, z⟩ := x
  exact z.elim
/-- a def that may raise -/
theorem okN {P : Program} {w : World} {K : PySem.W.Frag} {mg : Str → Option Value} {base : Heap} {x qual : Str} {st : Stmt} {f : Addr} {fd : FuncData} {N ps : List Str} {k : Nat} {sp : Sp} (F : Fun K x qual st f fd) (S : FnScope N ps (defScope st)) (len : ∀ vs H Q E, sp vs H Q E → vs.length = ps.length)
    (hbody : ∀ (cdv : Value) (A : Around) (outer : List Env) (s : Shared) (H : Hp) (vs : List V) (Q : VK) (E : XK), Room k (A.deeper (PyProof.Rows.envOfC qual (defScope st) s.heap.objs.size f cdv)) → sp vs H Q E →
      ∃ t, PSs (cxOf (L2N.CX P w) P w K mg base N qual (defScope st) f cdv A outer s H E) (defBody st) t ∧ t { nx := fun _ H' => Q .non H', rt := Q } (start N vs) H) : FnOk P w K mg base (L2N.CX P w) (k + 1) f fd ps sp := by
  obtain ⟨oc, od, kV, doc, pm, an, cdv, ct, osl, rfl, lk, hcd⟩ := F.ex
  exact fn_of lk hcd S len (hbody cdv)
def gk (P : Program) (w : World) (K : PySem.W.Frag) (hid : List Addr) (W : XD) : Gx := ⟨P, w, K, hid, W⟩
theorem xcR_cut {G : Gx} {ρ ρ' : List Addr} {H : Hp} : ∀ {fs : List PV} {d : Option Addr}, pures fs = true → XcR G ρ H fs d → XcR G ρ' H fs d
  | [], _, _, h => h
  | [_], _, _, h => h.elim
  | _ :: _ :: _ :: _, _, _, h => h.elim
  | [p, q], d, z, h => by
    obtain ⟨dd, v, w, e, e2, h1, h2⟩ := h
    have z' : (pureP p && (pureP q && true)) = true := z
    rw [Bool.and_true, Bool.and_eq_true] at z'
    exact ⟨dd, v, w, e, e2, rep_pure rfl p v z'.1 h1, rep_pure rfl q w z'.2 h2⟩
/-- what a def promises: its meaning -/
def spI (P : Program) (w : World) (K : PySem.W.Frag) (C : Nat → Addr) (fr : Bool) (I : List PV → VSt → Res PV) : Sp := fun vs H Q E => ∃ hid ρ st args, SRel (gk P w K hid ⟨C, E⟩) ρ st H ∧ Reps (gk P w K hid ⟨C, E⟩) ρ H args vs ∧ Post (gk P w K hid ⟨C, E⟩) ρ H (I args st) (kE (gk P w K hid ⟨C, E⟩) H fr Q)
structure Prg where
  nm : Nat → Str
  fr : Nat → Bool
  cnt : Nat
  xs : List (Str × Nat) := []
/-- an own class over ValueError without its own __init__ -/
structure ExF (K : PySem.W.Frag) (mg : Str → Option Value) (x : Str) (C : Addr) : Prop where
  g : mg x = some (.ref C)
  q : PySem.W.excIn K C [.type "ValueError", .type "Exception", .type "BaseException", .type "object"] "ValueError.__new__" = true
  k : PySem.W.keepIn K (.ref C) = true
  b : PySem.W.subIn K (.ref C) (.type "BaseException") = some true
  t : PySem.W.typeIn K (.ref C) = some (.type "type")
def FnAt (P : Program) (w : World) (K : PySem.W.Frag) (mg : Str → Option Value) (base : Heap) (C : Nat → Addr) (pr : Prg) (T : Tbl) (n : Nat) : Prop := ∀ i, i < pr.cnt → ∃ f fd ps, mg (pr.nm i) = some (.ref f) ∧ PySem.W.keepIn K (.ref f) = true ∧ Binds K fd ps [] ∧
  FnOk P w K mg base (L2N.CX P w) n f fd ps (spI P w K C (pr.fr i) (T i))
structure Cok (X : Cx) (W : XD) (pr : Prg) (T : Tbl) (n : Nat) (bs : List Str) (cs : List (Str × Int)) : Prop where
  calm : X.calm = true
  nd : X.N.Nodup
  room : Room n X.A
  fns : FnAt X.prog X.w X.K X.mg X.base W.C pr T n
  blt : ∀ x ∈ bs, X.mg x = none
  cst : ∀ p ∈ cs, ∃ u, X.mg p.1 = some u ∧ RelV (.int p.2) u
  tk : L2N.Takes X (fun cls d _ H => W.E cls d H)
  po : PassesOwn (model X.prog X.w) X.A X.env X.xe
  exc : ∀ p ∈ pr.xs, ExF X.K X.mg p.1 (W.C p.2)
section
variable {X : Cx} {W : XD} {pr : Prg} {T : Tbl} {n : Nat} {bs : List Str} {cs : List (Str × Int)}
theorem Cok.blk (c : Cok X W pr T n bs cs) (s : Shared) (H : Hp) (scope : Scope) (cenv : Env) (fp : List Addr) : Cok (X.blk s H scope cenv fp) W.no pr T n bs cs := ⟨c.calm, c.nd, c.room, c.fns, c.blt, c.cst, takes0N, PassesOwn.never, c.exc⟩
theorem Cok.u (c : Cok X W pr T n bs cs) : X.A.units + 64 < cLine := c.room.units
variable {e : Expr} {es : List Expr} {m : AM} {p pos : Pos} {x : Str}
theorem ev_call (c : Cok X W pr T n bs cs) (i : Nat) (ha : EvA X W (e :: es) m) (hi : i < pr.cnt := by decide) (hx : pr.nm i = x := by rfl) (hg : Gl X x := by rfl) (hdb : (x == ("__debug__" : Str)) = false := by decide)
    (he : starEach (e :: es) X.env = (false, eval e X.env) :: starEach es X.env := by rfl) (hpl : (backTo pos (starEach es X.env)).any (·.1) = false := by rfl) : Ev X W (pr.fr i) (.Call (.Name x p) (e :: es) [] pos) (eApp (T i) m) := by
  obtain ⟨f, fd, ps, hm, hk, hb, F⟩ := c.fns i hi
  rw [hx] at hm
  refine PE.anti (pe_call F c.room hg hm hk hb .nil (L2N.passes_call c.tk fun _ _ _ _ h => h) ha hdb he hpl) fun σ H Q ⟨hid, ρ, env, st, R, P⟩ => cA_use R P fun ρ1 st1 H1 args vs l R1 ra P1 => ?_
  exact ⟨hid, ρ1, st1, args, R1.s, by rw [List.append_nil]; exact ra, kE.back l P1⟩
theorem ev_blt {T' : Str} (c : Cok X W pr T n bs cs) (h : T' ∈ bs) : X.mg T' = none := c.blt T' h
end
section
variable {P : Program} {w : World} {K : PySem.W.Frag} {mg : Str → Option Value} {base : Heap}
theorem envR_start {G : Gx} {ρ : List Addr} {H : Hp} {N : List Str} {args : List PV} {vs : List V} {np ns : Nat} (r : Reps G ρ H args vs) (hn : args.length = np) (hs : ns = N.length) : EnvR G ρ H (args.map some ++ List.replicate (ns - np) none) (L2.start N vs) := by
  have hl := r.length
  subst hn hs
  unfold L2.start
  refine ⟨by simp [hl], fun i p e => ?_⟩
  by_cases hi : i < args.length
  · rw [List.getElem?_append_left (by simpa using hi), List.getElem?_map] at e
    cases q : args[i]? with
    | none => rw [q] at e; cases e
    | some x =>
      rw [q] at e
      cases e
      obtain ⟨v, h1, h2⟩ := r.get q
      exact ⟨v, by rw [List.getElem?_append_left (by simpa [hl] using hi), List.getElem?_map, h1]; rfl, h2⟩
  · rw [List.getElem?_append_right (by simpa using hi)] at e
    have := List.mem_of_getElem? e
    rw [List.mem_replicate] at this
    cases this.2
theorem spI_len {C : Nat → Addr} {fr : Bool} {d : FnD} {T : Tbl} {vs : List V} {H : Hp} {Q : VK} {E : XK} (h : spI P w K C fr (callI d T) vs H Q E) : vs.length = d.np := by
  obtain ⟨hid, ρ, st, args, _, r, P⟩ := h
  rw [r.length]
  unfold callI at P
  split at P
  · assumption
  · exact False.elim P
/-- what the caller wishes, at the body's start -/
theorem spI_run {C : Nat → Addr} {d : FnD} {T : Tbl} {N : List Str} {vs : List V} {H : Hp} {Q : VK} {E : XK} {X : Cx} (e1 : X.prog = P) (e2 : X.w = w) (e3 : X.K = K) (hns : d.ns = N.length) (h : spI P w K C d.fr (callI d T) vs H Q E) :
    cS X ⟨C, E⟩ d.fr (d.body T) { nx := fun _ H' => Q .non H', rt := Q } (start N vs) H := by
  subst e1 e2 e3
  obtain ⟨hid, ρ, st0, args, S0, r, P0⟩ := h
  have hl : args.length = d.np := by
    unfold callI at P0
    split at P0
    · assumption
    · exact False.elim P0
  refine ⟨hid, ρ, _, st0, ⟨S0, envR_start r hl hns⟩, ?_⟩
  unfold callI at P0
  rw [if_pos hl] at P0
  have hk : st0.length = ρ.length := S0.len.symm
  rw [hk] at P0
  generalize d.body T (args.map some ++ List.replicate (d.ns - d.np) none) st0 = r0 at P0
  cases r0 with
  | bad => exact False.elim P0
  | bk _ _ => exact False.elim P0
  | ct _ _ => exact False.elim P0
  | ex c fs st' =>
    replace P0 : Post (gk X.prog X.w X.K hid ⟨C, E⟩) ρ H (if pures fs = true then .ex c fs (st'.take ρ.length) else .bad) (kE (gk X.prog X.w X.K hid ⟨C, E⟩) H d.fr Q) := P0
    split at P0
    · rename_i hz
      intro ρ' H' dd l S' xr
      obtain ⟨δ, rfl, _⟩ := l.ext
      exact P0 ρ H' dd l.cut (srel_cut S') (xcR_cut hz xr)
    · exact False.elim P0
  | nx env' st' =>
    intro ρ' H' σ' l R'
    obtain ⟨δ, rfl, _⟩ := l.ext
    exact P0 ρ H' l.cut (srel_cut R'.s) .non rfl fun _ a e => nomatch e
  | rt p st' =>
    intro ρ' H' v l S' rp f
    obtain ⟨δ, rfl, hδ⟩ := l.ext
    replace S' : SRel (gk X.prog X.w X.K hid ⟨C, E⟩) (ρ ++ δ) st' H' := S'
    replace rp : Rep (gk X.prog X.w X.K hid ⟨C, E⟩) (ρ ++ δ) H' p v := rp
    replace P0 : Post (gk X.prog X.w X.K hid ⟨C, E⟩) ρ H (if (d.fr && oldLoc ρ.length p) = true then .bad else .ok (freeze st' ρ.length p) (st'.take ρ.length)) (kE (gk X.prog X.w X.K hid ⟨C, E⟩) H d.fr Q) := P0
    split at P0
    · exact False.elim P0
    · rename_i hz
      refine P0 ρ H' l.cut (srel_cut S') v (rep_freeze S' p v rp) fun hf a ea => ?_
      rcases f hf with ⟨m, rfl⟩ | g
      · rw [hf] at hz
        have hm : ¬ m < ρ.length := fun z => hz (by show (true && decide (m < ρ.length)) = true; simp [z])
        obtain ⟨b, eb, hb⟩ := rp
        rw [ea] at eb
        cases eb
        rw [List.getElem?_append_right (by omega)] at hb
        exact hδ _ (List.mem_of_getElem? hb)
      · exact g a ea
theorem fn_ok {x qual : Str} {st : Stmt} {f : Addr} {fd : FuncData} {N ps : List Str} {n : Nat} {d : FnD} {T : Tbl} {C : Nat → Addr} (F : Fun K x qual st f fd) (S : FnScope N ps (defScope st)) (hnp : d.np = ps.length) (hns : d.ns = N.length)
    (hb : ∀ (cdv : Value) (A : Around) (outer : List Env) (s : Shared) (H : Hp) (E : XK), Room n (A.deeper (PyProof.Rows.envOfC qual (defScope st) s.heap.objs.size f cdv)) → EvSs (cxOf (L2N.CX P w) P w K mg base N qual (defScope st) f cdv A outer s H E) ⟨C, E⟩ d.fr (defBody st) (d.body T)) :
    FnOk P w K mg base (L2N.CX P w) (n + 1) f fd ps (spI P w K C d.fr (callI d T)) :=
  okN F S (fun vs H Q E h => by rw [spI_len h, hnp]) fun cdv A outer s H vs Q E hr h => ⟨_, hb cdv A outer s H E hr, spI_run rfl rfl rfl hns h⟩
theorem fn_zero {f : Addr} {fd : FuncData} {ps : List Str} {fr : Bool} {C : Nat → Addr} : FnOk P w K mg base (L2N.CX P w) 0 f fd ps (spI P w K C fr fun _ _ => .bad) :=
  ⟨fun vs H Q E ⟨_, _, _, _, _, _, h⟩ => False.elim h, fun A outer s H args us vs Q E _ _ _ _ ⟨_, _, _, _, _, _, h⟩ => False.elim h⟩
/-- all defs, by levels -/
def Fm (D : Nat → FnD) : Nat → Tbl
  | 0 => fun _ _ _ => .bad
  | n + 1 => fun i => callI (D i) (Fm D n)
theorem all_fn {pr : Prg} {D : Nat → FnD} {C : Nat → Addr} (h : ∀ i, i < pr.cnt → ∃ f fd ps, mg (pr.nm i) = some (.ref f) ∧ PySem.W.keepIn K (.ref f) = true ∧ Binds K fd ps [] ∧
    ∀ n T, FnAt P w K mg base C pr T n → FnOk P w K mg base (L2N.CX P w) (n + 1) f fd ps (spI P w K C (pr.fr i) (callI (D i) T))) : ∀ n, FnAt P w K mg base C pr (Fm D n) n
  | 0 => fun i hi => by
    obtain ⟨f, fd, ps, h1, h2, h3, _⟩ := h i hi
    exact ⟨f, fd, ps, h1, h2, h3, fn_zero⟩
  | n + 1 => fun i hi => by
    obtain ⟨f, fd, ps, h1, h2, h3, h4⟩ := h i hi
    exact ⟨f, fd, ps, h1, h2, h3, h4 n _ (all_fn h n)⟩
end
def spLaw (K : PySem.W.Frag) : Sp := fun vs H Q _ => ∃ (a : Addr) (ns : List Int), vs = [.ref a] ∧ SqL K H a (ns.map V.int) ∧ ns.length ≤ 63 ∧ ∀ H', Q (.bl true) H'
theorem law_ok {P : Program} {w : World} {K : PySem.W.Frag} {C : Nat → Addr} {I : List PV → VSt → Res PV} {fr : Bool} (h : ∀ ns : List Int, ns.length ≤ 63 → ∃ st, I [.scr ns] [] = .ok (.bl true) st) : ∀ vs H Q E, spLaw K vs H Q E → spI P w K C fr I vs H Q E0 := by
  rintro vs H Q E ⟨a, ns, rfl, hS, hl, q⟩
  obtain ⟨st, e⟩ := h ns hl
  refine ⟨[], [], [], [.scr ns], ⟨List.nodup_nil, rfl, fun n p a e => by simp at e, fun d hd => by cases hd⟩, ⟨.ref a, [], rfl, ⟨a, rfl, ?_⟩, rfl⟩, ?_⟩
  · rcases hS with h | h
    · exact .inl ⟨h, by simp, by intro z; cases z⟩
    · exact .inr h
  · rw [e]
    intro ρ' H' l S v rv _
    obtain rfl : v = .bl true := rv
    exact q H'

/-- nothing leaves the law -/
theorem fn_cx0 {P : Program} {w : World} {K : PySem.W.Frag} {mg : Str → Option Value} {base : Heap} {n : Nat} {f : Addr} {fd : FuncData} {ps : List Str} {sp sp' : Sp} (F : FnOk P w K mg base (L2N.CX P w) n f fd ps sp) (h : ∀ vs H Q E, sp' vs H Q E → sp vs H Q E0) : FnOk P w K mg base CX0 n f fd ps sp' :=
  ⟨fun vs H Q E z => F.len _ _ _ _ (h _ _ _ _ z), fun A outer s H args us vs Q E hr e0 b r z => codeAny_mono (F.run A outer s H args us vs Q E0 hr e0 b r (h _ _ _ _ z)) fun q s' hq => by
    cases q with
    | error e =>
      obtain ⟨_, _, _, _, _, _, _, _, _, _, _, _, z⟩ := (show L2N.CX P w outer H s E0 e s' from hq)
      exact z.elim
    | ok fl => cases fl <;> exact hq⟩
/-! ## statements that change an object -/
def sApp (l a : EM) : SM := fun env st => (l env st).s fun x s1 => match x with
  | .loc n => match deref s1 (.loc n) with
    | .lst _ => (a env s1).s fun y s2 => match deref s2 (.loc n) with
      | .lst xs => if xs.length < 1000000 ∧ pureP y = true then .nx env (s2.set n (.lst (xs ++ [y]))) else .bad
      | _ => .bad
    | _ => .bad
  | _ => .bad
theorem pures_app : ∀ (xs ys : List PV), pures (xs ++ ys) = (pures xs && pures ys)
  | [], ys => by simp [pures]
  | x :: xs, ys => by simp [pures, pures_app xs ys, Bool.and_assoc]
theorem loc_obj {G : Gx} {ρ : List Addr} {st : VSt} {H : Hp} {n : Nat} {v : V} (S : SRel G ρ st H) (h : Rep G ρ H (.loc n) v) : ∃ a, v = .ref a ∧ ρ[n]? = some a ∧ ObjR G ρ H (deref st (.loc n)) a ∧ noLoc (deref st (.loc n)) = true := by
  obtain ⟨a, e, hn⟩ := h
  have h1 : n < st.length := by rw [← S.len]; exact (List.getElem?_eq_some_iff.mp hn).1
  have e2 : deref st (.loc n) = st[n] := by
    show st.getD n .non = st[n]
    rw [List.getD_eq_getElem?_getD, List.getElem?_eq_getElem h1]; rfl
  rw [e2]
  obtain ⟨o, f⟩ := S.obj n st[n] a (List.getElem?_eq_getElem h1) hn
  exact ⟨a, e, hn, o, f⟩
/-- xs.append(e) as a statement -/
theorem evs_app {X : Cx} {W : XD} {fr f1 f2 : Bool} {l e : Expr} {ml me : EM} {apos cpos pos : Pos} (hl : Ev X W f1 l ml) (he : Ev X W f2 e me)
    (hbase : attributeBase l "append" X.env (eval l X.env) = eval l X.env := by rfl)
    (hfew : ((backTo cpos (starEach [e] X.env)).all (fun x => !x.1) && (backToKw cpos (keywordEach [] X.env)).all (fun x => x.1.isSome)
      && decide (([e] : List Expr).length + ([] : List Keyword).length + (if ([] : List Keyword).isEmpty then 0 else 1) < 30)) = true := by rfl)
    (hline : (apos.endLine == cpos.line) = true := by rfl) (hse : starEach [e] X.env = (false, eval e X.env) :: starEach [] X.env := by rfl) (hplain : (backTo cpos (starEach [] X.env)).any (·.1) = false := by rfl)
    (hs : swapsWith (.Call (.Attribute l "append" apos) [e] [] cpos) none pos.line X.env = pure false := by rfl) : EvS X W fr (.Expr (.Call (.Attribute l "append" apos) [e] [] cpos) pos) (sApp ml me) :=
  PS.anti (ps_expr (pe_bm PySem.F.plainAttrs_list PySem.F.slot_list_append PySem.F.type_list_append mt_append hl (pa_cons he pa_nil hse) hbase hfew hline hse hplain) hs) fun D σ H ⟨hid, ρ, env, st, R, P⟩ => sE_use R P fun ρ1 st1 H1 x v l1 R1 rx _ P1 => by
    split at P1
    · rename_i n
      split at P1
      · rename_i zs ez
        obtain ⟨a, rfl, hn, o, _⟩ := loc_obj R1.s rx
        rw [ez] at o
        obtain ⟨ws, ho, _⟩ := o
        refine ⟨.inl ⟨rfl, _, SqL.of ho⟩, sE_use R1 P1 fun ρ2 st2 H2 y u l2 R2 ry _ P2 => ?_⟩
        split at P2
        · rename_i xs ex
          split at P2
          · rename_i hz
            obtain ⟨b, eb, hn2, o2, f2⟩ := loc_obj R2.s (Rep.later l2 _ _ rx)
            cases eb
            rw [ex] at o2 f2
            obtain ⟨vs, hv, rv⟩ := o2
            have mu : Mut (H2 a) := by rw [hv]; trivial
            have hin : a ∈ ρ2 := List.mem_of_getElem? hn2
            refine ⟨a, vs, u, rfl, rfl, hv, by rw [rv.length]; exact szl _ (by omega), ?_⟩
            refine P2 ρ2 _ σ (Later.wr hin mu) ⟨srel_wr hn2 mu R2.s ⟨vs ++ [u], upd_same, reps_wr (.inl hin) mu _ _ (rv.append (Reps.one ry))⟩ ?_, envR_wr (.inl hin) mu R2.e⟩
            show pures (xs ++ [y]) = true
            rw [pures_app, show pures xs = true from f2]
            simp [pures, hz.2]
          · exact False.elim P2
        · exact False.elim P2
      · exact False.elim P1
    · exact False.elim P1
/-! ### d[k] = v -/
def hasK (ks : List Key) (k : Key) : Bool := ks.any fun k' => decide (k' = k)
def kPutK (ks : List Key) (k : Key) : List Key := if hasK ks k = true then ks else ks ++ [k]
def kPutV {α : Type} (ks : List Key) (xs : List α) (k : Key) (v : α) : List α := if hasK ks k = true then (ks.zip xs).map (fun kv => if kv.1 = k then v else kv.2) else xs ++ [v]
theorem any_zip {k : Key} : ∀ {ks : List Key} {vs : List V}, ks.length = vs.length → ((ks.zip vs).any fun kv => decide (kv.1 = k)) = hasK ks k
  | [], vs, _ => rfl
  | k' :: ks, [], h => by simp at h
  | k' :: ks, v :: vs, h => by
    rw [List.zip_cons_cons, List.any_cons, any_zip (by simpa using h)]
    rfl
theorem map_zip {k : Key} {v : V} : ∀ {ks : List Key} {vs : List V}, ks.length = vs.length → (ks.zip vs).map (fun kv => if kv.1 = k then (kv.1, v) else kv) = ks.zip ((ks.zip vs).map fun kv => if kv.1 = k then v else kv.2)
  | [], vs, _ => by simp
  | k' :: ks, [], h => by simp at h
  | k' :: ks, v' :: vs, h => by
    rw [List.zip_cons_cons, List.map_cons, List.map_cons, List.zip_cons_cons, map_zip (by simpa using h)]
    by_cases e : k' = k <;> simp [e]
theorem putK_zip {ks : List Key} {vs : List V} {k : Key} {v : V} (h : ks.length = vs.length) : putK (ks.zip vs) k v = (kPutK ks k).zip (kPutV ks vs k v) ∧ (kPutK ks k).length = (kPutV ks vs k v).length := by
  unfold putK kPutK kPutV
  rw [any_zip h]
  by_cases hk : hasK ks k = true
  · rw [if_pos hk, if_pos hk, if_pos hk]
    exact ⟨map_zip h, by simp [h]⟩
  · rw [if_neg hk, if_neg hk, if_neg hk]
    exact ⟨by rw [List.zip_append h]; rfl, by simp [h]⟩
theorem reps_put {G : Gx} {ρ : List Addr} {H : Hp} {k : Key} {p : PV} {v : V} (r : Rep G ρ H p v) : ∀ {ks : List Key} {xs : List PV} {vs : List V}, ks.length = vs.length → Reps G ρ H xs vs → Reps G ρ H (kPutV ks xs k p) (kPutV ks vs k v) := by
  intro ks xs vs hl rs
  unfold kPutV
  by_cases hk : hasK ks k = true
  · rw [if_pos hk, if_pos hk]
    have : ∀ {ks : List Key} {xs : List PV} {vs : List V}, ks.length = vs.length → Reps G ρ H xs vs → Reps G ρ H ((ks.zip xs).map fun kv => if kv.1 = k then p else kv.2) ((ks.zip vs).map fun kv => if kv.1 = k then v else kv.2) := by
      intro ks
      induction ks with
      | nil => intro xs vs _ _; simp only [List.zip_nil_left, List.map_nil]; rfl
      | cons k' ks ih =>
        intro xs vs hl rs
        cases xs with
        | nil => rw [show vs = [] from rs]; simp only [List.zip_nil_right, List.map_nil]; rfl
        | cons x xs =>
          obtain ⟨w, q, rfl, h1, h2⟩ := rs
          rw [List.zip_cons_cons, List.zip_cons_cons, List.map_cons, List.map_cons]
          refine ⟨_, _, rfl, ?_, ih (by simpa using hl) h2⟩
          by_cases e : k' = k <;> simp [e, r, h1]
    exact this hl rs
  · rw [if_neg hk, if_neg hk]
    exact rs.append (Reps.one r)
theorem pures_put {k : Key} {p : PV} (hp : pureP p = true) {ks : List Key} {xs : List PV} (hx : pures xs = true) : pures (kPutV ks xs k p) = true := by
  unfold kPutV
  split
  · have : ∀ (ks : List Key) (xs : List PV), pures xs = true → pures ((ks.zip xs).map fun kv => if kv.1 = k then p else kv.2) = true := by
      intro ks
      induction ks with
      | nil => intro xs _; rfl
      | cons k' ks ih =>
        intro xs hx
        cases xs with
        | nil => rfl
        | cons x xs =>
          unfold pures at hx
          rw [Bool.and_eq_true] at hx
          rw [List.zip_cons_cons, List.map_cons]
          unfold pures
          rw [ih xs hx.2]
          by_cases e : k' = k <;> simp [e, hp, hx.1]
    exact this ks xs hx
  · rw [pures_app, hx]; simp [pures, hp]
def sPut (d k v : EM) : SM := fun env st => (v env st).s fun y s1 => (d env s1).s fun x s2 => (k env s2).s fun kk s3 => match x with
  | .loc n => match deref s3 (.loc n), keyP kk with
    | .dct ks xs, some key => if ks.length < 1000000 ∧ pureP y = true then .nx env (s3.set n (.dct (kPutK ks key) (kPutV ks xs key y))) else .bad
    | _, _ => .bad
  | _ => .bad
theorem evs_put {X : Cx} {W : XD} {fr f1 f2 f3 : Bool} {d k v : Expr} {md mk mv : EM} {pos pos' : Pos} (hu : X.A.units + 64 < cLine) (hd : Ev X W f1 d md) (hk : Ev X W f2 k mk) (hv : Ev X W f3 v mv) (hs : swapsWith v (some (.Subscript d k pos')) pos.line X.env = pure false := by rfl) :
    EvS X W fr (.Assign [.Subscript d k pos'] v pos) (sPut md mk mv) :=
  PS.anti (ps_dput (by omega) hd hk hv hs) fun D σ H ⟨hid, ρ, env, st, R, P⟩ => sE_use R P fun ρ1 st1 H1 y u l1 R1 ry _ P1 => sE_use R1 P1 fun ρ2 st2 H2 x w l2 R2 rx _ P2 => sE_use R2 P2 fun ρ3 st3 H3 kk z l3 R3 rk _ P3 => by
    split at P3
    · rename_i n
      split at P3
      · rename_i ks xs key ex ek
        split at P3
        · rename_i hz
          obtain ⟨a, rfl, hn, o, f⟩ := loc_obj R3.s (Rep.later l3 _ _ rx)
          rw [ex] at o f
          obtain ⟨vs, hl, hv, rv⟩ := o
          have mu : Mut (H3 a) := by rw [hv]; trivial
          have hin : a ∈ ρ3 := List.mem_of_getElem? hn
          have ry3 := Rep.later (l2.trans l3) _ _ ry
          obtain ⟨e1, e2⟩ := putK_zip (k := key) (v := u) hl
          refine ⟨a, _, rfl, by rw [rep_key rk ek]; exact DPut.k hv (by rw [List.length_zip, hl, Nat.min_self, ← hl]; exact szl _ (by omega)), ?_⟩
          refine P3 ρ3 _ σ (Later.wr hin mu) ⟨srel_wr hn mu R3.s ⟨_, e2, by rw [upd_same, e1], reps_wr (.inl hin) mu _ _ (reps_put ry3 hl rv)⟩ (pures_put hz.2 f), envR_wr (.inl hin) mu R3.e⟩
        · exact False.elim P3
      · exact False.elim P3
    · exact False.elim P3
/-! ### dict displays -/
theorem ev_dnew {X : Cx} {W : XD} {pos : Pos} : Ev X W true (.Dict [] [] pos) (fun _ st => .ok (.dct [] []) st) := PE.anti pe_dnewK fun σ H Q ⟨hid, ρ, env, st, R, P⟩ p hp => Post.give P R.s hp hp (new_dct (ks := []) (vs := []) R.s rfl rfl hp)
/-- {'text': n}: one written entry -/
theorem ev_disp1 {X : Cx} {W : XD} {pos : Pos} {i : Int} {p1 p2 : Pos} {j1 j2 : Nat} {x : Str} : Ev X W true (.Dict [some (.Constant (.str x) j1 p1)] [.Constant (.int i) j2 p2] pos) (fun _ st => .ok (.dct [.inr x] [.int i]) st) :=
  PE.anti (pe_disp (pps_cons pe_str pe_int pps_nil) (by rfl) (by rfl) (fun z => by cases z) (by show 1 ≤ 15; decide)) fun σ H Q ⟨hid, ρ, env, st, R, P⟩ p hp => by
    refine ⟨upd_same, [(.inr x, .int i)], rfl, (by show 1 ≤ 15; decide), ?_⟩
    have e : upd (upd H p (.dK [])) p (.dK (mergeK [] [(Sum.inr x, V.int i)])) = upd H p (.dK ([(Sum.inr x : Key)].zip [V.int i])) := by rw [upd_upd]; rfl
    rw [e]
    exact Post.give P R.s hp hp (new_dct (ks := [.inr x]) (xs := [.int i]) (vs := [.int i]) R.s rfl ⟨_, _, rfl, rfl, rfl⟩ hp)
end Vm

namespace Vm
open PySem PySem.Spec L2
section
variable {X : Cx} {W : XD}
/-! ### list(x) of a list, a tuple, a dict -/
def keyV : Key → PV
  | .inl i => .int i
  | .inr x => .str x
def vListA (xs : List PV) (st : VSt) : Res PV := match xs with
  | [p] => match deref st p with
    | .lst xs => .ok (.lst xs) st
    | .tup xs => .ok (.lst xs) st
    | .dct ks _ => .ok (.lst (ks.map keyV)) st
    | _ => .bad
  | _ => .bad
def rListA (K : PySem.W.Frag) : List V → Hp → VK → Prop := fun xs H Q => (∃ p ys, xs = [.ref p] ∧ (SqL K H p ys ∨ SqT K H p ys) ∧ ∀ l, H l = none → Q (.ref l) (upd H l (.lst ys))) ∨ (∃ p kvs, xs = [.ref p] ∧ H p = some (.dK kvs) ∧ ∀ q, H q = none → Q (.ref q) (upd H q (.lst (kvs.map fun kv => kV kv.1))))
theorem call_listA (hc : X.calm = true) : CallR X (.type "list") (rListA X.K) := CallR.or call_list_of (call_list_dK hc)
theorem reps_keys {G : Gx} {ρ : List Addr} {H : Hp} : ∀ {ks : List Key} {vs : List V}, ks.length = vs.length → Reps G ρ H (ks.map keyV) ((ks.zip vs).map fun kv => kV kv.1)
  | [], vs, _ => rfl
  | k :: ks, [], h => by simp at h
  | k :: ks, v :: vs, h => ⟨kV k, _, rfl, by cases k <;> rfl, reps_keys (by simpa using h)⟩
theorem cs_listA : CallSem X W true (rListA X.K) vListA := by
  intro hid ρ st H xs vs Q S r P
  unfold vListA at P
  split at P
  · rename_i p
    obtain ⟨v, rfl, rp⟩ := reps1 r
    split at P
    · rename_i xs e
      obtain ⟨a, ws, rfl, ha, r1⟩ := rep_lst S rp e
      exact .inl ⟨a, ws, rfl, .inl (SqL.of ha), fun l hl => P.give S hl hl (new_lst S r1 hl)⟩
    · rename_i xs e
      obtain ⟨a, ws, rfl, ha, r1⟩ := rep_tup S rp e
      exact .inl ⟨a, ws, rfl, .inr ha, fun l hl => P.give S hl hl (new_lst S r1 hl)⟩
    · rename_i ks xs e
      obtain ⟨a, ws, rfl, l, ha, r1⟩ := rep_dct S rp e
      exact .inr ⟨a, _, rfl, ha, fun q hq => P.give S hq hq (new_lst S (reps_keys l) hq)⟩
    · exact False.elim P
  · exact False.elim P
/-! ### a module's constant -/
theorem ev_const {pr : Prg} {T : Tbl} {n : Nat} {bs : List Str} {cs : List (Str × Int)} {pos : Pos} {x : Str} {i : Int} (c : Cok X W pr T n bs cs) (h : (x, i) ∈ cs) (hg : Gl X x := by rfl) (hd : (x == ("__debug__" : Str)) = false := by decide) : Ev X W true (.Name x pos) (eC (.int i)) := by
  obtain ⟨u, hm, r⟩ := c.cst _ h
  exact ev_glob hm r hg hd
variable {elt tg iter : Expr} {ifs : List Expr} {scope : Scope} {own : List (Str × Nat)} {pos : Pos} {it : IM} {g : GM} {mt me : EM} {fe : Bool} {pr : Prg} {T : Tbl} {n : Nat} {bs : List Str} {cs : List (Str × Int)}
theorem ev_compC (own : List (Str × Nat)) (c : Cok X W pr T n bs cs) (hi : EvI X W tg iter it) (ok : BlkOk X.N X.env.scope scope own)
    (hg : ∀ (s : Shared) (H : Hp) (C : Addr) (cl : List (Str × Addr)) (fp : List Addr), Cok (X.blk s H scope (compEnvC scope cl C X.env) fp) W.no pr T n bs cs → EvG (X.blk s H scope (compEnvC scope cl C X.env) fp) W.no (own.map Prod.snd) tg g)
    (ht : ∀ (s : Shared) (H : Hp) (C : Addr) (cl : List (Str × Addr)) (fp : List Addr), Cok (X.blk s H scope (compEnvC scope cl C X.env) fp) W.no pr T n bs cs → EvTs (X.blk s H scope (compEnvC scope cl C X.env) fp) W.no ifs mt)
    (he : ∀ (s : Shared) (H : Hp) (C : Addr) (cl : List (Str × Addr)) (fp : List Addr), Cok (X.blk s H scope (compEnvC scope cl C X.env) fp) W.no pr T n bs cs → Ev (X.blk s H scope (compEnvC scope cl C X.env) fp) W.no fe elt me) (hs : ∀ x, foldedSetIterable iter X.env x = pure x := by intro _; rfl) :
    Ev X W true (.ListComp elt [⟨tg, iter, ifs, 0⟩] scope pos) (eComp it g mt me (own.map Prod.snd)) :=
  ev_comp c.calm c.nd hi ok (fun s H C cl fp => hg s H C cl fp (c.blk s H _ _ fp)) (fun s H C cl fp => ht s H C cl fp (c.blk s H _ _ fp)) (fun s H C cl fp => he s H C cl fp (c.blk s H _ _ fp)) hs
theorem evs_setLcC {fr f : Bool} {i : Nat} {y : Str} {py spos : Pos} {m : EM} (own : List (Str × Nat)) (c : Cok X W pr T n bs cs) (hm : ∀ σ H Q, cE X W f m σ H Q → cE X W true (eComp it g mt me (own.map Prod.snd)) σ H Q) (hi : EvI X W tg iter it) (ok : BlkOk X.N X.env.scope scope own)
    (hg : ∀ (s : Shared) (H : Hp) (C : Addr) (cl : List (Str × Addr)) (fp : List Addr), Cok (X.blk s H scope (compEnvC scope cl C X.env) fp) W.no pr T n bs cs → EvG (X.blk s H scope (compEnvC scope cl C X.env) fp) W.no (own.map Prod.snd) tg g)
    (ht : ∀ (s : Shared) (H : Hp) (C : Addr) (cl : List (Str × Addr)) (fp : List Addr), Cok (X.blk s H scope (compEnvC scope cl C X.env) fp) W.no pr T n bs cs → EvTs (X.blk s H scope (compEnvC scope cl C X.env) fp) W.no ifs mt)
    (he : ∀ (s : Shared) (H : Hp) (C : Addr) (cl : List (Str × Addr)) (fp : List Addr), Cok (X.blk s H scope (compEnvC scope cl C X.env) fp) W.no pr T n bs cs → Ev (X.blk s H scope (compEnvC scope cl C X.env) fp) W.no fe elt me)
    (hsw : swapsWith (.ListComp elt [⟨tg, iter, ifs, 0⟩] scope pos) (some (.Name y py)) spos.line X.env = pure true := by exact sw_true rfl rfl rfl (by decide +kernel)) (hy : X.N[i]? = some y := by rfl) (hyl : X.env.scope.names.lookup y = some .local := by rfl)
    (hs : ∀ x, foldedSetIterable iter X.env x = pure x := by intro _; rfl) : EvS X W fr (.Assign [.Name y py] (.ListComp elt [⟨tg, iter, ifs, 0⟩] scope pos) spos) (sSet i m) :=
  evs_setLc c.calm c.nd hm hi ok (fun s H C cl fp => hg s H C cl fp (c.blk s H _ _ fp)) (fun s H C cl fp => ht s H C cl fp (c.blk s H _ _ fp)) (fun s H C cl fp => he s H C cl fp (c.blk s H _ _ fp)) hsw hy hyl hs
end
end Vm

namespace Vm
open PySem PySem.Spec L2
/-! ## texts in their order -/
def leS (a b : Str) : Prop := ltCps b.cps.toList a.cps.toList = false
instance (a b : Str) : Decidable (leS a b) := inferInstanceAs (Decidable (_ = false))
theorem leS_iff {a b : Str} : leS a b ↔ a.cps.toList ≤ b.cps.toList := by
  unfold leS
  rw [PyProof.Rows.ltCps_eq, decide_eq_false_iff_not]
  exact Iff.rfl
theorem leS_refl (a : Str) : leS a a := leS_iff.mpr (List.le_refl _)
theorem leS_total (a b : Str) : leS a b ∨ leS b a := by
  rcases List.le_total a.cps.toList b.cps.toList with h | h
  · exact .inl (leS_iff.mpr h)
  · exact .inr (leS_iff.mpr h)
theorem leS_trans {a b c : Str} (h : leS a b) (k : leS b c) : leS a c := leS_iff.mpr (List.le_trans (leS_iff.mp h) (leS_iff.mp k))
theorem leS_anti {a b : Str} (h : leS a b) (k : leS b a) : a = b := by
  have e : a.cps.toList = b.cps.toList := List.le_antisymm (leS_iff.mp h) (leS_iff.mp k)
  obtain ⟨x⟩ := a
  obtain ⟨y⟩ := b
  congr 1
  exact Array.ext' e
def insS (x : Str) : List Str → List Str
  | [] => [x]
  | y :: r => if leS x y then x :: y :: r else y :: insS x r
def srtS : List Str → List Str
  | [] => []
  | x :: r => insS x (srtS r)
theorem ins_perm (x : Str) : ∀ l, (insS x l).Perm (x :: l)
  | [] => .refl _
  | y :: r => by
    unfold insS
    split
    · exact .refl _
    · exact ((ins_perm x r).cons y).trans (.swap x y r)
theorem srt_perm : ∀ l, (srtS l).Perm l
  | [] => .refl _
  | x :: r => (ins_perm x _).trans ((srt_perm r).cons x)
theorem ins_srt (x : Str) : ∀ l, l.Pairwise leS → (insS x l).Pairwise leS
  | [], _ => List.pairwise_singleton _ _
  | y :: r, h => by
    obtain ⟨h1, h2⟩ := List.pairwise_cons.mp h
    unfold insS
    split
    · rename_i hx
      refine List.pairwise_cons.mpr ⟨fun z hz => ?_, h⟩
      rcases List.mem_cons.mp hz with rfl | hz
      · exact hx
      · exact leS_trans hx (h1 z hz)
    · rename_i hx
      have hy : leS y x := (leS_total x y).resolve_left hx
      refine List.pairwise_cons.mpr ⟨fun z hz => ?_, ins_srt x r h2⟩
      rcases List.mem_cons.mp ((ins_perm x r).mem_iff.mp hz) with rfl | hz
      · exact hy
      · exact h1 z hz
theorem srt_srt : ∀ l, (srtS l).Pairwise leS
  | [] => .nil
  | x :: r => ins_srt x _ (srt_srt r)
theorem perm_eq : ∀ {l m : List Str}, l.Pairwise leS → m.Pairwise leS → l.Perm m → l = m
  | [], m, _, _, p => (List.nil_perm.mp p).symm
  | x :: l, [], _, _, p => absurd p.length_eq (by simp)
  | x :: l, y :: m, h, k, p => by
    obtain ⟨h1, h2⟩ := List.pairwise_cons.mp h
    obtain ⟨k1, k2⟩ := List.pairwise_cons.mp k
    have e : x = y := by
      rcases List.mem_cons.mp (p.mem_iff.mp List.mem_cons_self) with e | hx
      · exact e
      · rcases List.mem_cons.mp (p.mem_iff.mpr List.mem_cons_self) with e | hy
        · exact e.symm
        · exact leS_anti (h1 y hy) (k1 x hx)
    subst e
    rw [perm_eq h2 k2 (List.Perm.cons_inv p)]
theorem ris_pw : ∀ (p : Str) (l : List Str), PyProof.Rows.risingS p l = true → (p :: l).Pairwise leS
  | p, [], _ => List.pairwise_singleton _ _
  | p, x :: r, h => by
    have h : (!ltCps x.cps.toList p.cps.toList && PyProof.Rows.risingS x r) = true := h
    rw [Bool.and_eq_true] at h
    have h1 : leS p x := by have := h.1; unfold leS; simpa using this
    have ih := ris_pw x r h.2
    refine List.pairwise_cons.mpr ⟨fun z hz => ?_, ih⟩
    rcases List.mem_cons.mp hz with rfl | hz
    · exact h1
    · exact leS_trans h1 ((List.pairwise_cons.mp ih).1 z hz)
theorem srtd_pw : ∀ l : List Str, PyProof.Rows.sortedS l = true → l.Pairwise leS
  | [], _ => .nil
  | x :: r, h => ris_pw x r h
theorem srt_one {xs ys : List Str} (p : ys.Perm xs) (h : PyProof.Rows.sortedS ys = true) : ys = srtS xs := perm_eq (srtd_pw ys h) (srt_srt xs) (p.trans (srt_perm xs).symm)
theorem srt_congr {xs ys : List Str} (p : xs.Perm ys) : srtS xs = srtS ys := perm_eq (srt_srt xs) (srt_srt ys) ((srt_perm xs).trans (p.trans (srt_perm ys).symm))
def strsOf : List PV → Option (List Str)
  | [] => some []
  | .str x :: r => (strsOf r).map (x :: ·)
  | _ => none
theorem strsOf_map : ∀ xs : List Str, strsOf (xs.map PV.str) = some xs
  | [] => rfl
  | x :: xs => by
    show (strsOf (xs.map PV.str)).map (x :: ·) = _
    rw [strsOf_map xs]; rfl
theorem strsOf_eq : ∀ {ps : List PV} {xs : List Str}, strsOf ps = some xs → ps = xs.map PV.str
  | [], xs, h => by
    obtain rfl : [] = xs := by simpa [strsOf] using h
    rfl
  | p :: r, xs, h => by
    cases p with
    | str x =>
      have h : (strsOf r).map (x :: ·) = some xs := h
      cases e : strsOf r with
      | none => rw [e] at h; cases h
      | some ys =>
        rw [e] at h
        obtain rfl : x :: ys = xs := by simpa using h
        rw [strsOf_eq e]; rfl
    | _ => cases h
theorem reps_strs {G : Gx} {ρ : List Addr} {H : Hp} : ∀ {xs : List Str} {vs : List V}, Reps G ρ H (xs.map PV.str) vs → vs = xs.map V.str
  | [], vs, h => h
  | x :: xs, vs, h => by
    obtain ⟨v, r, rfl, h1, h2⟩ := h
    rw [reps_strs h2, show v = .str x from h1]; rfl
theorem strs_reps {G : Gx} {ρ : List Addr} {H : Hp} : ∀ (xs : List Str), Reps G ρ H (xs.map PV.str) (xs.map V.str)
  | [] => rfl
  | x :: xs => ⟨_, _, rfl, rfl, strs_reps xs⟩
def vSortedL (xs : List PV) (st : VSt) : Res PV := match xs with
  | [p] => match deref st p with
    | .lst xs => match strsOf xs with
      | some ss => if ss.length < 64 then .ok (.lst ((srtS ss).map PV.str)) st else .bad
      | none => .bad
    | _ => .bad
  | _ => .bad
section
variable {X : Cx} {W : XD}
theorem cs_sortedL : CallSem X W true (rSortedS X.K) vSortedL := by
  intro hid ρ st H xs vs Q S r P
  unfold vSortedL at P
  split at P
  · rename_i p
    obtain ⟨v, rfl, rp⟩ := reps1 r
    split at P
    · rename_i xs e
      split at P
      · rename_i ss e2
        obtain rfl := strsOf_eq e2
        split at P
        · rename_i h64
          obtain ⟨a, ws, rfl, ha, r1⟩ := rep_lst S rp e
          obtain rfl := reps_strs r1
          refine ⟨a, ss, rfl, SqL.of ha, h64, fun ys l hp hs hl => ?_⟩
          rw [srt_one hp hs]
          exact P.give S hl hl (new_lst S (strs_reps _) hl)
        · exact False.elim P
      · exact False.elim P
    · exact False.elim P
  · exact False.elim P
end
end Vm

namespace Vm
open PySem PySem.Spec L2 PySem.Froz
section
variable {P : Program} {w : World} {A : Around} {E : Value → Shared → Prop} {s : Shared} {a : Addr} {l : List Str}
/-! ### set(a list of texts) -/
def addS (l : List Str) (k : Str) : List Str := if k ∈ l then l else l ++ [k]
def oneS (xs : List Str) : List Str := xs.foldl addS []
theorem addS_len (l : List Str) (k : Str) : (addS l k).length ≤ l.length + 1 := by
  unfold addS
  split
  · omega
  · rw [List.length_append]; exact Nat.le_refl _
theorem addsS_len : ∀ (xs l : List Str), (xs.foldl addS l).length ≤ l.length + xs.length
  | [], l => Nat.le_refl _
  | x :: xs, l => by
    have h1 := addsS_len xs (addS l x)
    have h2 := addS_len l x
    rw [List.foldl_cons, List.length_cons]; omega
theorem addsS_mono : ∀ (xs l : List Str), l.length ≤ (xs.foldl addS l).length
  | [], l => Nat.le_refl _
  | x :: xs, l => by
    have h1 := addsS_mono xs (addS l x)
    have h2 : l.length ≤ (addS l x).length := by
      unfold addS
      split
      · exact Nat.le_refl _
      · rw [List.length_append]; omega
    rw [List.foldl_cons]; omega
theorem oneS_take (xs : List Str) (i : Nat) : (oneS (xs.take i)).length ≤ (oneS xs).length := by
  have e : oneS xs = (xs.drop i).foldl addS (oneS (xs.take i)) := by
    unfold oneS
    rw [← List.foldl_append, List.take_append_drop]
  rw [e]
  exact addsS_mono _ _
theorem sx_loop {I : Addr} {fp wr : List Addr} {G : Array GenState → Array GenState → Prop} {n : Nat} {Pv : Nat → Value → Prop} {St : Nat → Shared → Prop} {R : Result → Shared → Prop}
    (W : WalksS P w A.in1 I fp wr G n Pv St) (haf : a ∉ fp) (xs : List Str) (hn : n = xs.length) (room : (oneS xs).length + 1 < scanBound) (hv : ∀ i v, Pv i v → ∃ x t, xs[i]? = some x ∧ v = Value.str x t) :
    ∀ (m i : Nat) (s : Shared), m + i = n → St i s → SX P w s.heap a (oneS (xs.take i)) → (∀ s', Moved (a :: wr) G s s' → SX P w s'.heap a (oneS xs) → R (.ok (.ret .none)) s') →
      codeAny (model P w) A (.builtin "set.update.loop" ⟨[.ref a, .ref I], []⟩) R s := by
  have haw : a ∉ wr := fun z => haf (W.sub _ z)
  have up : ∀ b ∈ wr, b ∈ a :: wr := fun b z => List.mem_cons_of_mem _ z
  intro m; induction m with
  | zero =>
    intro i s hi hst hS fin
    obtain rfl : i = n := by omega
    rw [List.take_of_length_le (by omega)] at hS
    refine codeAny_builtin PyProof.Rows.F.entry_set_update_loop ?_; rw [Around.under_plainId PyProof.Rows.F.plain_set_update_loop _]
    show wpAny _ A.in1 (pyNext (.ref I) >>= _) _ _ s; refine wpAny_bind (W.done s _ _ hst fun s' mv => ?_)
    exact wpAny_pure (fin s' (mv.mono up) (hS.keep fun o e => mv.heap a o haw e))
  | succ m ih =>
    intro i s hi hst hS fin
    refine codeAny_builtin PyProof.Rows.F.entry_set_update_loop ?_; rw [Around.under_plainId PyProof.Rows.F.plain_set_update_loop _]
    show wpAny _ A.in1 (pyNext (.ref I) >>= _) _ _ s; refine wpAny_bind (W.item i s _ _ (by omega) hst fun v s' hP hst' mv => ?_)
    obtain ⟨x, t, hx, rfl⟩ := hv i v hP
    have hS' := hS.keep fun o e => mv.heap a o haw e
    have ln := addsS_len (xs.take i) []
    have ln2 : (xs.take i).length ≤ xs.length := by rw [List.length_take]; omega
    have e2 : oneS (xs.take (i + 1)) = addS (oneS (xs.take i)) x := by
      unfold oneS; rw [List.take_add_one, hx, List.foldl_append]; rfl
    show wpAny _ A.in1 (holding [Value.str x t] (setAdd a (.str x t)) >>= _) _ _ s'
    refine wpAny_bind (wpAny_holding ?_); unfold setAdd
    refine wpAny_holding (wpAny_bind ((strKind P w).pyHash (k := x) (is_str x t) ?_))
    refine sx_add (s := { s' with toks := s'.toks + 1 }) hS' (by have := oneS_take xs i; omega) fun h' b sb hS2 => ?_
    refine wpAny_pure ⟨plainId_quiet PyProof.Rows.F.plain_set_update_loop _, ih (i + 1) _ (by omega) (W.frame _ s' _ _ hst' (Nat.le_succ _) fun b hb o e => ?_) (by rw [e2]; exact hS2) fun s2 mv2 hS3 => ?_⟩
    · rw [sb.2 b fun z => haf (z ▸ hb)]; exact e
    · refine fin s2 (Moved.trans W.gtrans ((mv.mono up).then_heap (Nat.le_succ _) fun b o hb e => ?_) mv2) hS3
      rw [sb.2 b fun z => hb (by rw [z]; exact List.mem_cons_self)]; exact e
set_option maxHeartbeats 4000000 in
theorem call_texts {b : Addr} {items : Array Value} (xs : List Str) {Q : Value → Shared → Prop} (hh : A.handled = none) (hl : s.heap.IsList b items) (hit : PyProof.Rows.StrsAre items.toList xs) (room : (oneS xs).length + 1 < scanBound)
    (fin : ∀ (h' : Heap) (tk : Nat), SX P w h' s.heap.objs.size (oneS xs) → (∀ c o, s.heap.get? c = some o → h'.get? c = some o) → Q (.ref s.heap.objs.size) { s with heap := h', toks := tk }) :
    wpAny (model P w) A (call (.type "set") [.ref b]) Q E s := by
  have n1 : items.size = xs.length := by have := hit.length; rwa [Array.length_toList] at this
  obtain ⟨c0, tl0, mro0⟩ := PySem.F.called_set.mro; have made0 := PySem.F.called_set.made; have sub0 := PySem.F.called_set.sub
  refine wpAny_call (codeAny_of_tree ?_); show wpAny _ _ (callAny (.type "set") _) _ _ _
  refine wpAny_pure ⟨Code.quiet_builtin _ (by decide +kernel), codeAny_builtin PySem.F.entry_type_call ?_⟩
  rw [Around.under_plain (weight_type_call_type "set" [.ref b] []) rfl]
  have t1 := PySem.F.called_set.notType; have t2 := PySem.F.called_set.canCreate; have t3 := PySem.F.typeCall_set_1 (.ref b)
  repeat (any_goals (first | assumption | wp_step))
  refine codeAny_mono (code_set_led1 (.ref b) (E := E) (Q₁ := fun obj s1 => obj = .ref s.heap.objs.size ∧ s1 = { s with heap := s.heap.push (so w) }) ⟨rfl, rfl⟩) fun r s1 hr => ?_
  cases r with
  | error e => exact hr
  | ok fl => cases fl with
    | ret obj =>
      obtain ⟨rfl, rfl⟩ := hr
      have at0 : (s.heap.push (so w)).get? s.heap.objs.size = some (so w) := Heap.get?_push_size _ rfl
      have ty0 : Shared.TypeIs { s with heap := s.heap.push (so w) } (.ref s.heap.objs.size) "set" := ⟨_, at0, rfl⟩
      have i1 := PySem.F.called_set.init.lookup; have i2 := PySem.F.called_set.init.bind (.ref s.heap.objs.size)
      repeat (any_goals (first | assumption | wp_step))
      refine codeAny_mono (codeAny_call_builtin (R := wants (fun r s2 => r = .none ∧ ∃ h' tk, s2 = { s with heap := h', toks := tk } ∧ SX P w h' s.heap.objs.size (oneS xs) ∧ (∀ c o, s.heap.get? c = some o → h'.get? c = some o)) E)
        PySem.F.called_set.init.plain PySem.F.entry_set_init (check_set_init_1 ty0 ?_)) fun r2 s2 hr2 => ?_
      · obtain ⟨ol, at1, cl1, nl, dl1⟩ := hl; obtain ⟨ocls, odict, odata, oslots⟩ := ol
        simp only at cl1 dl1; subst cl1; subst dl1
        have at2 : (s.heap.push (so w)).get? b = some { cls := .type "list", dict := odict, data := .seq items nl, slots := oslots } := Heap.get?_push_of_some _ at1
        have su1 := PySem.F.sub_list_set; have su2 := PySem.F.sub_list_frozenset; have nd1 : (Value.type "list" == Value.type "dict") = false := by decide
        have il1 : (s.heap.push (so w)).IsList b items := ⟨_, at2, rfl, nl, rfl⟩
        unfold Builtin.«set.__init__» noKeywords Builtin.Frozenset.updateFrom
        generalize hPI : pyIter = PI; wp_walk; subst hPI
        refine wpAny_pyIter_list il1 (wpAny_bind (wpAny_runValue ?_))
        have lt1 : b < s.heap.objs.size := Heap.lt_size at1; have hh1 : A.in1.in1.in1.handled = none := by simp [hh]
        have zz : (s.heap.push (so w)).objs.size = s.heap.objs.size + 1 := Heap.size_push ..
        have ne1 : b ≠ (s.heap.push (so w)).objs.size := by rw [zz]; exact Nat.ne_of_lt (Nat.lt_succ_of_lt lt1)
        have haf : s.heap.objs.size ∉ [(s.heap.push (so w)).objs.size, b] := by
          simp only [List.mem_cons, List.not_mem_nil, or_false, not_or]
          exact ⟨by rw [zz]; exact Nat.ne_of_lt (Nat.lt_succ_self _), Nat.ne_of_gt lt1⟩
        refine sx_loop ((Walks.list hh1 _ b ne1 items).toS) haf xs n1 room (fun i v hv => ?_) items.size 0 _ rfl ⟨⟨_, Heap.get?_push_size _ rfl, rfl, rfl⟩, (il1.push _)⟩ (sx_new (Heap.get?_push_of_some _ at0)) fun s3 mv hS => ?_
        · have hi : i < xs.length := by rw [← n1]; exact (Array.getElem?_eq_some_iff.mp hv).1
          obtain ⟨t, e⟩ := SS.strs_at hit i v (by rw [Array.getElem?_toList]; exact hv)
          exact ⟨_, t, List.getElem?_eq_getElem hi, by rw [e, List.getD_eq_getElem?_getD, List.getElem?_eq_getElem hi] <;> rfl⟩
        · obtain ⟨h3, g3, d3, k3, o3⟩ := s3
          have eg : g3 = s.gens := mv.gens; have ed : d3 = s.drawn := mv.drawn; have eo : o3 = s.os := mv.os
          subst eg; subst ed; subst eo
          show wpAny _ _ _ _ _ _; refine wpAny_pure ?_; show wpAny _ _ (ret Value.none) _ _ _
          refine wpAny_pure ⟨rfl, h3, k3, rfl, hS, fun c o e => mv.heap c o ?_ (Heap.get?_push_of_some _ (Heap.get?_push_of_some _ e))⟩
          have c1 : c < s.heap.objs.size := Heap.lt_size e
          simp only [List.mem_cons, List.not_mem_nil, or_false, not_or]
          exact ⟨Nat.ne_of_lt c1, by rw [zz]; exact Nat.ne_of_lt (Nat.lt_succ_of_lt c1)⟩
      · cases r2 with
        | error e => exact hr2
        | ok fl2 => cases fl2 with
          | ret r =>
            obtain ⟨rfl, h', tk, rfl, hS, kp⟩ := hr2
            repeat (any_goals (first | assumption | wp_step))
            exact fin _ _ hS kp
          | _ => exact hr2.elim
    | _ => exact hr.elim
end
end Vm

namespace Vm
open PySem PySem.Spec L2 PySem.Froz
/-! ## sorted(a set of texts) -/
theorem sub_perm : ∀ {l m : List Str}, l.Nodup → (∀ x ∈ l, x ∈ m) → m.length = l.length → m.Perm l
  | [], m, _, _, e => by
    obtain rfl : m = [] := List.eq_nil_of_length_eq_zero e
    exact .refl _
  | x :: l, m, nd, h, e => by
    obtain ⟨n1, n2⟩ := List.nodup_cons.mp nd
    have hx := h x List.mem_cons_self
    have p : m.Perm (x :: m.erase x) := List.perm_cons_erase hx
    have e2 : (m.erase x).length = l.length := by
      have := p.length_eq
      rw [List.length_cons] at this e
      omega
    refine p.trans ((sub_perm n2 (fun y hy => ?_) e2).cons x)
    have ne : y ≠ x := fun z => n1 (z ▸ hy)
    exact (List.mem_erase_of_ne ne).mpr (h y (List.mem_cons_of_mem _ hy))
def txtV : Value → Str
  | .str k _ => k
  | _ => Str.empty
theorem strs_txt : ∀ {vs : List Value}, (∀ v ∈ vs, ∃ k u, v = Value.str k u) → PyProof.Rows.StrsAre vs (vs.map txtV)
  | [], _ => .nil
  | v :: vs, h => by
    obtain ⟨k, u, rfl⟩ := h v List.mem_cons_self
    exact .cons k u (strs_txt fun x hx => h x (List.mem_cons_of_mem _ hx))
section
variable {P : Program} {w : World} {A : Around} {E : Value → Shared → Prop} {s : Shared} {a : Addr} {l : List Str}
theorem txok_str {D : SD} (F : TxOk P w D l) : ∀ e ∈ D.1.toList, ∃ k u, e.2 = Value.str k u := fun e he => by
  obtain ⟨⟨k, hk, _⟩, _⟩ := F.el e he
  obtain ⟨u, hu⟩ := Value.isStrOf_shape hk
  exact ⟨k, u, hu⟩
theorem txok_perm {D : SD} (F : TxOk P w D l) (nd : l.Nodup) : (D.1.toList.map fun e => txtV e.2).Perm l := by
  refine sub_perm nd (fun x hx => ?_) (by rw [List.length_map, Array.length_toList]; exact F.sz)
  obtain ⟨e, he, q⟩ := (F.mem x).mp hx
  obtain ⟨u, hu⟩ := Value.isStrOf_shape q
  exact List.mem_map.mpr ⟨e, he, by rw [hu]; rfl⟩
set_option maxHeartbeats 4000000 in
theorem sorted_sx {Q : Value → Shared → Prop} (R : SX P w s.heap a l) (hh : A.handled = none) (h64 : l.length < 64)
    (fin : ∀ s' p (out : Array Value) (c : Nat) (ys : List Str), (∀ b o, s.heap.get? b = some o → s'.heap.get? b = some o) → s'.gens = s.gens → s'.os = s.os → s.heap.objs.size ≤ p →
      s'.heap.get? p = some (PyProof.Rows.seqObj "list" out c) → PyProof.Rows.StrsAre out.toList ys → ys.Perm l → PyProof.Rows.sortedS ys = true → Q (.ref p) s') :
    wpAny (model P w) A (call (.builtin "sorted") [.ref a]) Q E s := by
  obtain ⟨D, ho, F, nd, O, lb⟩ := R
  have pl := txok_perm F nd; have st := txok_str F
  have ft := F.fit; have sz := F.sz
  obtain ⟨es, ep, t⟩ := D
  refine Calls.call_function_entry PyProof.Rows.kind_sorted PyProof.Rows.plain_sorted PyProof.Rows.entry_sorted (PyProof.Rows.args_sorted1 _) ?_; unfold Builtin.«sorted»
  refine wpAny_bind (m := checkCount "sorted" 1 1 _) (wpAny_pure (wpAny_bind (collect_set (A := A.in1) hh ⟨_, ho, rfl, rfl⟩ ft (by have : es.size = l.length := sz; rw [this]; exact Nat.lt_of_lt_of_le h64 (by decide)) O.1 O.2 fun s1 vs k1 le1 g1 o1 pm => ?_)))
  have lv : vs.length = l.length := by rw [pm.length_eq, List.length_map, Array.length_toList]; exact sz
  have sv : ∀ v ∈ vs, ∃ k u, v = Value.str k u := fun v hv => by
    obtain ⟨e, he, rfl⟩ := List.mem_map.mp (pm.mem_iff.mp hv)
    exact st e he
  have pv : (vs.map txtV).Perm l := by
    refine (pm.map txtV).trans ?_
    rw [List.map_map]; exact pl
  have sa := strs_txt sv
  have at1 : (s1.heap.push (PyProof.Rows.seqObj "list" vs.toArray 0)).get? s1.heap.objs.size = some (PyProof.Rows.seqObj "list" vs.toArray 0) := Heap.get?_push_size _ rfl
  refine wpAny_bind (wpAny_newList ?_ (by rw [lv, sizeLine_eq]; omega))
  refine wpAny_bind (wpAny_holding (wpAny_call_entry PyProof.Rows.slot_list_sort ⟨_, at1, rfl⟩ PyProof.Rows.entry_list_sort (PyProof.Rows.list_sort_treeK PyProof.Rows.strKind_oneLt at1 sa.keysOf (fun v1 v2 r e => PyProof.Rows.keyKind_strs (by rw [← e]; exact sa)) (by rw [lv]; exact h64) fun z p1 p2 => ⟨_, rfl, ?_⟩) (PyProof.Rows.args_list_sort _)))
  obtain ⟨ys, y1, y2, y3⟩ := PyProof.Rows.sorted_out_str sa p1 p2
  obtain ⟨c, hc⟩ := PyProof.Rows.sortedHeap_at (vs := vs) (out := (PyProof.Rows.arrOf z).map (·.2)) at1
  refine wpAny_pure ⟨_, rfl, fin _ s1.heap.objs.size _ c ys (fun b u e => ?_) g1 o1 le1 hc y1 (y2.trans pv) y3⟩
  have q := k1 b u e
  have lt := Heap.lt_size q
  show (PyProof.Rows.sortedHeap (s1.heap.push (PyProof.Rows.seqObj "list" vs.toArray 0)) s1.heap.objs.size vs _).get? b = some u
  rw [PyProof.Rows.sortedHeap_old (Nat.ne_of_lt lt) (by rw [PyProof.Rows.size_push']; exact Nat.lt_succ_of_lt lt)]
  exact Heap.get?_push_of_some _ q
end
end Vm

namespace Vm
open PySem PySem.Spec L2 PySem.Froz
section
variable {X : Cx} {W : XD}
/-! ## set, sorted -/
def rSetX (K : PySem.W.Frag) (P : Program) (w : World) : List V → Hp → VK → Prop := fun vs H Q => ∃ (b : Addr) (xs : List Str), vs = [V.ref b] ∧ SqL K H b (xs.map V.str) ∧ (oneS xs).length < 1000 ∧
  ∀ a, H a = none → Q (.ref a) (upd H a (SXo P w a (oneS xs)))
theorem call_set1 (hc : X.calm = true) : CallR X (.type "set") (rSetX X.K X.prog X.w) := by
  intro pins s σ H vs us Q I r h
  obtain ⟨b, xs, rfl, hs, hn, q⟩ := h
  obtain ⟨its, rv, hl, _⟩ := I.list hs
  rw [Vals.ref1 r]
  exact call_texts (P := X.prog) (w := X.w) xs (I.ok.hd hc) hl.isList rv.strs (Nat.lt_of_lt_of_le (Nat.succ_lt_succ hn) (by decide)) fun h' tk R k =>
    ⟨.ref _, upd H s.heap.objs.size (SXo X.prog X.w s.heap.objs.size (oneS xs)), I.laid (t' := tk) k (Nat.le_refl _) (sxo_new R), rfl, q _ (I.hok.fresh (Nat.le_refl _))⟩
theorem new_sx {hid ρ : List Addr} {st : VSt} {H : Hp} {a : Addr} {l : List Str} (s : SRel (gx X W hid) ρ st H) (h : H a = none) : Rep (gx X W hid) ρ (upd H a (SXo X.prog X.w a l)) (.sset l) (.ref a) :=
  ⟨a, rfl, s.fresh h, s.freshH h, upd_same⟩
def vSet (xs : List PV) (st : VSt) : Res PV := match xs with
  | [p] => match deref st p with
    | .lst xs => match strsOf xs with
      | some ss => if (oneS ss).length < 1000 then .ok (.sset (oneS ss)) st else .bad
      | none => .bad
    | _ => .bad
  | _ => .bad
theorem cs_set : CallSem X W true (rSetX X.K X.prog X.w) vSet := by
  intro hid ρ st H xs vs Q S r P
  unfold vSet at P
  split at P
  · rename_i p
    obtain ⟨v, rfl, rp⟩ := reps1 r
    split at P
    · rename_i xs e
      split at P
      · rename_i ss e2
        obtain rfl := strsOf_eq e2
        split at P
        · rename_i h64
          obtain ⟨a, ws, rfl, ha, r1⟩ := rep_lst S rp e
          obtain rfl := reps_strs r1
          exact ⟨a, ss, rfl, SqL.of ha, h64, fun l hl => P.give S hl hl (new_sx S hl)⟩
        · exact False.elim P
      · exact False.elim P
    · exact False.elim P
  · exact False.elim P
def rSortX (P : Program) (w : World) : List V → Hp → VK → Prop := fun vs H Q => ∃ (a : Addr) (l : List Str), vs = [V.ref a] ∧ H a = some (SXo P w a l) ∧ l.length < 64 ∧
  ∀ (ys : List Str) (p : Addr), ys.Perm l → PyProof.Rows.sortedS ys = true → H p = none → Q (.ref p) (upd H p (.lst (ys.map V.str)))
theorem call_sortX (hc : X.calm = true) : CallR X (.builtin "sorted") (rSortX X.prog X.w) := by
  intro pins s σ H vs us Q I r h
  obtain ⟨a, l, rfl, e, h64, q⟩ := h
  rw [Vals.ref1 r]
  refine sorted_sx (sxo_get I e) (I.ok.hd hc) h64 fun s' p out c ys k g o hp hg hi pm hs => ?_
  have ln : (ys.map V.str).length ≤ sizeLine := by rw [List.length_map, pm.length_eq, sizeLine_eq]; omega
  have hn : H p = none := I.hok.fresh hp
  have J : Inv X pins σ (upd H p (.lst (ys.map V.str))) { s with heap := s'.heap, gens := s'.gens, drawn := s'.drawn, toks := s'.toks } :=
    I.call (ch := []) (Un.laid k hp hn) (I.hok.laid k hp ⟨ln, out.toList, c, vals_of_strs hi, hg⟩) (by rw [g]; exact I.bare) (fun _ z => nomatch z)
  have e2 : s' = { s with heap := s'.heap, gens := s'.gens, drawn := s'.drawn, toks := s'.toks } := by
    cases s'; cases s; cases o; rfl
  rw [e2]
  exact ⟨.ref p, _, J, rfl, q ys p pm hs hn⟩
def vSorted (xs : List PV) (st : VSt) : Res PV := match xs with
  | [p] => match deref st p with
    | .lst xs => match strsOf xs with
      | some ss => if ss.length < 64 then .ok (.lst ((srtS ss).map PV.str)) st else .bad
      | none => .bad
    | .sset ss => if ss.length < 64 then .ok (.lst ((srtS ss).map PV.str)) st else .bad
    | _ => .bad
  | _ => .bad
def rSorted3 (K : PySem.W.Frag) (P : Program) (w : World) : List V → Hp → VK → Prop := fun vs H Q => rSortedS K vs H Q ∨ rSortX P w vs H Q
theorem call_sorted3 (hc : X.calm = true) : CallR X (.builtin "sorted") (rSorted3 X.K X.prog X.w) := CallR.or cr_sortedS (call_sortX hc)
theorem cs_sorted : CallSem X W true (rSorted3 X.K X.prog X.w) vSorted := by
  intro hid ρ st H xs vs Q S r P
  unfold vSorted at P
  split at P
  · rename_i p
    obtain ⟨v, rfl, rp⟩ := reps1 r
    split at P
    · rename_i xs e
      split at P
      · rename_i ss e2
        obtain rfl := strsOf_eq e2
        split at P
        · rename_i h64
          obtain ⟨a, ws, rfl, ha, r1⟩ := rep_lst S rp e
          obtain rfl := reps_strs r1
          refine .inl ⟨a, ss, rfl, SqL.of ha, h64, fun ys l hp hs hl => ?_⟩
          rw [srt_one hp hs]
          exact P.give S hl hl (new_lst S (strs_reps _) hl)
        · exact False.elim P
      · exact False.elim P
    · rename_i ss e
      split at P
      · rename_i h64
        obtain ⟨a, rfl, ha⟩ := rep_set S rp e
        refine .inr ⟨a, ss, rfl, ha, h64, fun ys l hp hs hl => ?_⟩
        rw [srt_one hp hs]
        exact P.give S hl hl (new_lst S (strs_reps _) hl)
      · exact False.elim P
    · exact False.elim P
  · exact False.elim P
end
end Vm

namespace Vm
open PySem PySem.Spec L2 PySem.Froz
/-! ## l.extend(m), s.add(x), set() -/
def sExt (l a : EM) : SM := fun env st => (l env st).s fun x s1 => match x with
  | .loc n => match deref s1 (.loc n) with
    | .lst _ => (a env s1).s fun y s2 => match deref s2 (.loc n), deref s2 y with
      | .lst xs, .lst zs => if xs.length + zs.length ≤ 1000000 ∧ pures zs = true then .nx env (s2.set n (.lst (xs ++ zs))) else .bad
      | _, _ => .bad
    | _ => .bad
  | _ => .bad
theorem evs_ext {X : Cx} {W : XD} {fr f1 f2 : Bool} {l e : Expr} {ml me : EM} {apos cpos pos : Pos} (hl : Ev X W f1 l ml) (he : Ev X W f2 e me)
    (hbase : attributeBase l "extend" X.env (eval l X.env) = eval l X.env := by rfl)
    (hfew : ((backTo cpos (starEach [e] X.env)).all (fun x => !x.1) && (backToKw cpos (keywordEach [] X.env)).all (fun x => x.1.isSome) && decide (([e] : List Expr).length + ([] : List Keyword).length + (if ([] : List Keyword).isEmpty then 0 else 1) < 30)) = true := by rfl)
    (hline : (apos.endLine == cpos.line) = true := by rfl) (hse : starEach [e] X.env = (false, eval e X.env) :: starEach [] X.env := by rfl) (hplain : (backTo cpos (starEach [] X.env)).any (·.1) = false := by rfl)
    (hs : swapsWith (.Call (.Attribute l "extend" apos) [e] [] cpos) none pos.line X.env = pure false := by rfl) : EvS X W fr (.Expr (.Call (.Attribute l "extend" apos) [e] [] cpos) pos) (sExt ml me) :=
  PS.anti (ps_expr (pe_bm PySem.F.plainAttrs_list PySem.F.slot_list_extend PySem.F.type_list_extend mt_extend hl (pa_cons he pa_nil hse) hbase hfew hline hse hplain) hs) fun D σ H ⟨hid, ρ, env, st, R, P⟩ => sE_use R P fun ρ1 st1 H1 x v l1 R1 rx _ P1 => by
    split at P1
    · rename_i n
      split at P1
      · rename_i zs0 ez
        obtain ⟨a, rfl, hn, o, _⟩ := loc_obj R1.s rx
        rw [ez] at o
        obtain ⟨ws, ho, _⟩ := o
        refine ⟨.inl ⟨rfl, _, SqL.of ho⟩, sE_use R1 P1 fun ρ2 st2 H2 y u l2 R2 ry _ P2 => ?_⟩
        split at P2
        · rename_i xs zs ex ey
          split at P2
          · rename_i hz
            obtain ⟨b, eb, hn2, o2, f2⟩ := loc_obj R2.s (Rep.later l2 _ _ rx)
            cases eb
            rw [ex] at o2 f2
            obtain ⟨vs, hv, rv⟩ := o2
            obtain ⟨c, us, rfl, hc, ru⟩ := rep_lst R2.s ry ey
            have mu : Mut (H2 a) := by rw [hv]; trivial
            have hin : a ∈ ρ2 := List.mem_of_getElem? hn2
            refine ⟨a, c, vs, us, rfl, rfl, hv, hc, by rw [rv.length, ru.length]; exact sz _ hz.1, ?_⟩
            refine P2 ρ2 _ σ (Later.wr hin mu) ⟨srel_wr hn2 mu R2.s ⟨vs ++ us, upd_same, reps_wr (.inl hin) mu _ _ (rv.append ru)⟩ ?_, envR_wr (.inl hin) mu R2.e⟩
            show pures (xs ++ zs) = true
            rw [pures_app, show pures xs = true from f2, hz.2]; rfl
          · exact False.elim P2
        · exact False.elim P2
      · exact False.elim P1
    · exact False.elim P1
section
variable {P : Program} {w : World} {A : Around} {E : Value → Shared → Prop} {s : Shared} {a : Addr} {l : List Str}
theorem sx_call_add {k : Str} {u : Tok} {Q : Value → Shared → Prop} (R : SX P w s.heap a l) (room : l.length + 1 < scanBound)
    (fin : ∀ h', Heap.SameBut a s.heap h' → SX P w h' a (addS l k) → Q .none { s with heap := h', toks := s.toks + 1 }) : wpAny (model P w) A (call (.builtin "set.add") [.ref a, .str k u]) Q E s := by
  refine wpAny_call_entry PySem.F.slot_set_add R.setOf.typeIs PySem.F.entry_set_add ?_ (PySem.F.args_set_add_2 _ _)
  unfold Builtin.«set.add» Builtin.Frozenset.oneOther; simp only [List.isEmpty_nil, bind_assoc]
  unfold Builtin.Frozenset.addrOf setAdd
  refine wpAny_bind (wpAny_pure ?_); try dsimp only
  refine wpAny_bind (wpAny_pure ?_); try dsimp only
  refine wpAny_bind (wpAny_holding (wpAny_bind ((strKind P w).pyHash (k := k) (is_str k u) ?_)))
  refine sx_add (s := { s with toks := s.toks + 1 }) R room fun h' b sb r => ?_
  show wpAny _ _ (ret Value.none) _ _ _
  exact wpAny_pure ⟨_, rfl, fin h' sb r⟩
end
def rAddX (P : Program) (w : World) : V → List V → Hp → VK → Prop := fun x xs H Q => ∃ (a : Addr) (k : Str) (l : List Str), x = V.ref a ∧ xs = [V.str k] ∧ H a = some (SXo P w a l) ∧ l.length + 1 < scanBound ∧ Q .non (upd H a (SXo P w a (addS l k)))
theorem mt_addX {X : Cx} : MtR X "set.add" (rAddX X.prog X.w) := by
  intro pins s σ H x xs v us Q I rx rxs h
  obtain ⟨a, k, l, rfl, rfl, ha, room, q⟩ := h
  cases rx
  cases rxs with
  | cons ry rt =>
    cases rt
    obtain ⟨t, rfl⟩ := ry
    refine sx_call_add (sxo_get I ha) room fun h' sb r => ?_
    have he : ∃ u, h'.get? a = some u := by have ⟨_, ho, _⟩ := r; exact ⟨_, ho⟩
    exact ⟨.non, upd H a (SXo X.prog X.w a (addS l k)), I.write (e := a) (t' := s.toks + 1) (by rw [ha]; trivial) (.inl rfl) (fun b u hb hu => (sb.2 b hb).trans hu) he (sxo_new r), rfl, q⟩
def tAddX (P : Program) (w : World) (to : TE) (t : TA) : TE := fun σ H Q => to σ H fun x H1 => (∃ a l, x = V.ref a ∧ H1 a = some (SXo P w a l)) ∧ t σ H1 fun xs H2 => rAddX P w x xs H2 Q
theorem pe_addX {X : Cx} {o e : Expr} {es : List Expr} {to : TE} {t : TA} {apos cpos : Pos} (ho : PE X o to) (ha : PA X (e :: es) t)
    (hbase : attributeBase o "add" X.env (eval o X.env) = eval o X.env := by rfl)
    (hfew : ((backTo cpos (starEach (e :: es) X.env)).all (fun x => !x.1) && (backToKw cpos (keywordEach [] X.env)).all (fun x => x.1.isSome) && decide ((e :: es).length + ([] : List Keyword).length + (if ([] : List Keyword).isEmpty then 0 else 1) < 30)) = true := by rfl)
    (hline : (apos.endLine == cpos.line) = true := by rfl) (hs : starEach (e :: es) X.env = (false, eval e X.env) :: starEach es X.env := by rfl) (hplain : (backTo cpos (starEach es X.env)).any (·.1) = false := by rfl) :
    PE X (.Call (.Attribute o "add" apos) (e :: es) [] cpos) (tAddX X.prog X.w to t) :=
  ⟨fun pins s σ H Q I h => wpAny_Call_method_late hbase hfew hline rfl (thn (ho.run pins s σ H _ I h) fun v s1 ⟨x, H1, I1, r1, ty, q1⟩ => by
    obtain ⟨a, l, rfl, hka⟩ := ty
    have hS := (sxo_get I1 hka).setOf
    cases r1
    refine ⟨"set", "set.add", PySem.F.plainAttrs_set, PySem.F.slot_set_add, PySem.F.type_set_add, hS.typeIs, hS.noDict, ?_⟩
    have hA := ha.run cpos pins s1 σ H1 _ I1 q1
    rw [hs] at hA ⊢
    refine Calls.callWith_builtin (by show (false || (backTo cpos (starEach es X.env)).any (·.1)) = false; rw [hplain] <;> rfl) (Calls.evalArgs_plain (thn hA fun us s2 ⟨vs, H2, I2, r2, q2⟩ => ?_))
    exact mt_addX pins s2 σ H2 (.ref a) vs (.ref a) us Q I2 rfl r2 q2)⟩
def sAdd (l a : EM) : SM := fun env st => (l env st).s fun x s1 => match x with
  | .loc n => match deref s1 (.loc n) with
    | .sset _ => (a env s1).s fun y s2 => match deref s2 (.loc n), y with
      | .sset xs, .str k => if xs.length < 1000 then .nx env (s2.set n (.sset (addS xs k))) else .bad
      | _, _ => .bad
    | _ => .bad
  | _ => .bad
theorem evs_add {X : Cx} {W : XD} {fr f1 f2 : Bool} {l e : Expr} {ml me : EM} {apos cpos pos : Pos} (hl : Ev X W f1 l ml) (he : Ev X W f2 e me)
    (hbase : attributeBase l "add" X.env (eval l X.env) = eval l X.env := by rfl)
    (hfew : ((backTo cpos (starEach [e] X.env)).all (fun x => !x.1) && (backToKw cpos (keywordEach [] X.env)).all (fun x => x.1.isSome) && decide (([e] : List Expr).length + ([] : List Keyword).length + (if ([] : List Keyword).isEmpty then 0 else 1) < 30)) = true := by rfl)
    (hline : (apos.endLine == cpos.line) = true := by rfl) (hse : starEach [e] X.env = (false, eval e X.env) :: starEach [] X.env := by rfl) (hplain : (backTo cpos (starEach [] X.env)).any (·.1) = false := by rfl)
    (hs : swapsWith (.Call (.Attribute l "add" apos) [e] [] cpos) none pos.line X.env = pure false := by rfl) : EvS X W fr (.Expr (.Call (.Attribute l "add" apos) [e] [] cpos) pos) (sAdd ml me) :=
  PS.anti (ps_expr (pe_addX hl (pa_cons he pa_nil hse) hbase hfew hline hse hplain) hs) fun D σ H ⟨hid, ρ, env, st, R, P⟩ => sE_use R P fun ρ1 st1 H1 x v l1 R1 rx _ P1 => by
    split at P1
    · rename_i n
      split at P1
      · rename_i zs0 ez
        obtain ⟨a, rfl, hn, o, _⟩ := loc_obj R1.s rx
        rw [ez] at o
        refine ⟨⟨a, zs0, rfl, o⟩, sE_use R1 P1 fun ρ2 st2 H2 y u l2 R2 ry _ P2 => ?_⟩
        split at P2
        · rename_i xs k ex
          split at P2
          · rename_i hz
            obtain ⟨b, eb, hn2, o2, f2⟩ := loc_obj R2.s (Rep.later l2 _ _ rx)
            cases eb
            rw [ex] at o2 f2
            obtain rfl : u = .str k := ry
            have hv : H2 a = some (SXo X.prog X.w a xs) := o2
            have mu : Mut (H2 a) := by rw [hv]; trivial
            have hin : a ∈ ρ2 := List.mem_of_getElem? hn2
            refine ⟨a, k, xs, rfl, rfl, hv, Nat.lt_of_lt_of_le (Nat.succ_lt_succ hz) (by decide), ?_⟩
            exact P2 ρ2 _ σ (Later.wr hin mu) ⟨srel_wr hn2 mu R2.s upd_same rfl, envR_wr (.inl hin) mu R2.e⟩
          · exact False.elim P2
        · exact False.elim P2
      · exact False.elim P1
    · exact False.elim P1
def rSet0X (P : Program) (w : World) : List V → Hp → VK → Prop := fun xs H Q => xs = [] ∧ ∀ p, H p = none → Q (.ref p) (upd H p (SXo P w p []))
theorem cr_set0X {X : Cx} : CallR X (.type "set") (rSet0X X.prog X.w) := by
  intro pins s σ H xs us Q I r h
  obtain ⟨rfl, q⟩ := h
  cases r
  refine setR_new fun _ => ?_
  have new : SX X.prog X.w (s.heap.push (so X.w)) s.heap.objs.size [] := sx_new (Heap.get?_push_size _ rfl)
  exact ⟨.ref _, upd H s.heap.objs.size (SXo X.prog X.w s.heap.objs.size []), I.laid (t' := s.toks) (fun b u e => Heap.get?_push_of_some _ e) (Nat.le_refl _) (sxo_new new), rfl, q _ (I.hok.fresh (Nat.le_refl _))⟩
theorem ev_set0 {X : Cx} {W : XD} {p pos : Pos} (hm : X.mg "set" = none) (hg : Gl X "set" := by rfl) : Ev X W true (.Call (.Name "set" p) [] [] pos) (fun _ st => .ok (.sset []) st) :=
  PE.anti (pe_callTy0 cr_set0X hg hm PyProof.Rows.boot_set) fun σ H Q ⟨hid, ρ, env, st, R, P⟩ => ⟨rfl, fun p hp => Post.give P R.s hp hp (new_sx R.s hp)⟩
end Vm

namespace Vm
open PySem PySem.Spec L2
/-! ## comprehensions of two loops -/
def compO (j : IT) (L : Nat) (F : PV → List PV → VSt → Res (List PV)) : Nat → List PV → VSt → Res (List PV)
  | 0, acc, st => match Itm j st with
    | some xs => if xs.length = L then .ok acc st else .bad
    | none => .bad
  | m + 1, acc, st => match Itm j st with
    | some xs => if xs.length = L then match xs[L - (m + 1)]? with
        | some x => (F x acc st).bind fun acc s => compO j L F m acc s
        | none => .bad
      else .bad
    | none => .bad
def compI (g : GM) (it1 : IM) (g1 : GM) (elt : EM) (vs vs1 : List Nat) (env : VEnv) : PV → List PV → VSt → Res (List PV) := fun x acc s => match g x (wipeE env vs) with
  | some e => (it1 e s).nox.bind fun j1 s1 => match Itm j1 s1 with
    | some xs1 => compP j1 xs1.length (compF g1 tTrue elt vs1 e) xs1.length acc s1
    | none => .bad
  | none => .bad
def eComp2 (it : IM) (g : GM) (it1 : IM) (g1 : GM) (elt : EM) (vs vs1 : List Nat) : EM := fun env st => (it env st).bind fun j s1 => match Itm j s1 with
  | some xs => (compO j xs.length (compI g it1 g1 elt vs vs1 env) xs.length [] s1).bind fun ys s => .ok (.lst ys) s
  | none => .bad
theorem wipe_idem (us : List Nat) (τ : L2.St) : L2.wipe (L2.wipe τ us) us = L2.wipe τ us := by
  have h1 : ∀ (as bs : List Nat) (τ : L2.St), (∀ a ∈ as, a ∈ bs) → L2.wipe (L2.wipe τ as) bs = L2.wipe τ bs := by
    intro as
    induction as with
    | nil => intro bs τ _; rfl
    | cons a as ih =>
      intro bs τ hs
      show L2.wipe ((L2.wipe τ as).set a none) bs = _
      rw [wipe_set (hs a List.mem_cons_self)]
      exact ih bs τ fun b hb => hs b (List.mem_cons_of_mem _ hb)
  exact h1 us us τ fun a h => h
section
variable {X : Cx} {W : XD} {elt tg iter tg1 iter1 : Expr} {scope : Scope} {own : List (Str × Nat)} {pos : Pos} {it it1 : IM} {g g1 : GM} {me : EM} {fe : Bool}
theorem lc2_rd {vs vs1 : List Nat} {σ : L2.St} {H : Hp} {Q : VK} (h : cE X W true (eComp2 it g it1 g1 me vs vs1) σ H Q) : tLc2 (cI X W it) (cG X W.no vs g) (cT X W.no tTrue) (cI X W.no it1) (cG X W.no vs1 g1) (cT X W.no tTrue) (cE X W.no fe me) vs vs1 σ H Q := by
  obtain ⟨hid, ρ, env, st, R, P⟩ := h
  refine ⟨hid, ρ, env, st, R, P.bind.imp fun ρ1 st1 H1 j l1 S1 P1 => ?_⟩
  have P1' : Post (gx X W hid) ρ1 H1 (match Itm j st1 with
      | some xs => (compO j xs.length (compI g it1 g1 me vs vs1 env) xs.length [] st1).bind fun ys s => .ok (.lst ys) s
      | none => .bad) (kE (gx X W hid) H true Q) := P1
  cases ex : Itm j st1 with
  | none => rw [ex] at P1'; exact False.elim P1'
  | some xs =>
    rw [ex] at P1'
    refine ⟨rfl, fun v rj J hJ D hD => ?_⟩
    have hDH : H D = none := l1.back hD
    have R1 := R.later l1 S1
    let G' := gx X W.no (D :: hid)
    refine ⟨fun i m H' => ∃ ρ' st' acc accV, Later ρ1 H1 ρ' H' ∧ SRel G' ρ' st' H' ∧ EnvR G' ρ' H' (wipeE env vs) (L2.wipe σ vs) ∧ RepJ G' ρ' H' j v ∧ H' D = some (.lst accV) ∧ Reps G' ρ' H' acc accV ∧ m + i = xs.length ∧
        Post (gx X W hid) ρ1 H1 ((compO j xs.length (compI g it1 g1 me vs vs1 env) m acc st').bind fun ys s => .ok (.lst ys) s) (kE (gx X W hid) H true Q),
      ⟨xs.length, ρ1, st1, [], [], Later.new hD, srel_hide hD S1, (envR_hide hD R1.e).wipe vs, repJ_hide hD rj, upd_same, rfl, by omega, P1'⟩, ?_⟩
    rintro i m H' ⟨ρ', st', acc, accV, l, S', E', rj', hD', ra, hm, P'⟩
    have nD : D ∉ ρ' := (S'.hid D List.mem_cons_self).1
    cases m with
    | zero =>
      unfold compO at P'
      split at P'
      · rename_i ys ey
        split at P'
        · rename_i hl
          obtain ⟨ws, _, h1, _⟩ := hJ (D :: hid) ρ' st' H' (srel_wx (xd := W) S') (repJ_wx (xd := W) rj') ys ey
          have nh : D ∉ hid := (S1.freshH hD : D ∉ (gx X W hid).hid)
          refine .inl ⟨h1 i (by omega), ?_⟩
          have P2 : Post (gx X W hid) ρ1 H1 (.ok (.lst acc) st') (kE (gx X W hid) H true Q) := P'
          exact P2 ρ' H' l (srel_show (G := gx X W hid) S') (.ref D) ⟨D, accV, rfl, nD, nh, hD', reps_show (G := gx X W hid) acc accV ra⟩ fun _ a e => by cases e; exact hDH
        · exact False.elim P'
      · exact False.elim P'
    | succ m =>
      unfold compO at P'
      split at P'
      · rename_i ys ey
        split at P'
        · rename_i hl
          obtain ⟨ws, hr, _, h2⟩ := hJ (D :: hid) ρ' st' H' (srel_wx (xd := W) S') (repJ_wx (xd := W) rj') ys ey
          have hi : i < ys.length := by omega
          obtain ⟨h3, h4⟩ := h2 i hi
          have ei : xs.length - (m + 1) = i := by omega
          rw [ei, List.getElem?_eq_getElem hi] at P'
          refine .inr ⟨h3, fun H2 => ∃ ρ2 st2 acc2 accV2, Later ρ1 H1 ρ2 H2 ∧ SRel G' ρ2 st2 H2 ∧ EnvR G' ρ2 H2 (wipeE env vs) (L2.wipe σ vs) ∧ RepJ G' ρ2 H2 j v ∧ H2 D = some (.lst accV2) ∧ Reps G' ρ2 H2 acc2 accV2 ∧
              Post (gx X W hid) ρ1 H1 ((compO j xs.length (compI g it1 g1 me vs vs1 env) m acc2 st2).bind fun ys s => .ok (.lst ys) s) (kE (gx X W hid) H true Q),
            fun H2 ⟨ρ2, st2, acc2, accV2, a1, a2, a3, a4, a5, a6, a7⟩ => ⟨m, by omega, ρ2, st2, acc2, accV2, a1, a2, a3, a4, a5, a6, by omega, a7⟩, fun x H2 hy => ?_⟩
          obtain ⟨rfl, hx⟩ := h4 x H2 hy
          obtain ⟨w, hw, rw'⟩ := hr.get (List.getElem?_eq_getElem hi)
          rw [hx] at hw
          cases hw
          replace P' : Post (gx X W hid) ρ1 H1 (((compI g it1 g1 me vs vs1 env ys[i] acc st').bind fun acc s => compO j xs.length (compI g it1 g1 me vs vs1 env) m acc s).bind fun ys s => .ok (.lst ys) s) (kE (gx X W hid) H true Q) := P'
          cases eg : g ys[i] (wipeE env vs) with
          | none =>
            have eI : compI g it1 g1 me vs vs1 env ys[i] acc st' = .bad := by simp only [compI, eg]
            rw [eI] at P'
            exact False.elim P'
          | some env2 =>
            have eI : compI g it1 g1 me vs vs1 env ys[i] acc st' = (it1 env2 st').nox.bind fun j1 s1 => match Itm j1 s1 with
                | some xs1 => compP j1 xs1.length (compF g1 tTrue me vs1 env2) xs1.length acc s1
                | none => .bad := by simp only [compI, eg]
            rw [eI, Res.bind_assoc, Res.bind_assoc] at P'
            refine ⟨D :: hid, ρ', wipeE env vs, st', ys[i], env2, ⟨S', E'⟩, rep_wx (xd := W.no) _ _ rw', eg, fun σ3 E3 hw3 => ⟨by rw [hw3]; exact wipe_idem vs σ, D :: hid, ρ', env2, st', ⟨S', E3⟩, fun ρ4 H4 l4 S4 => ?_⟩⟩
            refine ⟨D :: hid, ρ4, env2, st', ⟨S4, E3.later l4⟩, (Post.hide (G := gx X W hid) (d := D) (xd := W.no) (Post.move (l.trans l4) P'.bind0)).imp fun ρ5 st5 H5 j1 l5 S5 P5 => ?_⟩
            have hD5 : H5 D = some (.lst accV) := l5.keep D _ (l4.keep D _ hD' nD) (S4.hid D List.mem_cons_self).1
            replace P5 : Post (gx X W hid) ρ1 H1 ((match Itm j1 st5 with
                | some xs1 => compP j1 xs1.length (compF g1 tTrue me vs1 env2) xs1.length acc st5
                | none => .bad).bind fun acc s => (compO j xs.length (compI g it1 g1 me vs vs1 env) m acc s).bind fun ys s => .ok (.lst ys) s) (kE (gx X W hid) H true Q) := by
              rw [← Res.bind_assoc]; rw [← Res.bind_assoc] at P5; exact P5
            cases ex1 : Itm j1 st5 with
            | none => rw [ex1] at P5; exact False.elim P5
            | some xs1 =>
              rw [ex1] at P5
              refine ⟨rfl, fun v1 rj1 J1 hJ1 => ⟨fun i1 k H6 => ∃ ρ6 st6 acc6 accV6, Later ρ1 H1 ρ6 H6 ∧ SRel G' ρ6 st6 H6 ∧ EnvR G' ρ6 H6 (wipeE env2 vs1) (L2.wipe σ3 vs1) ∧ EnvR G' ρ6 H6 (wipeE env vs) (L2.wipe σ vs) ∧ RepJ G' ρ6 H6 j1 v1 ∧ RepJ G' ρ6 H6 j v ∧ H6 D = some (.lst accV6) ∧ Reps G' ρ6 H6 acc6 accV6 ∧ k + i1 = xs1.length ∧
                  Post (gx X W hid) ρ1 H1 ((compP j1 xs1.length (compF g1 tTrue me vs1 env2) k acc6 st6).bind fun acc s => (compO j xs.length (compI g it1 g1 me vs vs1 env) m acc s).bind fun ys s => .ok (.lst ys) s) (kE (gx X W hid) H true Q),
                ⟨xs1.length, ρ5, st5, acc, accV, (l.trans l4).trans l5, S5, (E3.later (l4.trans l5)).wipe vs1, E'.later (l4.trans l5), rj1, rj'.later (l4.trans l5), hD5, Reps.later (l4.trans l5) _ _ ra, by omega, P5⟩, ?_⟩⟩
              rintro i1 k H6 ⟨ρ6, st6, acc6, accV6, l6, S6, Ei, Eo, rj6, ro6, hD6, ra6, hm6, P6⟩
              have nD6 : D ∉ ρ6 := (S6.hid D List.mem_cons_self).1
              cases k with
              | zero =>
                unfold compP at P6
                split at P6
                · rename_i zs ez
                  split at P6
                  · rename_i hz
                    obtain ⟨ws1, _, h5, _⟩ := hJ1 (D :: hid) ρ6 st6 H6 S6 rj6 zs ez
                    exact .inl ⟨h5 i1 (by omega), ρ6, st6, acc6, accV6, l6, S6, Eo, ro6, hD6, ra6, P6⟩
                  · exact False.elim P6
                · exact False.elim P6
              | succ k =>
                unfold compP at P6
                split at P6
                · rename_i zs ez
                  split at P6
                  · rename_i hz
                    obtain ⟨ws1, hr1, _, h6⟩ := hJ1 (D :: hid) ρ6 st6 H6 S6 rj6 zs ez
                    have hi1 : i1 < zs.length := by omega
                    obtain ⟨h7, h8⟩ := h6 i1 hi1
                    have ei1 : xs1.length - (k + 1) = i1 := by omega
                    rw [ei1, List.getElem?_eq_getElem hi1] at P6
                    refine .inr ⟨h7, fun H2 => ∃ ρ2 st2 acc2 accV2, Later ρ1 H1 ρ2 H2 ∧ SRel G' ρ2 st2 H2 ∧ EnvR G' ρ2 H2 (wipeE env2 vs1) (L2.wipe σ3 vs1) ∧ EnvR G' ρ2 H2 (wipeE env vs) (L2.wipe σ vs) ∧ RepJ G' ρ2 H2 j1 v1 ∧ RepJ G' ρ2 H2 j v ∧ H2 D = some (.lst accV2) ∧ Reps G' ρ2 H2 acc2 accV2 ∧
                        Post (gx X W hid) ρ1 H1 ((compP j1 xs1.length (compF g1 tTrue me vs1 env2) k acc2 st2).bind fun acc s => (compO j xs.length (compI g it1 g1 me vs vs1 env) m acc s).bind fun ys s => .ok (.lst ys) s) (kE (gx X W hid) H true Q),
                      fun H2 ⟨ρ2, st2, acc2, accV2, a1, a2, a3, a4, a5, a6, a7, a8, a9⟩ => ⟨k, by omega, ρ2, st2, acc2, accV2, a1, a2, a3, a4, a5, a6, a7, a8, by omega, a9⟩, fun x1 H2 hy1 => ?_⟩
                    obtain ⟨rfl, hx1⟩ := h8 x1 H2 hy1
                    obtain ⟨w1, hw1, rw1⟩ := hr1.get (List.getElem?_eq_getElem hi1)
                    rw [hx1] at hw1
                    cases hw1
                    replace P6 : Post (gx X W hid) ρ1 H1 (((compF g1 tTrue me vs1 env2 zs[i1] st6).bind fun o s => compP j1 xs1.length (compF g1 tTrue me vs1 env2) k (match o with
                      | some y => acc6 ++ [y]
                      | none => acc6) s).bind fun acc s => (compO j xs.length (compI g it1 g1 me vs vs1 env) m acc s).bind fun ys s => .ok (.lst ys) s) (kE (gx X W hid) H true Q) := P6
                    cases eg1 : g1 zs[i1] (wipeE env2 vs1) with
                    | none =>
                      have eF : compF g1 tTrue me vs1 env2 zs[i1] st6 = .bad := by simp only [compF, eg1]
                      rw [eF] at P6
                      exact False.elim P6
                    | some env3 =>
                      have eF : compF g1 tTrue me vs1 env2 zs[i1] st6 = (me env3 st6).nox.bind fun y s3 => .ok (some y) s3 := by simp only [compF, eg1]; exact Eq.trans rfl rfl
                      rw [eF, Res.bind_assoc, Res.bind_assoc] at P6
                      refine ⟨D :: hid, ρ6, wipeE env2 vs1, st6, zs[i1], env3, ⟨S6, Ei⟩, rw1, eg1, fun σ4 E4 hw4 => ⟨by rw [hw4]; exact wipe_idem vs1 σ3, D :: hid, ρ6, env3, st6, ⟨S6, E4⟩, fun ρ7 H7 l7 S7 => ?_⟩⟩
                      refine ⟨D :: hid, ρ7, env3, st6, ⟨S7, E4.later l7⟩, (Post.hide (G := gx X W hid) (d := D) (xd := W.no) (Post.move (l6.trans l7) P6.bind0)).imp fun ρ8 st8 H8 y l8 S8 P8 u ry _ => ?_⟩
                      have hD8 : H8 D = some (.lst accV6) := l8.keep D _ (l7.keep D _ hD6 nD6) (S7.hid D List.mem_cons_self).1
                      have ra8 := Reps.later (l7.trans l8) _ _ ra6
                      have mu : Mut (H8 D) := by rw [hD8]; trivial
                      have hin : D ∈ ρ8 ∨ D ∈ (gx X W.no (D :: hid)).hid := .inr List.mem_cons_self
                      refine ⟨accV6, hD8, ?_, ρ8, st8, acc6 ++ [y], accV6 ++ [u], (l6.trans (l7.trans l8)).mut hD, srel_hwr List.mem_cons_self mu S8, envR_wr hin mu (Ei.later (l7.trans l8)), envR_wr hin mu (Eo.later (l7.trans l8)), repJ_wr hin mu (rj6.later (l7.trans l8)), repJ_wr hin mu (ro6.later (l7.trans l8)), upd_same, reps_wr hin mu _ _ (ra8.append (Reps.one ry)), P8⟩
                      rw [ra6.length]
                      exact szl _ (by omega)
                  · exact False.elim P6
                · exact False.elim P6
        · exact False.elim P'
      · exact False.elim P'
variable {pr : Prg} {T : Tbl} {n : Nat} {bs : List Str} {cs : List (Str × Int)}
theorem ev_comp2C (own : List (Str × Nat)) (vs1 : List Nat) (c : Cok X W pr T n bs cs) (hi : EvI X W tg iter it) (ok : BlkOk X.N X.env.scope scope own) (hv : ∀ i ∈ vs1, i ∈ own.map (·.2))
    (hg : ∀ (s : Shared) (H : Hp) (C : Addr) (cl : List (Str × Addr)) (fp : List Addr), Cok (X.blk s H scope (compEnvC scope cl C X.env) fp) W.no pr T n bs cs → EvG (X.blk s H scope (compEnvC scope cl C X.env) fp) W.no (own.map Prod.snd) tg g)
    (hi1 : ∀ (s : Shared) (H : Hp) (C : Addr) (cl : List (Str × Addr)) (fp : List Addr), Cok (X.blk s H scope (compEnvC scope cl C X.env) fp) W.no pr T n bs cs → EvI (X.blk s H scope (compEnvC scope cl C X.env) fp) W.no tg1 iter1 it1)
    (hg1 : ∀ (s : Shared) (H : Hp) (C : Addr) (cl : List (Str × Addr)) (fp : List Addr), Cok (X.blk s H scope (compEnvC scope cl C X.env) fp) W.no pr T n bs cs → EvG (X.blk s H scope (compEnvC scope cl C X.env) fp) W.no vs1 tg1 g1)
    (he : ∀ (s : Shared) (H : Hp) (C : Addr) (cl : List (Str × Addr)) (fp : List Addr), Cok (X.blk s H scope (compEnvC scope cl C X.env) fp) W.no pr T n bs cs → Ev (X.blk s H scope (compEnvC scope cl C X.env) fp) W.no fe elt me)
    (hs : ∀ x, foldedSetIterable iter X.env x = pure x := by intro _; rfl) (hs1 : ∀ env x, foldedSetIterable iter1 env x = pure x := by intro _ _; rfl) :
    Ev X W true (.ListComp elt [⟨tg, iter, [], 0⟩, ⟨tg1, iter1, [], 0⟩] scope pos) (eComp2 it g it1 g1 me (own.map Prod.snd) vs1) :=
  PE.anti (pe_lc2 (g := cG X W.no (own.map Prod.snd) g) (tt := cT X W.no tTrue) (wi1 := cI X W.no it1) (g1 := cG X W.no vs1 g1) (tt1 := cT X W.no tTrue) (te := cE X W.no fe me) c.calm c.nd hi ok hv (fun s H C cl fp => hg s H C cl fp (c.blk s H _ _ fp)) (fun s H C cl fp => evts_nil) (fun s H C cl fp => hi1 s H C cl fp (c.blk s H _ _ fp))
    (fun s H C cl fp => hg1 s H C cl fp (c.blk s H _ _ fp)) (fun s H C cl fp => evts_nil) (fun s H C cl fp => he s H C cl fp (c.blk s H _ _ fp)) hs hs1) fun σ H Q h => lc2_rd h
end
end Vm

namespace Vm
open PySem PySem.Spec L2
/-! ## name = [..] and, right behind it, name.append(e): the items may be lists -/
def sLapp (i : Nat) (es : AM) (a : EM) : SM := fun env st => (es env st).s fun xs s1 => (a (env.set i none) s1).nox.s fun y s2 => if xs.length < 1000000 ∧ i < env.length then .nx (env.set i (some (.lst (xs ++ [y])))) s2 else .bad
theorem cA_useS {X : Cx} {W : XD} {hid ρ : List Addr} {env : VEnv} {st : VSt} {σ : L2.St} {H : Hp} {fr : Bool} {D : Ends} {m : AM} {k : List PV → VSt → SR} {Q : List V → Hp → Prop} (R : Rel (gx X W hid) ρ env st σ H) (P : PostS (gx X W hid) ρ H fr ((m env st).s k) D)
    (q : ∀ ρ1 st1 H1 p v, Later ρ H ρ1 H1 → Rel (gx X W hid) ρ1 env st1 σ H1 → Reps (gx X W hid) ρ1 H1 p v → PostS (gx X W hid) ρ H fr (k p st1) D → Q v H1) : cA X W m σ H Q := by
  refine ⟨hid, ρ, env, st, R, ?_⟩
  cases e : m env st with
  | bad => rw [e] at P; exact P
  | ex c fs s => rw [e] at P; exact P
  | ok a s =>
    rw [e] at P
    exact fun ρ1 H1 l S v rv => q ρ1 s H1 a v l (R.later l S) rv P
theorem evss_lapp {X : Cx} {W : XD} {fr f2 : Bool} {i : Nat} {x : Str} {es : List Expr} {e : Expr} {rest : List Stmt} {mes : AM} {me : EM} {mr : SM} {xp lp apos cpos pos np pos' : Pos}
    (nd : X.N.Nodup) (hes : EvA X W es mes) (he : Ev X W f2 e me) (hr : EvSs X W fr rest mr) (hv : Vis X.env.scope x := by first | exact Or.inl rfl | exact Or.inr (Or.inl rfl) | exact Or.inr (Or.inr rfl))
    (hx : Loc X.env.scope x := by first | exact Or.inl rfl | exact Or.inr rfl) (hi : X.N[i]? = some x := by rfl) (hsw : swapsWith (.List es lp) (some (.Name x xp)) pos'.line X.env = pure false := by rfl)
    (hf : X.fn x = true ∨ X.env.scope.names.lookup x = some .local := by first | exact .inl rfl | exact .inr rfl | assumption)
    (hd : (x == ("__debug__" : Str)) = false := by decide) (hcd : (x == ("__classdict__" : Str)) = false := by decide)
    (hbase : attributeBase (.Name x np) "append" X.env (eval (.Name x np) X.env) = eval (.Name x np) X.env := by rfl)
    (hfew : ((backTo cpos (starEach [e] X.env)).all (fun x => !x.1) && (backToKw cpos (keywordEach [] X.env)).all (fun x => x.1.isSome)
      && decide (([e] : List Expr).length + ([] : List Keyword).length + (if ([] : List Keyword).isEmpty then 0 else 1) < 30)) = true := by rfl)
    (hline : (apos.endLine == cpos.line) = true := by rfl) (hse : starEach [e] X.env = (false, eval e X.env) :: starEach [] X.env := by rfl) (hplain : (backTo cpos (starEach [] X.env)).any (·.1) = false := by rfl)
    (hs : swapsWith (.Call (.Attribute (.Name x np) "append" apos) [e] [] cpos) none pos.line X.env = pure false := by rfl) :
    EvSs X W fr (.Assign [.Name x xp] (.List es lp) pos' :: .Expr (.Call (.Attribute (.Name x np) "append" apos) [e] [] cpos) pos :: rest) (sCons (sLapp i mes me) mr) :=
  PSs.anti (pss_cons (ps_set nd hi hx (pe_lst hes) hsw hf) (pss_cons (ps_expr (pe_bm PySem.F.plainAttrs_list PySem.F.slot_list_append PySem.F.type_list_append mt_append (pe_var hi hv hd hcd) (pa_cons he pa_nil hse) hbase hfew hline hse hplain) hs) hr)) fun D σ H ⟨hid, ρ, env, st, R, P⟩ => by
    have P0 : PostS (gx X W hid) ρ H fr ((mes env st).s fun xs s1 => ((me (env.set i none) s1).nox.s fun y s2 => if xs.length < 1000000 ∧ i < env.length then SR.nx (env.set i (some (.lst (xs ++ [y])))) s2 else .bad).bind mr) D := by
      have e0 : sCons (sLapp i mes me) mr env st = ((mes env st).s fun xs s1 => ((me (env.set i none) s1).nox.s fun y s2 => if xs.length < 1000000 ∧ i < env.length then SR.nx (env.set i (some (.lst (xs ++ [y])))) s2 else .bad).bind mr) := by
        unfold sCons sLapp
        cases mes env st <;> rfl
      rw [← e0]; exact P
    refine cA_useS R P0 fun ρ1 st1 H1 ps vs l1 R1 rps P1 => ?_
    have P2 : PostS (gx X W hid) ρ H fr ((me (env.set i none) st1).nox.s fun y s2 => (if ps.length < 1000000 ∧ i < env.length then SR.nx (env.set i (some (.lst (ps ++ [y])))) s2 else .bad).bind mr) D := by
      have e0 : (((me (env.set i none) st1).nox.s fun y s2 => if ps.length < 1000000 ∧ i < env.length then SR.nx (env.set i (some (.lst (ps ++ [y])))) s2 else .bad).bind mr) = ((me (env.set i none) st1).nox.s fun y s2 => (if ps.length < 1000000 ∧ i < env.length then SR.nx (env.set i (some (.lst (ps ++ [y])))) s2 else .bad).bind mr) := by
        cases me (env.set i none) st1 <;> rfl
      rw [← e0]; exact P1
    have hz : ps.length < 1000000 ∧ i < env.length := by
      by_cases hz : ps.length < 1000000 ∧ i < env.length
      · exact hz
      · exfalso
        revert P2
        cases me (env.set i none) st1 with
        | bad => exact fun h => h
        | ex c fs s => exact fun h => h
        | ok a s =>
          intro h
          rw [show (Res.ok a s).nox.s (fun y s2 => (if ps.length < 1000000 ∧ i < env.length then SR.nx (env.set i (some (.lst (ps ++ [y])))) s2 else .bad).bind mr) = (if ps.length < 1000000 ∧ i < env.length then SR.nx (env.set i (some (.lst (ps ++ [a])))) s else .bad).bind mr from rfl, if_neg hz] at h
          exact h
    refine ⟨by rw [rps.length]; exact sz _ (by omega), fun p hp => ?_⟩
    have hpH : H p = none := l1.back hp
    have hin : i < σ.length := by rw [← R.e.1]; exact hz.2
    have E2 : EnvR (gx X W (p :: hid)) ρ1 (upd H1 p (.lst vs)) (env.set i none) (σ.set i (some (.ref p))) := by
      have E1 := envR_hide (xd := W) (o := .lst vs) hp R1.e
      refine ⟨by rw [List.length_set, List.length_set]; exact E1.1, fun j q e => ?_⟩
      by_cases hij : i = j
      · subst hij
        rw [List.getElem?_set_self hz.2] at e; cases e
      · rw [List.getElem?_set_ne hij] at e ⊢
        exact E1.2 j q e
    have S2 : SRel (gx X W (p :: hid)) ρ1 st1 (upd H1 p (.lst vs)) := srel_hide hp R1.s
    have rps2 : Reps (gx X W (p :: hid)) ρ1 (upd H1 p (.lst vs)) ps vs := reps_hide hp _ _ rps
    refine ⟨.ref p, by rw [List.getElem?_set_self hin], .inl ⟨rfl, _, SqL.of upd_same⟩, ?_⟩
    refine ⟨p :: hid, ρ1, env.set i none, st1, ⟨S2, E2⟩, ?_⟩
    cases eq : me (env.set i none) st1 with
    | bad => rw [eq] at P2; exact P2
    | ex c fs s => rw [eq] at P2; exact P2.elim
    | ok y st2 =>
      rw [eq] at P2
      replace P2 : PostS (gx X W hid) ρ H fr ((if ps.length < 1000000 ∧ i < env.length then SR.nx (env.set i (some (.lst (ps ++ [y])))) st2 else .bad).bind mr) D := P2
      rw [if_pos hz] at P2
      intro ρ3 H3 l3 S3 u ru _
      have nD : p ∉ ρ3 := (S3.hid p List.mem_cons_self).1
      have hD3 : H3 p = some (.lst vs) := l3.keep p _ upd_same (S2.hid p List.mem_cons_self).1
      have mu : Mut (H3 p) := by rw [hD3]; trivial
      have hin3 : p ∈ ρ3 ∨ p ∈ (gx X W (p :: hid)).hid := .inr List.mem_cons_self
      refine ⟨p, vs, u, rfl, rfl, hD3, by rw [rps.length]; exact szl _ (by omega), ?_⟩
      have lA : Later ρ H ρ3 (upd H3 p (.lst (vs ++ [u]))) := (l1.trans ((Later.new hp).trans l3)).mut hpH
      have ra : Reps (gx X W (p :: hid)) ρ3 (upd H3 p (.lst (vs ++ [u]))) (ps ++ [y]) (vs ++ [u]) := reps_wr hin3 mu _ _ ((Reps.later l3 _ _ rps2).append (Reps.one ru))
      have nh : p ∉ hid := (R1.s.freshH hp : p ∉ (gx X W hid).hid)
      have E4 : EnvR (gx X W hid) ρ3 (upd H3 p (.lst (vs ++ [u]))) (env.set i (some (.lst (ps ++ [y])))) (σ.set i (some (.ref p))) := by
        have E3 := envR_wr (o := .lst (vs ++ [u])) hin3 mu (E2.later l3)
        refine ⟨by rw [List.length_set, List.length_set]; exact R.e.1, fun j q e => ?_⟩
        by_cases hij : i = j
        · subst hij
          rw [List.getElem?_set_self hz.2] at e
          cases e
          exact ⟨.ref p, by rw [List.getElem?_set_self hin], p, _, rfl, nD, nh, upd_same, reps_show (G := gx X W hid) _ _ ra⟩
        · rw [List.getElem?_set_ne hij] at e
          obtain ⟨v, a, b⟩ := E3.2 j q (by rw [List.getElem?_set_ne hij]; exact e)
          exact ⟨v, a, rep_show (G := gx X W hid) q v b⟩
      exact ⟨hid, ρ3, env.set i (some (.lst (ps ++ [y]))), st2, ⟨srel_show (G := gx X W hid) (srel_hwr List.mem_cons_self mu S3), E4⟩, PostS.move lA P2⟩
/-! ## while -/
def whileP (c : EM) (b : SM) : Nat → VEnv → VSt → SR
  | 0, _, _ => .bad
  | m + 1, env, st => (c env st).s (onBS fun k s => if k = true then match b env s with
      | .nx e s => whileP c b m e s
      | .ct e s => whileP c b m e s
      | .bk e s => .nx e s
      | .rt p s => .rt p s
      | .ex c fs s => .ex c fs s
      | .bad => .bad
    else .nx env s)
def sWhile (c : EM) (b : SM) : SM := fun env st => whileP c b 1000000 env st
theorem evs_while {X : Cx} {W : XD} {fr : Bool} {c : Expr} {body : List Stmt} {mc : EM} {mb : SM} {pos : Pos} (hp : PassesOwn (model X.prog X.w) X.A X.env X.xe) (hc : EvT X W c mc) (hb : EvSs X W fr body mb) : EvS X W fr (.While c body [] pos) (sWhile mc mb) :=
  PS.anti (ps_while hp hc hb) fun D σ H ⟨hid, ρ, env, st, R, P⟩ => by
    refine ⟨fun m σ' H' => ∃ ρ' env' st', Later ρ H ρ' H' ∧ Rel (gx X W hid) ρ' env' st' σ' H' ∧ PostS (gx X W hid) ρ' H' fr (whileP mc mb m env' st') D, ⟨1000000, ρ, env, st, Later.refl _ _, R, P⟩, ?_⟩
    rintro m σ' H' ⟨ρ', env', st', l, R', P'⟩
    cases m with
    | zero => exact False.elim P'
    | succ m =>
      unfold whileP at P'
      refine sT_use R' P' fun ρ1 st1 H1 k l1 R1 P1 => ?_
      cases k with
      | false => exact P1 ρ1 H1 σ' (Later.refl _ _) R1
      | true =>
        rw [if_pos rfl] at P1
        rw [if_pos rfl]
        refine ⟨fun σ2 H2 => ∃ ρ2 env2 st2, Later ρ H ρ2 H2 ∧ Rel (gx X W hid) ρ2 env2 st2 σ2 H2 ∧ PostS (gx X W hid) ρ2 H2 fr (whileP mc mb m env2 st2) D, fun σ2 H2 ⟨ρ2, env2, st2, l2, R2, P2⟩ => ⟨m, Nat.lt_succ_self _, ρ2, env2, st2, l2, R2, P2⟩, hid, ρ1, env', st1, R1, ?_⟩
        cases eb : mb env' st1 with
        | nx e s =>
          rw [eb] at P1
          exact fun ρ4 H4 σ4 l4 R4 => ⟨ρ4, e, s, (l.trans l1).trans l4, R4, PostS.move l4 P1⟩
        | ct e s =>
          rw [eb] at P1
          exact fun ρ4 H4 σ4 l4 R4 => ⟨ρ4, e, s, (l.trans l1).trans l4, R4, PostS.move l4 P1⟩
        | bk e s =>
          rw [eb] at P1
          exact P1
        | rt p s =>
          rw [eb] at P1
          exact P1
        | ex c fs s =>
          rw [eb] at P1
          exact P1
        | bad =>
          rw [eb] at P1
          exact P1
/-! ## a < b < c, what is never reached -/
def eChain (f g : PV → PV → VSt → Res PV) (a b c : EM) : EM := fun env st => (a env st).bind fun x s1 => (b env s1).bind fun y s2 => (f x y s2).bind (onB fun k s3 => if k = true then (c env s3).bind fun z s4 => g y z s4 else .ok (.bl false) s3)
section
variable {X : Cx} {W : XD} {fr fa fb fc : Bool} {a b c : Expr} {ma mb mc : EM} {pos : Pos} {op op' : CmpOp} {r r' : R2} {f g : PV → PV → VSt → Res PV}
theorem chain_rd (os : OpSem X W true r f) (os' : OpSem X W true r' g) {σ : L2.St} {H : Hp} {Q : VK} (h : cE X W true (eChain f g ma mb mc) σ H Q) : tChain r r' (cE X W fa ma) (cE X W fb mb) (cE X W fc mc) σ H Q := by
  obtain ⟨hid, ρ, env, st, R, P⟩ := h
  refine cE_use R P fun ρ1 st1 H1 p v l1 R1 rp _ P1 => cE_use R1 P1 fun ρ2 st2 H2 q w l2 R2 rq _ P2 => ?_
  refine os _ _ _ _ _ _ _ _ _ R2.s (Rep.later l2 _ _ rp) rq (P2.bind.imp fun ρ3 st3 H3 z l3 S3 P3 v3 rv _ => ?_)
  cases z with
  | bl k =>
    obtain rfl : v3 = .bl k := rv
    refine ⟨k, rfl, ?_⟩
    have R3 := R2.later l3 S3
    cases k with
    | false =>
      have P4 : Post (gx X W hid) ρ3 H3 (.ok (.bl false) st3) (kE (gx X W hid) H true Q) := P3
      exact P4.val S3 rfl fun _ _ e => nomatch e
    | true =>
      have P4 : Post (gx X W hid) ρ3 H3 ((mc env st3).bind fun z s4 => g q z s4) (kE (gx X W hid) H true Q) := P3
      rw [if_pos rfl]
      exact cE_use R3 P4 fun ρ4 st4 H4 z u l4 R4 rz _ P5 => os' _ _ _ _ _ _ _ _ _ R4.s (Rep.later (l3.trans l4) _ _ rq) rz (kE.back ((l1.trans l2).trans (l3.trans l4)) P5)
  | _ => exact False.elim P3
theorem ev_chain (ho : OpR X (compareOp op) r) (os : OpSem X W true r f) (ho' : OpR X (compareOp op') r') (os' : OpSem X W true r' g) (ha : Ev X W fa a ma) (hb : Ev X W fb b mb) (hc : Ev X W fc c mc) (hm : lastMarks [op, op'] [b, c] = false := by with_unfolding_all rfl) :
    Ev X W true (.Compare a [op, op'] [b, c] pos) (eChain f g ma mb mc) := PE.anti (pe_chain ho ho' ha hb hc hm) fun σ H Q h => chain_rd os os' h
theorem evt_chain (ho : OpR X (compareOp op) r) (os : OpSem X W true r f) (ho' : OpR X (compareOp op') r') (os' : OpSem X W true r' g) (ha : Ev X W fa a ma) (hb : Ev X W fb b mb) (hc : Ev X W fc c mc) (hm : lastMarks [op, op'] [b, c] = false := by with_unfolding_all rfl) :
    EvT X W (.Compare a [op, op'] [b, c] pos) (eChain f g ma mb mc) := PT.anti (pt_chain ho ho' ha hb hc hm) fun σ H Q ⟨hid, ρ, env, st, R, P⟩ => chain_rd os os' ⟨hid, ρ, env, st, R, kE_B P⟩
def sNever : SM := fun _ _ => .bad
theorem evs_never {frs : Bool} {st : Stmt} : EvS X W frs st sNever := PS.anti ps_never fun D σ H ⟨hid, ρ, env, st, R, P⟩ => P
end
end Vm

namespace Vm
open PySem PySem.Spec L2
/-! ## running a meaning: the rules of the words -/
section
variable {α β : Type} {a : α} {st : VSt} {env : VEnv}
theorem bind_ok {k : α → VSt → Res β} : (Res.ok a st).bind k = k a st := rfl
theorem bind_ex {k : α → VSt → Res β} {c : Nat} {fs : List PV} : (Res.ex c fs st).bind k = .ex c fs st := rfl
theorem s_ex {k : α → VSt → SR} {c : Nat} {fs : List PV} : (Res.ex c fs st : Res α).s k = .ex c fs st := rfl
theorem sb_ex {k : SM} {c : Nat} {fs : List PV} : (SR.ex c fs st).bind k = .ex c fs st := rfl
theorem nox_ok : (Res.ok a st).nox = .ok a st := rfl
theorem bind_bad {k : α → VSt → Res β} : (Res.bad : Res α).bind k = .bad := rfl
theorem s_ok {k : α → VSt → SR} : (Res.ok a st).s k = k a st := rfl
theorem s_bad {k : α → VSt → SR} : (Res.bad : Res α).s k = .bad := rfl
theorem sb_nx {k : SM} : (SR.nx env st).bind k = k env st := rfl
theorem sb_rt {k : SM} {p : PV} : (SR.rt p st).bind k = .rt p st := rfl
theorem sb_ct {k : SM} : (SR.ct env st).bind k = .ct env st := rfl
theorem sb_bk {k : SM} : (SR.bk env st).bind k = .bk env st := rfl
theorem onB_bl {k : Bool → VSt → Res β} {b : Bool} : onB k (.bl b) st = k b st := rfl
theorem onBS_bl {k : Bool → VSt → SR} {b : Bool} : onBS k (.bl b) st = k b st := rfl
theorem x_var {i : Nat} : eVar i env st = match env[i]? with
  | some (some p) => .ok p st
  | _ => .bad := rfl
theorem x_c {p : PV} : eC p env st = .ok p st := rfl
theorem x_bin {f : PV → PV → VSt → Res PV} {a b : EM} : eBin f a b env st = (a env st).bind fun x s1 => (b env s1).bind fun y s2 => f x y s2 := rfl
theorem x_un {f : PV → VSt → Res PV} {a : EM} : eUn f a env st = (a env st).bind f := rfl
theorem x_nil : aNil env st = .ok [] st := rfl
theorem x_cons {a : EM} {r : AM} : aCons a r env st = (a env st).bind fun x s1 => (r env s1).bind fun xs s2 => .ok (x :: xs) s2 := rfl
theorem x_tup {es : AM} : eTup es env st = (es env st).bind mkTup := rfl
theorem x_lst {es : AM} : eLst es env st = (es env st).bind mkLst := rfl
theorem x_app {f : List PV → VSt → Res PV} {es : AM} : eApp f es env st = (es env st).bind f := rfl
theorem x_and {a b : EM} : eAnd a b env st = (a env st).bind (onB fun c s1 => if c = true then b env s1 else .ok (.bl false) s1) := rfl
theorem x_or {a b : EM} : eOr a b env st = (a env st).bind (onB fun c s1 => if c = true then .ok (.bl true) s1 else b env s1) := rfl
theorem x_not {a : EM} : eNot a env st = (a env st).bind (onB fun c s1 => .ok (.bl (!c)) s1) := rfl
theorem x_if {c a b : EM} : eIf c a b env st = (c env st).bind (onB fun c s1 => if c = true then a env s1 else b env s1) := rfl
theorem x_box {m : EM} : eBox m env st = (m env st).bind boxV := rfl
theorem x_get {d k x : EM} : eGet d k x env st = (d env st).bind fun d s1 => if isDct s1 d = true then (k env s1).bind fun k s2 => (x env s2).bind fun x s3 => vGet d k x s3 else .bad := rfl
theorem x_sl {a : EM} {lo hi : OM} : eSl a lo hi env st = (a env st).bind fun x s1 => (lo env s1).bind fun l s2 => (hi env s2).bind fun h s3 => vSl x l h s3 := rfl
theorem x_onone : oNone env st = .ok none st := rfl
theorem x_osome {a : EM} : oSome a env st = (a env st).bind fun p s => match p with
  | .int i => .ok (some i) s
  | _ => .bad := rfl
theorem x_snil : sNil env st = .nx env st := rfl
theorem x_scons {a b : SM} : sCons a b env st = (a env st).bind b := rfl
theorem x_set {i : Nat} {a : EM} : sSet i a env st = (a env st).s fun p s1 => .nx (env.set i (some p)) s1 := rfl
theorem x_expr {a : EM} : sExpr a env st = (a env st).s fun _ s1 => .nx env s1 := rfl
theorem x_ret {a : EM} : sRet a env st = (a env st).s fun p s1 => .rt p s1 := rfl
theorem x_retB {a : EM} : sRetB a env st = (a env st).s fun p s1 => match p with
  | .loc n => .rt (.loc n) s1
  | _ => .bad := rfl
theorem x_sif {c : EM} {a b : SM} : sIf c a b env st = (c env st).s (onBS fun c s1 => if c = true then a env s1 else b env s1) := rfl
theorem x_bk : sBreak env st = .bk env st := rfl
theorem x_ct : sCont env st = .ct env st := rfl
theorem x_aug {i : Nat} {f : PV → PV → VSt → Res PV} {a : EM} : sAug i f a env st = (eVar i env st).s fun x s0 => (a env s0).s fun y s1 => (f x y s1).s fun z s2 => .nx (env.set i (some z)) s2 := rfl
theorem x_asg {g : GM} {a : EM} : sAsg g a env st = (a env st).s fun p s1 => match g p env with
  | some env' => .nx env' s1
  | none => .bad := rfl
theorem x_gname {i : Nat} {p : PV} : gName i p env = some (env.set i (some p)) := rfl
theorem x_gtup {n : Nat} {g : GMs} {xs : List PV} : gTup n g (.tup xs) env = if xs.length = n then g xs env else none := rfl
theorem x_gnil : gsNil [] env = some env := rfl
theorem x_gcons {g : GM} {r : GMs} {p : PV} {ps : List PV} : gsCons g r (p :: ps) env = (g p env).bind (r ps) := rfl
theorem x_mktup {xs : List PV} (h : xs.length ≤ 1000000) : mkTup xs st = .ok (.tup xs) st := if_pos h
theorem x_mklst {xs : List PV} (h : xs.length ≤ 1000000) : mkLst xs st = .ok (.lst xs) st := if_pos h
theorem x_boxV {p : PV} (h : noLoc p = true) : boxV p st = .ok (.loc st.length) (st ++ [p]) := if_pos h
/-! values -/
theorem v_add {i j : Int} : vAdd (.int i) (.int j) st = .ok (.int (i + j)) st := rfl
theorem v_addI {i j : Int} : vAddI (.int i) (.int j) st = .ok (.int (i + j)) st := rfl
theorem v_sub {i j : Int} : vSub (.int i) (.int j) st = .ok (.int (i - j)) st := rfl
theorem v_neg {i : Int} : vNeg (.int i) st = .ok (.int (-i)) st := rfl
theorem v_mul {i j : Int} (h : (-(2 ^ 64) < i ∧ i < 2 ^ 64) ∨ (-(2 ^ 64) < j ∧ j < 2 ^ 64)) : vMul (.int i) (.int j) st = .ok (.int (i * j)) st := if_pos h
theorem v_fdv {i j : Int} (h : 0 < j ∧ j < 2 ^ 100) : vFdv (.int i) (.int j) st = .ok (.int (i / j)) st := if_pos h
theorem v_mod {i j : Int} (h : 0 < j) : vMod (.int i) (.int j) st = .ok (.int (i % j)) st := if_pos h
theorem v_cmp {f : Int → Int → Bool} {i j : Int} : vCmp f (.int i) (.int j) st = .ok (.bl (f i j)) st := rfl
theorem v_eqs {a b : Str} : vEqF false (.str a) (.str b) st = .ok (.bl (decide (a = b))) st := rfl
theorem v_nes {a b : Str} : vEqF true (.str a) (.str b) st = .ok (.bl (!decide (a = b))) st := rfl
theorem v_eqi {a b : Int} : vEqF false (.int a) (.int b) st = .ok (.bl (decide (a = b))) st := rfl
theorem v_nei {a b : Int} : vEqF true (.int a) (.int b) st = .ok (.bl (!decide (a = b))) st := rfl
theorem v_eqb {a b : Bool} : vEqF false (.bl a) (.bl b) st = .ok (.bl (decide (a = b))) st := rfl
theorem v_ixt {xs : List PV} {i : Int} : vIx (.tup xs) (.int i) st = opt (atI xs i) st := rfl
theorem v_ixl {xs : List PV} {i : Int} : vIx (.lst xs) (.int i) st = opt (atI xs i) st := rfl
theorem v_ixc {ns : List Int} {i : Int} : vIx (.scr ns) (.int i) st = opt ((atI ns i).map .int) st := rfl
theorem v_ixs {z : Str} {i : Int} (h : z.length ≤ 1000000) : vIx (.str z) (.int i) st = opt ((atI z.cps.toList i).map fun c => .str ⟨#[c]⟩) st := if_pos h
theorem opt_some {p : PV} : opt (some p) st = .ok p st := rfl
theorem v_lenl {xs : List PV} : vLen [.lst xs] st = .ok (.int xs.length) st := rfl
theorem v_lent {xs : List PV} : vLen [.tup xs] st = .ok (.int xs.length) st := rfl
theorem v_lenc {ns : List Int} : vLen [.scr ns] st = .ok (.int ns.length) st := rfl
theorem v_lens {z : Str} (h : z.length ≤ 1000000) : vLen [.str z] st = .ok (.int z.length) st := if_pos h
theorem v_adds {a b : Str} (h : a.length + b.length ≤ 1000000) : vAdd (.str a) (.str b) st = .ok (.str (a ++ b)) st := if_pos h
theorem v_addt {xs ys : List PV} (h : xs.length + ys.length ≤ 1000000) : vAdd (.tup xs) (.tup ys) st = .ok (.tup (xs ++ ys)) st := if_pos h
theorem v_addl {xs ys : List PV} (h : xs.length + ys.length ≤ 1000000) : vAdd (.lst xs) (.lst ys) st = .ok (.lst (xs ++ ys)) st := if_pos h
theorem v_muls {a : Str} {j : Int} (h : 1 ≤ j ∧ j ≤ 1000 ∧ a.length ≤ 1000) : vMul (.str a) (.int j) st = .ok (.str (repS a j.toNat)) st := if_pos h
theorem v_sls {z : Str} {lo hi : Option Int} (h : z.length ≤ 1000000) : vSl (.str z) lo hi st = .ok (.str (cutS z lo hi)) st := if_pos h
theorem v_slt {xs : List PV} {lo hi : Option Int} : vSl (.tup xs) lo hi st = .ok (.tup (cutP xs lo hi)) st := rfl
theorem v_sll {xs : List PV} {lo hi : Option Int} : vSl (.lst xs) lo hi st = .ok (.lst (cutP xs lo hi)) st := rfl
theorem v_tupt {xs : List PV} : vTuple [.tup xs] st = .ok (.tup xs) st := rfl
theorem v_tupl {xs : List PV} : vTuple [.lst xs] st = .ok (.tup xs) st := rfl
theorem v_intb {b : Bool} : vInt [.bl b] st = .ok (.int (if b then 1 else 0)) st := rfl
theorem v_inti {b : Int} : vInt [.int b] st = .ok (.int b) st := rfl
theorem v_max {i j : Int} : vMax [.int i, .int j] st = .ok (.int (if j > i then j else i)) st := rfl
theorem v_isn {p : PV} : vIsN false p .non st = .ok (.bl (isNon p)) st := rfl
theorem v_isnn {p : PV} : vIsN true p .non st = .ok (.bl (!isNon p)) st := rfl
theorem at_0 {γ : Type} {x : γ} {xs : List γ} : atI (x :: xs) 0 = some x := by
  have := atI_nat (xs := x :: xs) (j := 0) (v := x) rfl
  exact this
theorem at_1 {γ : Type} {x y : γ} {xs : List γ} : atI (x :: y :: xs) 1 = some y := by
  have := atI_nat (xs := x :: y :: xs) (j := 1) (v := y) rfl
  exact this
theorem at_2 {γ : Type} {x y z : γ} {xs : List γ} : atI (x :: y :: z :: xs) 2 = some z := by
  have := atI_nat (xs := x :: y :: z :: xs) (j := 2) (v := z) rfl
  exact this
theorem at_3 {γ : Type} {x y z w : γ} {xs : List γ} : atI (x :: y :: z :: w :: xs) 3 = some w := by
  have := atI_nat (xs := x :: y :: z :: w :: xs) (j := 3) (v := w) rfl
  exact this
/-- at a place within -/
theorem at_in {γ : Type} {xs : List γ} {i : Int} (h0 : 0 ≤ i) (h1 : i < xs.length) : atI xs i = some (xs[i.toNat]'(by omega)) := by
  have e : i = ((i.toNat : Nat) : Int) := by omega
  have h := atI_nat (xs := xs) (j := i.toNat) (v := xs[i.toNat]'(by omega)) (List.getElem?_eq_getElem (by omega))
  rw [← e] at h
  exact h

theorem mkt0 : mkTup [] st = .ok (.tup []) st := if_pos (by decide)
theorem mkl0 : mkLst [] st = .ok (.lst []) st := if_pos (by decide)
theorem mkt1 {x0 : PV} : mkTup [x0] st = .ok (.tup [x0]) st := if_pos (show 1 ≤ 1000000 by decide)
theorem mkl1 {x0 : PV} : mkLst [x0] st = .ok (.lst [x0]) st := if_pos (show 1 ≤ 1000000 by decide)
theorem mkt2 {x0 x1 : PV} : mkTup [x0, x1] st = .ok (.tup [x0, x1]) st := if_pos (show 2 ≤ 1000000 by decide)
theorem mkl2 {x0 x1 : PV} : mkLst [x0, x1] st = .ok (.lst [x0, x1]) st := if_pos (show 2 ≤ 1000000 by decide)
theorem mkt3 {x0 x1 x2 : PV} : mkTup [x0, x1, x2] st = .ok (.tup [x0, x1, x2]) st := if_pos (show 3 ≤ 1000000 by decide)
theorem mkl3 {x0 x1 x2 : PV} : mkLst [x0, x1, x2] st = .ok (.lst [x0, x1, x2]) st := if_pos (show 3 ≤ 1000000 by decide)
theorem mkt4 {x0 x1 x2 x3 : PV} : mkTup [x0, x1, x2, x3] st = .ok (.tup [x0, x1, x2, x3]) st := if_pos (show 4 ≤ 1000000 by decide)
theorem mkl4 {x0 x1 x2 x3 : PV} : mkLst [x0, x1, x2, x3] st = .ok (.lst [x0, x1, x2, x3]) st := if_pos (show 4 ≤ 1000000 by decide)
theorem mkt5 {x0 x1 x2 x3 x4 : PV} : mkTup [x0, x1, x2, x3, x4] st = .ok (.tup [x0, x1, x2, x3, x4]) st := if_pos (show 5 ≤ 1000000 by decide)
theorem mkl5 {x0 x1 x2 x3 x4 : PV} : mkLst [x0, x1, x2, x3, x4] st = .ok (.lst [x0, x1, x2, x3, x4]) st := if_pos (show 5 ≤ 1000000 by decide)
theorem mkt6 {x0 x1 x2 x3 x4 x5 : PV} : mkTup [x0, x1, x2, x3, x4, x5] st = .ok (.tup [x0, x1, x2, x3, x4, x5]) st := if_pos (show 6 ≤ 1000000 by decide)
theorem mkl6 {x0 x1 x2 x3 x4 x5 : PV} : mkLst [x0, x1, x2, x3, x4, x5] st = .ok (.lst [x0, x1, x2, x3, x4, x5]) st := if_pos (show 6 ≤ 1000000 by decide)
theorem mkt7 {x0 x1 x2 x3 x4 x5 x6 : PV} : mkTup [x0, x1, x2, x3, x4, x5, x6] st = .ok (.tup [x0, x1, x2, x3, x4, x5, x6]) st := if_pos (show 7 ≤ 1000000 by decide)
theorem mkl7 {x0 x1 x2 x3 x4 x5 x6 : PV} : mkLst [x0, x1, x2, x3, x4, x5, x6] st = .ok (.lst [x0, x1, x2, x3, x4, x5, x6]) st := if_pos (show 7 ≤ 1000000 by decide)
theorem v_il0 {x0 : PV} {xs : List PV} : vIx (.lst (x0 :: xs)) (.int 0) st = .ok x0 st := by
  show opt (atI (x0 :: xs) 0) st = _
  rw [show (0 : Int) = ((0 : Nat) : Int) from rfl, atI_nat (v := x0) rfl]; exact Eq.trans rfl rfl
theorem v_it0 {x0 : PV} {xs : List PV} : vIx (.tup (x0 :: xs)) (.int 0) st = .ok x0 st := by
  show opt (atI (x0 :: xs) 0) st = _
  rw [show (0 : Int) = ((0 : Nat) : Int) from rfl, atI_nat (v := x0) rfl]; exact Eq.trans rfl rfl
theorem v_il1 {x0 x1 : PV} {xs : List PV} : vIx (.lst (x0 :: x1 :: xs)) (.int 1) st = .ok x1 st := by
  show opt (atI (x0 :: x1 :: xs) 1) st = _
  rw [show (1 : Int) = ((1 : Nat) : Int) from rfl, atI_nat (v := x1) rfl]; exact Eq.trans rfl rfl
theorem v_it1 {x0 x1 : PV} {xs : List PV} : vIx (.tup (x0 :: x1 :: xs)) (.int 1) st = .ok x1 st := by
  show opt (atI (x0 :: x1 :: xs) 1) st = _
  rw [show (1 : Int) = ((1 : Nat) : Int) from rfl, atI_nat (v := x1) rfl]; exact Eq.trans rfl rfl
theorem v_il2 {x0 x1 x2 : PV} {xs : List PV} : vIx (.lst (x0 :: x1 :: x2 :: xs)) (.int 2) st = .ok x2 st := by
  show opt (atI (x0 :: x1 :: x2 :: xs) 2) st = _
  rw [show (2 : Int) = ((2 : Nat) : Int) from rfl, atI_nat (v := x2) rfl]; exact Eq.trans rfl rfl
theorem v_it2 {x0 x1 x2 : PV} {xs : List PV} : vIx (.tup (x0 :: x1 :: x2 :: xs)) (.int 2) st = .ok x2 st := by
  show opt (atI (x0 :: x1 :: x2 :: xs) 2) st = _
  rw [show (2 : Int) = ((2 : Nat) : Int) from rfl, atI_nat (v := x2) rfl]; exact Eq.trans rfl rfl
theorem v_il3 {x0 x1 x2 x3 : PV} {xs : List PV} : vIx (.lst (x0 :: x1 :: x2 :: x3 :: xs)) (.int 3) st = .ok x3 st := by
  show opt (atI (x0 :: x1 :: x2 :: x3 :: xs) 3) st = _
  rw [show (3 : Int) = ((3 : Nat) : Int) from rfl, atI_nat (v := x3) rfl]; exact Eq.trans rfl rfl
theorem v_it3 {x0 x1 x2 x3 : PV} {xs : List PV} : vIx (.tup (x0 :: x1 :: x2 :: x3 :: xs)) (.int 3) st = .ok x3 st := by
  show opt (atI (x0 :: x1 :: x2 :: x3 :: xs) 3) st = _
  rw [show (3 : Int) = ((3 : Nat) : Int) from rfl, atI_nat (v := x3) rfl]; exact Eq.trans rfl rfl
theorem v_il4 {x0 x1 x2 x3 x4 : PV} {xs : List PV} : vIx (.lst (x0 :: x1 :: x2 :: x3 :: x4 :: xs)) (.int 4) st = .ok x4 st := by
  show opt (atI (x0 :: x1 :: x2 :: x3 :: x4 :: xs) 4) st = _
  rw [show (4 : Int) = ((4 : Nat) : Int) from rfl, atI_nat (v := x4) rfl]; exact Eq.trans rfl rfl
theorem v_it4 {x0 x1 x2 x3 x4 : PV} {xs : List PV} : vIx (.tup (x0 :: x1 :: x2 :: x3 :: x4 :: xs)) (.int 4) st = .ok x4 st := by
  show opt (atI (x0 :: x1 :: x2 :: x3 :: x4 :: xs) 4) st = _
  rw [show (4 : Int) = ((4 : Nat) : Int) from rfl, atI_nat (v := x4) rfl]; exact Eq.trans rfl rfl
theorem v_il5 {x0 x1 x2 x3 x4 x5 : PV} {xs : List PV} : vIx (.lst (x0 :: x1 :: x2 :: x3 :: x4 :: x5 :: xs)) (.int 5) st = .ok x5 st := by
  show opt (atI (x0 :: x1 :: x2 :: x3 :: x4 :: x5 :: xs) 5) st = _
  rw [show (5 : Int) = ((5 : Nat) : Int) from rfl, atI_nat (v := x5) rfl]; exact Eq.trans rfl rfl
theorem v_it5 {x0 x1 x2 x3 x4 x5 : PV} {xs : List PV} : vIx (.tup (x0 :: x1 :: x2 :: x3 :: x4 :: x5 :: xs)) (.int 5) st = .ok x5 st := by
  show opt (atI (x0 :: x1 :: x2 :: x3 :: x4 :: x5 :: xs) 5) st = _
  rw [show (5 : Int) = ((5 : Nat) : Int) from rfl, atI_nat (v := x5) rfl]; exact Eq.trans rfl rfl
/-! the end of a def -/
theorem end_rt {fr : Bool} {k : Nat} {p : PV} : endI fr k (.rt p st) = if (fr && oldLoc k p) = true then .bad else .ok (freeze st k p) (st.take k) := rfl
theorem end_nx {fr : Bool} {k : Nat} : endI fr k (.nx env st) = .ok .non (st.take k) := rfl
theorem call_np {d : FnD} {T : Tbl} {args : List PV} (h : args.length = d.np) : callI d T args st = endI d.fr st.length (d.body T (args.map some ++ List.replicate (d.ns - d.np) none) st) := if_pos h
mutual
theorem freeze_pure {s : VSt} {k : Nat} : ∀ p : PV, pureP p = true → freeze s k p = p
  | .non, _ => rfl
  | .bl _, _ => rfl
  | .int _, _ => rfl
  | .str _, _ => rfl
  | .tup xs, h => by
    show PV.tup (freezes s k xs) = _
    rw [freezes_pure xs h]
  | .lst _, h => by cases h
  | .dct _ _, h => by cases h
  | .sset _, h => by cases h
  | .scr _, h => by cases h
  | .raw _, h => by cases h
  | .loc _, h => by cases h
theorem freezes_pure {s : VSt} {k : Nat} : ∀ ps : List PV, pures ps = true → freezes s k ps = ps
  | [], _ => rfl
  | p :: ps, h => by
    unfold pures at h
    rw [Bool.and_eq_true] at h
    show freeze s k p :: freezes s k ps = _
    rw [freeze_pure p h.1, freezes_pure ps h.2]
end
theorem fz_lst {s : VSt} {k : Nat} {ps : List PV} (h : pures ps = true) : freeze s k (.lst ps) = .lst ps := by
  show PV.lst (freezes s k ps) = _
  rw [freezes_pure ps h]
theorem fz_int {s : VSt} {k : Nat} {i : Int} : freeze s k (.int i) = .int i := rfl
theorem fz_str {s : VSt} {k : Nat} {i : Str} : freeze s k (.str i) = .str i := rfl
theorem fz_bl {s : VSt} {k : Nat} {i : Bool} : freeze s k (.bl i) = .bl i := rfl
theorem fz_non {s : VSt} {k : Nat} : freeze s k .non = .non := rfl
theorem fz_loc {s : VSt} {p : PV} : freeze (s ++ [p]) s.length (.loc s.length) = p := by
  unfold freeze
  rw [if_neg (Nat.lt_irrefl _), List.getD_eq_getElem?_getD, List.getElem?_append_right (Nat.le_refl _)]
  simp
theorem ol_loc {k n : Nat} : oldLoc k (.loc n) = decide (n < k) := rfl
theorem pures_strs (xs : List Str) : pures (xs.map PV.str) = true := by
  induction xs with
  | nil => rfl
  | cons x xs ih => simp [pures, pureP, ih]
theorem take_app {s : VSt} {r : VSt} : (s ++ r).take s.length = s := by simp
/-! loops over what doesn't change -/
def forL (B : PV → VEnv → VSt → SR) : List PV → VEnv → VSt → SR
  | [], env, st => .nx env st
  | x :: r, env, st => match B x env st with
    | .nx e s => forL B r e s
    | .ct e s => forL B r e s
    | .bk e s => .nx e s
    | .rt p s => .rt p s
    | .ex c fs s => .ex c fs s
    | .bad => .bad
theorem forP_const {j : IT} {xs : List PV} (h : ∀ s, Itm j s = some xs) {B : PV → VEnv → VSt → SR} : ∀ (m : Nat), m ≤ xs.length → ∀ (e : VEnv) (s : VSt), forP j xs.length B m e s = forL B (xs.drop (xs.length - m)) e s
  | 0, _, e, s => by
    unfold forP
    rw [h]
    simp [forL]
  | m + 1, hm, e, s => by
    unfold forP
    rw [h]
    have hi : xs.length - (m + 1) < xs.length := by omega
    simp only [if_true]
    rw [List.getElem?_eq_getElem hi, List.drop_eq_getElem_cons hi]
    have e1 : xs.length - (m + 1) + 1 = xs.length - m := by omega
    rw [e1]
    show (match B xs[xs.length - (m + 1)] e s with
      | .nx e s => forP j xs.length B m e s
      | .ct e s => forP j xs.length B m e s
      | .bk e s => .nx e s
      | .rt p s => .rt p s
      | .ex c fs s => .ex c fs s
      | .bad => .bad) = forL B (xs[xs.length - (m + 1)] :: xs.drop (xs.length - m)) e s
    unfold forL
    cases B xs[xs.length - (m + 1)] e s with
    | nx e2 s2 => exact forP_const h m (by omega) e2 s2
    | ct e2 s2 => exact forP_const h m (by omega) e2 s2
    | _ => rfl
theorem for_lst {a : EM} {g : GM} {body : SM} {xs : List PV} (h : a env st = .ok (.lst xs) st') : sFor (iSeq a) g body env st = forL (bodyP g body) xs env st' := by
  unfold sFor iSeq
  rw [h]
  show forP (.seq (.lst xs)) xs.length (bodyP g body) xs.length env st' = _
  rw [forP_const (j := .seq (.lst xs)) (fun s => rfl) xs.length (Nat.le_refl _)]
  simp
theorem for_tup {a : EM} {g : GM} {body : SM} {xs : List PV} (h : a env st = .ok (.tup xs) st') : sFor (iSeq a) g body env st = forL (bodyP g body) xs env st' := by
  unfold sFor iSeq
  rw [h]
  show forP (.seq (.tup xs)) xs.length (bodyP g body) xs.length env st' = _
  rw [forP_const (j := .seq (.tup xs)) (fun s => rfl) xs.length (Nat.le_refl _)]
  simp
theorem for_rng {a : EM} {g : GM} {body : SM} {i : Int} (h : a env st = .ok (.int i) st') (h2 : i < 2 ^ 62) (h1 : -(2 ^ 62) ≤ i) : sFor (iRng1' a) g body env st = forL (bodyP g body) ((List.range i.toNat).map fun (k : Nat) => .int (0 + (k : Int))) env st' := by
  unfold sFor iRng1'
  rw [h]
  have e : mkRng 0 i st' = .ok (.rng 0 i.toNat) st' := by
    unfold mkRng
    rw [if_pos (by omega), Int.sub_zero]
  show Res.s (mkRng 0 i st') _ = _
  rw [e]
  show forP (.rng 0 i.toNat) ((List.range i.toNat).map fun (k : Nat) => PV.int (0 + (k : Int))).length (bodyP g body) _ env st' = _
  rw [forP_const (j := .rng 0 i.toNat) (fun s => rfl) _ (Nat.le_refl _)]
  simp
/-- one turn -/
theorem forL_nil {B : PV → VEnv → VSt → SR} : forL B [] env st = .nx env st := rfl
theorem forL_cons {B : PV → VEnv → VSt → SR} {x : PV} {r : List PV} : forL B (x :: r) env st = match B x env st with
    | .nx e s => forL B r e s
    | .ct e s => forL B r e s
    | .bk e s => .nx e s
    | .rt p s => .rt p s
    | .ex c fs s => .ex c fs s
    | .bad => .bad := rfl
theorem x_body {g : GM} {body : SM} {x : PV} : bodyP g body x env st = match g x env with
  | some e' => body e' st
  | none => .bad := rfl
/-! comprehensions over what doesn't change -/
def compL (f : PV → VSt → Res (Option PV)) : List PV → List PV → VSt → Res (List PV)
  | [], acc, st => .ok acc st
  | x :: r, acc, st => if acc.length < 1000000 then (f x st).bind fun o s => compL f r (match o with
      | some y => acc ++ [y]
      | none => acc) s else .bad
theorem compP_const {j : IT} {xs : List PV} (h : ∀ s, Itm j s = some xs) {f : PV → VSt → Res (Option PV)} : ∀ (m : Nat), m ≤ xs.length → ∀ (acc : List PV) (s : VSt), compP j xs.length f m acc s = compL f (xs.drop (xs.length - m)) acc s
  | 0, _, acc, s => by
    unfold compP
    rw [h]
    simp [compL]
  | m + 1, hm, acc, s => by
    unfold compP
    rw [h]
    have hi : xs.length - (m + 1) < xs.length := by omega
    simp only [true_and]
    rw [List.getElem?_eq_getElem hi, List.drop_eq_getElem_cons hi]
    have e1 : xs.length - (m + 1) + 1 = xs.length - m := by omega
    rw [e1]
    unfold compL
    split
    · show (f xs[xs.length - (m + 1)] s).bind (fun o s => compP j xs.length f m (match o with
        | some y => acc ++ [y]
        | none => acc) s) = _
      cases f xs[xs.length - (m + 1)] s with
      | bad => rfl
      | ex _ _ _ => rfl
      | ok o s2 => exact compP_const h m (by omega) _ s2
    · rfl
/-- a comprehension whose element and test have values -/
theorem compL_map {f : PV → VSt → Res (Option PV)} {g : PV → Option PV} : ∀ (xs acc : List PV) (s : VSt), (∀ x ∈ xs, f x s = .ok (g x) s) → acc.length + xs.length ≤ 1000000 → compL f xs acc s = .ok (acc ++ xs.filterMap g) s
  | [], acc, s, _, _ => by simp [compL]
  | x :: xs, acc, s, h, hl => by
    rw [List.length_cons] at hl
    unfold compL
    rw [if_pos (by omega), h x List.mem_cons_self, bind_ok]
    cases e : g x with
    | none => rw [compL_map xs acc s (fun y hy => h y (List.mem_cons_of_mem _ hy)) (by omega), List.filterMap_cons_none e]
    | some y => rw [compL_map xs (acc ++ [y]) s (fun y hy => h y (List.mem_cons_of_mem _ hy)) (by rw [List.length_append]; simp; omega), List.filterMap_cons_some e]; simp
theorem comp_const {it : IM} {g : GM} {t el : EM} {vs : List Nat} {j : IT} {xs : List PV} (hi : it env st = .ok j st') (h : ∀ s, Itm j s = some xs) : eComp it g t el vs env st = (compL (compF g t el vs env) xs [] st').bind fun ys s => .ok (.lst ys) s := by
  unfold eComp
  rw [hi, bind_ok]
  simp only [h]
  rw [compP_const h xs.length (Nat.le_refl _)]
  simp
theorem i_lst {a : EM} {xs : List PV} (h : a env st = .ok (.lst xs) st') : iSeq a env st = .ok (.seq (.lst xs)) st' := by unfold iSeq; rw [h]; rfl
theorem i_tup {a : EM} {xs : List PV} (h : a env st = .ok (.tup xs) st') : iSeq a env st = .ok (.seq (.tup xs)) st' := by unfold iSeq; rw [h]; rfl
theorem i_rng {a : EM} {i : Int} (h : a env st = .ok (.int i) st') (h2 : i < 2 ^ 62) (h1 : -(2 ^ 62) ≤ i) : iRng1' a env st = .ok (.rng 0 i.toNat) st' := by
  unfold iRng1'
  rw [h]
  show mkRng 0 i st' = _
  unfold mkRng
  rw [if_pos (by omega), Int.sub_zero]
theorem compF_yes {g : GM} {t el : EM} {vs : List Nat} {x : PV} {e : VEnv} (h : g x (wipeE env vs) = some e) : compF g tTrue el vs env x st = (el e st).nox.bind fun y s3 => .ok (some y) s3 := by
  unfold compF
  rw [h]; rfl

theorem wipe1 {env : VEnv} {i : Nat} {x : PV} : gName i x (wipeE env [i]) = some (env.set i (some x)) := by
  show some ((env.set i none).set i (some x)) = _
  rw [List.set_set]
theorem comp_gen {it : IM} {t el : EM} {i : Nat} {j : IT} {xs : List PV} {p : PV → Bool} {f : PV → PV} (hi : it env st = .ok j st) (hj : ∀ s, Itm j s = some xs) (hl : xs.length ≤ 1000000) (ht : ∀ x ∈ xs, t (env.set i (some x)) st = .ok (.bl (p x)) st) (h : ∀ x ∈ xs, p x = true → el (env.set i (some x)) st = .ok (f x) st) :
    eComp it (gName i) t el [i] env st = .ok (.lst ((xs.filter p).map f)) st := by
  rw [comp_const hi hj, compL_map (g := fun x => if p x = true then some (f x) else none) xs [] st (fun x hx => ?_) (by simpa using hl), bind_ok]
  · congr 2
    show [] ++ xs.filterMap _ = _
    rw [List.nil_append]
    clear hj hl ht h
    induction xs with
    | nil => rfl
    | cons x xs ih =>
      by_cases e : p x = true
      · rw [List.filterMap_cons_some (b := f x) (by simp [e]), ih, List.filter_cons_of_pos e, List.map_cons]
      · rw [List.filterMap_cons_none (by simp [e]), ih, List.filter_cons_of_neg e]
  · unfold compF
    rw [wipe1]
    show Res.bind (t (env.set i (some x)) st).nox _ = _
    rw [ht x hx, nox_ok, bind_ok, onB_bl]
    by_cases e : p x = true
    · rw [if_pos e, h x hx e, nox_ok, bind_ok, if_pos e]
    · rw [if_neg e, if_neg e]
theorem comp_all {it : IM} {el : EM} {i : Nat} {j : IT} {xs : List PV} {f : PV → PV} (hi : it env st = .ok j st) (hj : ∀ s, Itm j s = some xs) (hl : xs.length ≤ 1000000) (h : ∀ x ∈ xs, el (env.set i (some x)) st = .ok (f x) st) :
    eComp it (gName i) tTrue el [i] env st = .ok (.lst (xs.map f)) st := by
  rw [comp_gen (p := fun _ => true) (f := f) hi hj hl (fun _ _ => rfl) (fun x hx _ => h x hx), List.filter_eq_self.mpr (by simp)]
theorem comp_rng {a el : EM} {i : Nat} {m : Int} {f : Nat → PV} (ha : a env st = .ok (.int m) st) (h0 : 0 ≤ m) (h1 : m ≤ 1000000) (h : ∀ k : Nat, (k : Int) < m → el (env.set i (some (.int (k : Int)))) st = .ok (f k) st) :
    eComp (iRng1' a) (gName i) tTrue el [i] env st = .ok (.lst ((List.range m.toNat).map f)) st := by
  have hh : ∀ k : Nat, k < m.toNat → el (env.set i (some (.int (k : Int)))) st = .ok (f k) st := fun k hk => h k (by omega)
  rw [comp_all (j := .rng 0 m.toNat) (f := fun x => match x with
    | .int k => f k.toNat
    | _ => .non) (i_rng ha (by omega) (by omega)) (fun s => rfl) (by simp; omega) (fun x hx => ?_)]
  · rw [List.map_map]
    congr 3
    funext k
    show f ((0 + (k : Int)).toNat) = f k
    congr 1
    omega
  · obtain ⟨k, hk, rfl⟩ := List.mem_map.mp hx
    rw [List.mem_range] at hk
    have e : (0 + (k : Int)) = (k : Int) := Int.zero_add _
    rw [e]
    rw [hh k hk]
    rfl
end
end Vm

namespace Vm
open PySem L2
/-! ## values that are compared -/
mutual
def sokP : PV → Bool
  | .non => true | .bl _ => true | .int _ => true
  | .str x => PyData.strOk x
  | .tup xs => soks xs
  | .lst xs => soks xs
  | _ => false
def soks : List PV → Bool
  | [] => true
  | x :: r => sokP x && soks r
end
mutual
def depP : PV → Nat
  | .tup xs => deps xs + 1
  | .lst xs => deps xs + 1
  | _ => 0
def deps : List PV → Nat
  | [] => 0
  | x :: r => max (depP x) (deps r)
end
mutual
theorem toD_sok : ∀ p : PV, sokP p = true → ∃ d, toD p = some d ∧ d.canLay0 = true ∧ d.depth = depP p
  | .non, _ => ⟨.none, rfl, rfl, rfl⟩
  | .bl b, _ => ⟨.bool b, rfl, rfl, rfl⟩
  | .int i, _ => ⟨.int i, rfl, rfl, rfl⟩
  | .str x, h => ⟨.str x, rfl, h, rfl⟩
  | .tup xs, h => by
    obtain ⟨ds, e, c, k⟩ := toDs_sok xs h
    exact ⟨.tuple ds, by show (toDs xs).map PyData.tuple = _; rw [e]; rfl, c, by show PyData.depthAll ds + 1 = deps xs + 1; rw [k]⟩
  | .lst xs, h => by
    obtain ⟨ds, e, c, k⟩ := toDs_sok xs h
    exact ⟨.list ds, by show (toDs xs).map PyData.list = _; rw [e]; rfl, c, by show PyData.depthAll ds + 1 = deps xs + 1; rw [k]⟩
  | .dct _ _, h => by cases h
  | .sset _, h => by cases h
  | .scr _, h => by cases h
  | .raw _, h => by cases h
  | .loc _, h => by cases h
theorem toDs_sok : ∀ ps : List PV, soks ps = true → ∃ ds, toDs ps = some ds ∧ PyData.canLayAll0 ds = true ∧ PyData.depthAll ds = deps ps
  | [], _ => ⟨[], rfl, rfl, rfl⟩
  | p :: ps, h => by
    unfold soks at h
    rw [Bool.and_eq_true] at h
    obtain ⟨d, e, c, k⟩ := toD_sok p h.1
    obtain ⟨ds, e2, c2, k2⟩ := toDs_sok ps h.2
    refine ⟨d :: ds, ?_, ?_, ?_⟩
    · show (match toD p, toDs ps with
        | some d, some ds => some (d :: ds)
        | _, _ => none) = _
      rw [e, e2]
    · show (d.canLay0 && PyData.canLayAll0 ds) = true
      rw [c, c2]; rfl
    · show max d.depth (PyData.depthAll ds) = max (depP p) (deps ps)
      rw [k, k2]
end
theorem shp_sok {d : PyData} {p : PV} (c : d.canLay0 = true) (k : d.depth = depP p) (h : depP p ≤ 64) : SeqAt.shaped d = true := by
  unfold SeqAt.shaped
  rw [c, k]
  simpa using h
def isSq : PV → Bool
  | .tup _ => true
  | .lst _ => true
  | .loc _ => true
  | _ => false
/-- one value with itself -/
theorem v_same {neg : Bool} {p q : PV} {st : VSt} (s : sokP (deref st p) = true) (h : depP (deref st p) ≤ 64) (i : isSq p = true) (e : deref st q = deref st p) : vEqF neg p q st = .ok (.bl (!neg)) st := by
  obtain ⟨d, e1, c, k⟩ := toD_sok _ s
  have sh := shp_sok c k h
  have er := SeqAt.eqv_refl d c
  cases p with
  | tup xs =>
    have e2 : deref st q = .tup xs := e
    have e3 : deref st (.tup xs) = .tup xs := rfl
    have e4 : toD (.tup xs) = some d := e1
    simp only [vEqF, e2, e3, e4, sh, er, Bool.and_self, if_true]
    cases neg <;> rfl
  | lst xs =>
    have e2 : deref st q = .lst xs := e
    have e3 : deref st (.lst xs) = .lst xs := rfl
    have e4 : toD (.lst xs) = some d := e1
    simp only [vEqF, e2, e3, e4, sh, er, Bool.and_self, if_true]
    cases neg <;> rfl
  | loc n =>
    generalize hr : deref st (.loc n) = r at s h e e1 k
    cases r with
    | dct ks xs => cases s
    | _ =>
      simp only [vEqF, hr, e, e1, sh, er, Bool.and_self, if_true]
      cases neg <;> rfl
  | _ => cases i
/-- with the empty list, the empty tuple -/
theorem v_nil {neg : Bool} {xs : List PV} {st : VSt} (s : soks xs = true) (h : deps xs < 64) : vEqF neg (.lst xs) (.lst []) st = .ok (.bl (if neg then !xs.isEmpty else xs.isEmpty)) st := by
  obtain ⟨ds, e, c, k⟩ := toDs_sok xs s
  have e1 : toD (.lst xs) = some (.list ds) := by show (toDs xs).map PyData.list = _; rw [e]; rfl
  have e2 : toD (.lst []) = some (.list []) := rfl
  have sh : SeqAt.shaped (.list ds) = true := shp_sok (p := .lst xs) c (by show PyData.depthAll ds + 1 = deps xs + 1; rw [k]) h
  have sh2 : SeqAt.shaped (.list []) = true := rfl
  have e3 : deref st (.lst xs) = .lst xs := rfl
  have e4 : deref st (.lst []) = .lst [] := rfl
  simp only [vEqF, e3, e4, e1, e2, sh, sh2, Bool.and_self, if_true]
  cases xs with
  | nil =>
    obtain rfl : [] = ds := by simpa [toDs] using e
    cases neg <;> rfl
  | cons x r =>
    cases ds with
    | nil => exact absurd e (by unfold toDs; cases toD x <;> cases toDs r <;> simp)
    | cons d ds => cases neg <;> rfl
theorem v_nilt {neg : Bool} {xs : List PV} {st : VSt} (s : soks xs = true) (h : deps xs < 64) : vEqF neg (.tup xs) (.tup []) st = .ok (.bl (if neg then !xs.isEmpty else xs.isEmpty)) st := by
  obtain ⟨ds, e, c, k⟩ := toDs_sok xs s
  have e1 : toD (.tup xs) = some (.tuple ds) := by show (toDs xs).map PyData.tuple = _; rw [e]; rfl
  have e2 : toD (.tup []) = some (.tuple []) := rfl
  have sh : SeqAt.shaped (.tuple ds) = true := shp_sok (p := .tup xs) c (by show PyData.depthAll ds + 1 = deps xs + 1; rw [k]) h
  have sh2 : SeqAt.shaped (.tuple []) = true := rfl
  have e3 : deref st (.tup xs) = .tup xs := rfl
  have e4 : deref st (.tup []) = .tup [] := rfl
  simp only [vEqF, e3, e4, e1, e2, sh, sh2, Bool.and_self, if_true]
  cases xs with
  | nil =>
    obtain rfl : [] = ds := by simpa [toDs] using e
    cases neg <;> rfl
  | cons x r =>
    cases ds with
    | nil => exact absurd e (by unfold toDs; cases toD x <;> cases toDs r <;> simp)
    | cons d ds => cases neg <;> rfl
end Vm

namespace Vm
open PySem PySem.Spec L2
/-! ## running loops, comprehensions of two loops, boxed objects -/
theorem ge_add {k n : Nat} (h : k ≤ n) : ∃ m, n = m + k := ⟨n - k, by omega⟩
theorem sb_ass (r : SR) (a b : SM) : r.bind (sCons a b) = (r.bind a).bind b := by cases r <;> rfl
theorem s_bind {α : Type} (r : Res α) (k : α → VSt → SR) (m : SM) : (r.s k).bind m = r.s fun a s => (k a s).bind m := by cases r <;> rfl
/-- a loop as a fold: R says how the frame and the store stand for what is held -/
theorem forL_fold {α σ : Type} {B : PV → VEnv → VSt → SR} {enc : α → PV} {f : σ → α → σ} {R : σ → VEnv → VSt → Prop} : ∀ (xs : List α) (s0 : σ) (e : VEnv) (st : VSt),
    (∀ (pre : List α) (x : α) (post : List α), xs = pre ++ x :: post → ∀ e st, R (pre.foldl f s0) e st → ∃ e' st', B (enc x) e st = .nx e' st' ∧ R (f (pre.foldl f s0) x) e' st') → R s0 e st → ∃ e' st', forL B (xs.map enc) e st = .nx e' st' ∧ R (xs.foldl f s0) e' st'
  | [], s0, e, st, _, r => ⟨e, st, rfl, r⟩
  | x :: xs, s0, e, st, h, r => by
    obtain ⟨e1, st1, q, r1⟩ := h [] x xs rfl e st r
    obtain ⟨e2, st2, q2, r2⟩ := forL_fold xs (f s0 x) e1 st1 (fun pre y post hx e st r => by
      subst hx
      exact h (x :: pre) y post rfl e st r) r1
    refine ⟨e2, st2, ?_, r2⟩
    rw [List.map_cons, forL_cons, q]
    exact q2
/-- a loop whose body leaves by a return, or goes on -/
theorem forL_ret {B : PV → VEnv → VSt → SR} {x : PV} {xs : List PV} {e : VEnv} {st st' : VSt} {p : PV} (h : B x e st = .rt p st') : forL B (x :: xs) e st = .rt p st' := by rw [forL_cons, h]
theorem compO_const {j : IT} {xs : List PV} (h : ∀ s, Itm j s = some xs) {F : PV → List PV → VSt → Res (List PV)} {f : PV → List PV} {st : VSt} (hF : ∀ x ∈ xs, ∀ acc : List PV, acc.length + (f x).length ≤ 1000000 → F x acc st = .ok (acc ++ f x) st) :
    ∀ (m : Nat), m ≤ xs.length → ∀ acc : List PV, acc.length + ((xs.drop (xs.length - m)).flatMap f).length ≤ 1000000 → compO j xs.length F m acc st = .ok (acc ++ (xs.drop (xs.length - m)).flatMap f) st
  | 0, _, acc, _ => by
    unfold compO
    rw [h]
    simp
  | m + 1, hm, acc, hl => by
    have hi : xs.length - (m + 1) < xs.length := by omega
    have e1 : xs.length - (m + 1) + 1 = xs.length - m := by omega
    rw [List.drop_eq_getElem_cons hi, e1, List.flatMap_cons, List.length_append] at hl
    unfold compO
    rw [h]
    simp only [if_true]
    rw [List.getElem?_eq_getElem hi]
    show (F xs[xs.length - (m + 1)] acc st).bind (fun acc s => compO j xs.length F m acc s) = _
    rw [hF _ (List.getElem_mem _) acc (by omega), bind_ok, compO_const h hF m (by omega) _ (by rw [List.length_append]; omega), List.drop_eq_getElem_cons hi, e1, List.flatMap_cons, List.append_assoc]
theorem comp2_gen {it it1 : IM} {el : EM} {i k : Nat} {env : VEnv} {st : VSt} {j : IT} {xs : List PV} {f : PV → List PV} {fe : PV → PV → PV} (hi : it env st = .ok j st) (hj : ∀ s, Itm j s = some xs)
    (h1 : ∀ x ∈ xs, ∃ j1, it1 ((env.set k none).set i (some x)) st = .ok j1 st ∧ ∀ s, Itm j1 s = some (f x))
    (hel : ∀ x ∈ xs, ∀ y ∈ f x, el (((env.set k none).set i (some x)).set k (some y)) st = .ok (fe x y) st)
    (hl : (xs.flatMap f).length ≤ 1000000) : eComp2 it (gName i) it1 (gName k) el [i, k] [k] env st = .ok (.lst (xs.flatMap fun x => (f x).map (fe x))) st := by
  unfold eComp2
  rw [hi, bind_ok]
  simp only [hj]
  rw [compO_const (f := fun x => (f x).map (fe x)) hj (fun x hx acc ha => ?_) xs.length (Nat.le_refl _) [] ?_, bind_ok, Nat.sub_self, List.drop_zero, List.nil_append]
  · rw [Nat.sub_self, List.drop_zero]
    simpa [List.length_flatMap] using hl
  · unfold compI
    have e0 : gName i x (wipeE env [i, k]) = some ((env.set k none).set i (some x)) := by
      show some (((env.set k none).set i none).set i (some x)) = _
      rw [List.set_set]
    rw [e0]
    obtain ⟨j1, q1, q2⟩ := h1 x hx
    show (it1 ((env.set k none).set i (some x)) st).nox.bind _ = _
    rw [q1, nox_ok, bind_ok]
    simp only [q2]
    rw [List.length_map] at ha
    rw [compP_const q2 _ (Nat.le_refl _), Nat.sub_self, List.drop_zero, compL_map (g := fun y => some (fe x y)) (f x) acc st (fun y hy => ?_) ha]
    · congr 2
      exact congrFun List.filterMap_eq_map' _
    · unfold compF
      have e1 : gName k y (wipeE ((env.set k none).set i (some x)) [k]) = some (((env.set k none).set i (some x)).set k (some y)) := by
        show some ((((env.set k none).set i (some x)).set k none).set k (some y)) = _
        rw [List.set_set]
      rw [e1]
      show Res.bind (Res.ok (PV.bl true) st) _ = _
      rw [bind_ok, onB_bl, if_pos rfl, hel x hx y hy, nox_ok, bind_ok]
/-! boxed objects at the end of the store -/
theorem deref_end {s : VSt} {p : PV} : deref (s ++ [p]) (.loc s.length) = p := by
  show (s ++ [p]).getD s.length .non = p
  simp
theorem set_end {s : VSt} {p q : PV} : (s ++ [p]).set s.length q = s ++ [q] := by simp
theorem deref2a {s : VSt} {p q : PV} : deref (s ++ [p, q]) (.loc s.length) = p := by
  show (s ++ [p, q]).getD s.length .non = p
  simp
theorem deref2b {s : VSt} {p q : PV} : deref (s ++ [p, q]) (.loc (s.length + 1)) = q := by
  show (s ++ [p, q]).getD (s.length + 1) .non = q
  simp
theorem set2a {s : VSt} {p q r : PV} : (s ++ [p, q]).set s.length r = s ++ [r, q] := by simp
theorem set2b {s : VSt} {p q r : PV} : (s ++ [p, q]).set (s.length + 1) r = s ++ [p, r] := by simp
theorem box1 {s : VSt} {p : PV} (h : noLoc p = true) : boxV p s = .ok (.loc s.length) (s ++ [p]) := if_pos h
theorem box2 {s : VSt} {p q : PV} (h : noLoc q = true) : boxV q (s ++ [p]) = .ok (.loc (s.length + 1)) (s ++ [p, q]) := by
  rw [box1 h]; simp
/-- x.append(y) -/
theorem r_app {l a : EM} {env : VEnv} {st st' : VSt} {n : Nat} {xs : List PV} {y : PV} (hl : l env st = .ok (.loc n) st) (hd : deref st (.loc n) = .lst xs) (ha : a env st = .ok y st') (hd' : deref st' (.loc n) = .lst xs) (hn : xs.length < 1000000) (hy : pureP y = true) : sApp l a env st = .nx env (st'.set n (.lst (xs ++ [y]))) := by
  unfold sApp
  rw [hl, s_ok]
  dsimp only
  rw [hd]
  show Res.s (a env st) _ = _
  rw [ha, s_ok]
  rw [hd']
  dsimp only
  rw [if_pos ⟨hn, hy⟩]
/-- x.extend(y) -/
theorem r_ext {l a : EM} {env : VEnv} {st st' : VSt} {n : Nat} {xs ys : List PV} {y : PV} (hl : l env st = .ok (.loc n) st) (hd : deref st (.loc n) = .lst xs) (ha : a env st = .ok y st') (hd' : deref st' (.loc n) = .lst xs) (hy : deref st' y = .lst ys) (hn : xs.length + ys.length ≤ 1000000) (hp : pures ys = true) : sExt l a env st = .nx env (st'.set n (.lst (xs ++ ys))) := by
  unfold sExt
  rw [hl, s_ok]
  dsimp only
  rw [hd]
  show Res.s (a env st) _ = _
  rw [ha, s_ok]
  rw [hd', hy]
  dsimp only
  rw [if_pos ⟨hn, hp⟩]
/-- s.add(y) -/
theorem r_add {l a : EM} {env : VEnv} {st st' : VSt} {n : Nat} {xs : List Str} {y : Str} (hl : l env st = .ok (.loc n) st) (hd : deref st (.loc n) = .sset xs) (ha : a env st = .ok (.str y) st') (hd' : deref st' (.loc n) = .sset xs) (hn : xs.length < 1000) : sAdd l a env st = .nx env (st'.set n (.sset (addS xs y))) := by
  unfold sAdd
  rw [hl, s_ok]
  dsimp only
  rw [hd]
  show Res.s (a env st) _ = _
  rw [ha, s_ok]
  rw [hd']
  dsimp only
  rw [if_pos hn]
theorem v_set {p : PV} {st : VSt} {xs : List Str} (h : deref st p = .lst (xs.map PV.str)) (hl : (oneS xs).length < 1000) : vSet [p] st = .ok (.sset (oneS xs)) st := by
  unfold vSet
  dsimp only
  rw [h]
  dsimp only
  rw [strsOf_map]
  exact if_pos hl
theorem v_sorteds {p : PV} {st : VSt} {xs : List Str} (h : deref st p = .sset xs) (hl : xs.length < 64) : vSorted [p] st = .ok (.lst ((srtS xs).map PV.str)) st := by
  unfold vSorted
  dsimp only
  rw [h]
  exact if_pos hl
theorem v_sortedl {p : PV} {st : VSt} {xs : List Str} (h : deref st p = .lst (xs.map PV.str)) (hl : xs.length < 64) : vSorted [p] st = .ok (.lst ((srtS xs).map PV.str)) st := by
  unfold vSorted
  dsimp only
  rw [h]
  dsimp only
  rw [strsOf_map]
  exact if_pos hl
/-! comprehensions over what is written as values -/
theorem compL_enc {α : Type} {enc : α → PV} {f : PV → VSt → Res (Option PV)} {g : α → Option PV} {st : VSt} : ∀ (l : List α) (acc : List PV), (∀ a ∈ l, f (enc a) st = .ok (g a) st) → acc.length + l.length ≤ 1000000 → compL f (l.map enc) acc st = .ok (acc ++ l.filterMap g) st
  | [], acc, _, _ => by simp [compL]
  | a :: l, acc, h, hl => by
    rw [List.length_cons] at hl
    rw [List.map_cons]
    unfold compL
    rw [if_pos (by omega), h a List.mem_cons_self, bind_ok]
    cases e : g a with
    | none => rw [compL_enc l acc (fun y hy => h y (List.mem_cons_of_mem _ hy)) (by omega), List.filterMap_cons_none e]
    | some y => rw [compL_enc l (acc ++ [y]) (fun y hy => h y (List.mem_cons_of_mem _ hy)) (by rw [List.length_append]; simp; omega), List.filterMap_cons_some e]; simp
theorem fm_fil {α β : Type} (p : α → Bool) (r : α → β) : ∀ l : List α, l.filterMap (fun a => if p a = true then some (r a) else none) = (l.filter p).map r
  | [] => rfl
  | a :: l => by
    by_cases e : p a = true
    · rw [List.filterMap_cons_some (b := r a) (by simp [e]), fm_fil p r l, List.filter_cons_of_pos e, List.map_cons]
    · rw [List.filterMap_cons_none (by simp [e]), fm_fil p r l, List.filter_cons_of_neg e]
/-- over a target g that stores -/
theorem comp_enc {α : Type} {it : IM} {g : GM} {t el : EM} {vs : List Nat} {env : VEnv} {st : VSt} {j : IT} {l : List α} {enc : α → PV} {ev : α → VEnv} {p : α → Bool} {res : α → PV} (hi : it env st = .ok j st) (hj : ∀ s, Itm j s = some (l.map enc)) (hl : l.length ≤ 1000000)
    (hg : ∀ a ∈ l, g (enc a) (wipeE env vs) = some (ev a)) (ht : ∀ a ∈ l, t (ev a) st = .ok (.bl (p a)) st) (h : ∀ a ∈ l, p a = true → el (ev a) st = .ok (res a) st) :
    eComp it g t el vs env st = .ok (.lst ((l.filter p).map res)) st := by
  rw [comp_const hi hj, compL_enc (g := fun a => if p a = true then some (res a) else none) l [] (fun a ha => ?_) (by simpa using hl), bind_ok, List.nil_append, fm_fil]
  unfold compF
  rw [hg a ha]
  show Res.bind (t (ev a) st).nox _ = _
  rw [ht a ha, nox_ok, bind_ok, onB_bl]
  by_cases e : p a = true
  · rw [if_pos e, h a ha e, nox_ok, bind_ok, if_pos e]
  · rw [if_neg e, if_neg e]
theorem comp_enc1 {α : Type} {it : IM} {t el : EM} {i : Nat} {env : VEnv} {st : VSt} {j : IT} {l : List α} {enc : α → PV} {p : α → Bool} {res : α → PV} (hi : it env st = .ok j st) (hj : ∀ s, Itm j s = some (l.map enc)) (hl : l.length ≤ 1000000)
    (ht : ∀ a ∈ l, t (env.set i (some (enc a))) st = .ok (.bl (p a)) st) (h : ∀ a ∈ l, p a = true → el (env.set i (some (enc a))) st = .ok (res a) st) :
    eComp it (gName i) t el [i] env st = .ok (.lst ((l.filter p).map res)) st := comp_enc (ev := fun a => env.set i (some (enc a))) hi hj hl (fun a _ => wipe1) ht h
theorem comp_enc0 {α : Type} {it : IM} {el : EM} {i : Nat} {env : VEnv} {st : VSt} {j : IT} {l : List α} {enc : α → PV} {res : α → PV} (hi : it env st = .ok j st) (hj : ∀ s, Itm j s = some (l.map enc)) (hl : l.length ≤ 1000000)
    (h : ∀ a ∈ l, el (env.set i (some (enc a))) st = .ok (res a) st) :
    eComp it (gName i) tTrue el [i] env st = .ok (.lst (l.map res)) st := by
  rw [comp_enc1 (p := fun _ => true) (res := res) hi hj hl (fun _ _ => rfl) (fun a ha _ => h a ha), List.filter_eq_self.mpr (by simp)]
end Vm

namespace Vm
open PySem PySem.Spec L2
/-! ## dicts from texts -/
section
variable {α : Type} (enc : α → PV)
def dE (l : List (Str × α)) : PV := .dct (l.map fun p => Sum.inr p.1) (l.map fun p => enc p.2)
end
section
variable {α : Type} {enc : α → PV}
def lkE : List (Str × α) → Str → Option α
  | [], _ => none
  | p :: l, x => if p.1 = x then some p.2 else lkE l x
def hasE (l : List (Str × α)) (x : Str) : Bool := (lkE l x).isSome
def putE (l : List (Str × α)) (x : Str) (a : α) : List (Str × α) := if hasE l x = true then l.map (fun p => (p.1, if p.1 = x then a else p.2)) else l ++ [(x, a)]
theorem hasE_iff {l : List (Str × α)} {x : Str} : hasE l x = true ↔ x ∈ l.map Prod.fst := by
  induction l with
  | nil => simp [hasE, lkE]
  | cons p l ih =>
    unfold hasE lkE
    by_cases h : p.1 = x
    · rw [if_pos h]; simp [h]
    · rw [if_neg h]
      show hasE l x = true ↔ _
      rw [ih, List.map_cons, List.mem_cons]
      exact ⟨.inr, fun z => z.resolve_left fun e => h e.symm⟩
theorem lk_app {l : List (Str × α)} {x y : Str} {a : α} (h : hasE l x = false) : lkE (l ++ [(x, a)]) y = if y = x then some a else lkE l y := by
  induction l with
  | nil =>
    show (if x = y then some a else none) = _
    by_cases e : y = x
    · rw [if_pos e, if_pos e.symm]
    · rw [if_neg e, if_neg (Ne.symm e)]; rfl
  | cons p l ih =>
    have hp : p.1 ≠ x := fun e => by unfold hasE lkE at h; rw [if_pos e] at h; cases h
    have hl : hasE l x = false := by unfold hasE lkE at h; rw [if_neg hp] at h; exact h
    show (if p.1 = y then some p.2 else lkE (l ++ [(x, a)]) y) = if y = x then some a else (if p.1 = y then some p.2 else lkE l y)
    rw [ih hl]
    by_cases e : p.1 = y
    · rw [if_pos e, if_pos e, if_neg (by rw [← e]; exact hp)]
    · rw [if_neg e, if_neg e]
theorem lk_upd {l : List (Str × α)} {x y : Str} {a : α} : lkE (l.map (fun p => (p.1, if p.1 = x then a else p.2))) y = if y = x then (lkE l y).map fun _ => a else lkE l y := by
  induction l with
  | nil => simp [lkE]
  | cons p l ih =>
    show (if p.1 = y then some (if p.1 = x then a else p.2) else lkE (l.map (fun p => (p.1, if p.1 = x then a else p.2))) y) = if y = x then (if p.1 = y then some p.2 else lkE l y).map (fun _ => a) else (if p.1 = y then some p.2 else lkE l y)
    by_cases e : p.1 = y
    · rw [if_pos e, if_pos e]
      by_cases e2 : y = x
      · rw [if_pos e2, if_pos (e.trans e2)]; rfl
      · rw [if_neg e2, if_neg fun z => e2 (e.symm.trans z)]
    · rw [if_neg e, if_neg e, ih]
theorem lk_put (l : List (Str × α)) (x y : Str) (a : α) : lkE (putE l x a) y = if y = x then some a else lkE l y := by
  unfold putE
  by_cases h : hasE l x = true
  · rw [if_pos h, lk_upd]
    by_cases e : y = x
    · rw [if_pos e, if_pos e]
      subst e
      unfold hasE at h
      obtain ⟨b, hb⟩ := Option.isSome_iff_exists.mp h
      rw [hb]; rfl
    · rw [if_neg e, if_neg e]
  · rw [if_neg h]
    exact lk_app (Bool.eq_false_iff.mpr h)
theorem put_lenE (l : List (Str × α)) (x : Str) (a : α) : (putE l x a).length ≤ l.length + 1 := by
  unfold putE
  split
  · rw [List.length_map]; omega
  · rw [List.length_append]; exact Nat.le_refl _
theorem kl_E (l : List (Str × α)) (x : Str) : kLook (l.map fun p => (Sum.inr p.1 : Key)) (l.map fun p => enc p.2) (.inr x) = (lkE l x).map enc := by
  induction l with
  | nil => rfl
  | cons p l ih =>
    show (if (Sum.inr p.1 : Key) = Sum.inr x then some (enc p.2) else kLook (l.map fun p => (Sum.inr p.1 : Key)) (l.map fun p => enc p.2) (.inr x)) = (if p.1 = x then some p.2 else lkE l x).map enc
    by_cases h : p.1 = x
    · rw [if_pos h, if_pos (by rw [h])]; rfl
    · rw [if_neg h, if_neg (fun z => h (Sum.inr.inj z)), ih]
theorem hasK_E (l : List (Str × α)) (x : Str) : hasK (l.map fun p => (Sum.inr p.1 : Key)) (.inr x) = hasE l x := by
  induction l with
  | nil => rfl
  | cons p l ih =>
    show (decide ((Sum.inr p.1 : Key) = Sum.inr x) || hasK (l.map fun p => (Sum.inr p.1 : Key)) (.inr x)) = (if p.1 = x then some p.2 else lkE l x).isSome
    by_cases h : p.1 = x
    · rw [if_pos h, decide_eq_true (by rw [h])]; rfl
    · rw [if_neg h, decide_eq_false (fun z => h (Sum.inr.inj z)), ih]; rfl
theorem put_E (l : List (Str × α)) (x : Str) (a : α) : PV.dct (kPutK (l.map fun p => Sum.inr p.1) (.inr x)) (kPutV (l.map fun p => (Sum.inr p.1 : Key)) (l.map fun p => enc p.2) (.inr x) (enc a)) = dE enc (putE l x a) := by
  unfold kPutK kPutV putE dE
  rw [hasK_E]
  by_cases h : hasE l x = true
  · rw [if_pos h, if_pos h, if_pos h]
    congr 1
    · rw [List.map_map]; rfl
    · have : (l.map fun p => (Sum.inr p.1 : Key)).zip (l.map fun p => enc p.2) = l.map fun p => ((Sum.inr p.1 : Key), enc p.2) := by
        clear h
        induction l with
        | nil => rfl
        | cons p l ih => rw [List.map_cons, List.map_cons, List.zip_cons_cons, ih, List.map_cons]
      rw [this, List.map_map, List.map_map]
      refine List.map_congr_left fun p _ => ?_
      show (if (Sum.inr p.1 : Key) = Sum.inr x then enc a else enc p.2) = enc (if p.1 = x then a else p.2)
      by_cases e : p.1 = x
      · rw [if_pos e, if_pos (by rw [e])]
      · rw [if_neg e, if_neg (fun z => e (Sum.inr.inj z))]
  · rw [if_neg h, if_neg h, if_neg h, List.map_append, List.map_append]; rfl
theorem dE_noLoc (h : ∀ a, pureP (enc a) = true) : ∀ l : List (Str × α), noLoc (dE enc l) = true
  | [] => rfl
  | p :: l => by
    show (pureP (enc p.2) && pures (l.map fun p => enc p.2)) = true
    have : pures (l.map fun p => enc p.2) = true := dE_noLoc h l
    rw [h, this]; rfl
/-- d[k] = v -/
theorem r_put {d k v : EM} {env : VEnv} {st st1 st2 st3 : VSt} {n : Nat} {x : Str} {a : α} {l : List (Str × α)} (hv : v env st = .ok (enc a) st1) (hd : d env st1 = .ok (.loc n) st2) (hk : k env st2 = .ok (.str x) st3) (hd3 : deref st3 (.loc n) = dE enc l) (hl : l.length < 1000000) (hp : pureP (enc a) = true) :
    sPut d k v env st = .nx env (st3.set n (dE enc (putE l x a))) := by
  unfold sPut
  rw [hv, s_ok, hd, s_ok, hk, s_ok]
  dsimp only
  rw [hd3, show keyP (.str x) = some (Sum.inr x) from rfl]
  unfold dE
  dsimp only
  rw [if_pos ⟨by rw [List.length_map]; exact hl, hp⟩, put_E]; rfl
/-- k in d -/
theorem v_inE {st : VSt} {p : PV} {x : Str} {l : List (Str × α)} (h : deref st p = dE enc l) : vIn false (.str x) p st = .ok (.bl (hasE l x)) st := by
  unfold vIn
  rw [h]
  unfold dE
  dsimp only
  rw [show keyP (.str x) = some (Sum.inr x) from rfl]
  dsimp only
  rw [kl_E]
  unfold hasE
  cases lkE l x <;> rfl
/-- d[k] -/
theorem v_ixE {st : VSt} {p : PV} {x : Str} {a : α} {l : List (Str × α)} (h : deref st p = dE enc l) (hx : lkE l x = some a) : vIx p (.str x) st = .ok (enc a) st := by
  unfold vIx
  rw [h]
  unfold dE
  dsimp only
  rw [show keyP (.str x) = some (Sum.inr x) from rfl]
  dsimp only
  rw [kl_E, hx]
  rfl
end
end Vm

namespace Vm
open PySem PySem.Spec L2
/-! ## raise, try -/
def sRaise (c : Nat) : SM := fun _ st => .ex c [] st
section
variable {X : Cx} {W : XD} {pr : Prg} {T : Tbl} {n : Nat} {bs : List Str} {cs : List (Str × Int)} {fr : Bool}
theorem evs_raise {x m : Str} {j k : Nat} {p p2 p3 pos : Pos} (c : Cok X W pr T n bs cs) (h : (x, k) ∈ pr.xs) (hg : Gl X x := by rfl) (hdb : (x == ("__debug__" : Str)) = false := by decide) :
    EvS X W fr (.Raise (some (.Call (.Name x p) [.Constant (.str m) j p2] [] p3)) none pos) (sRaise k) :=
  PS.anti (L2N.ps_raise c.calm c.tk (L2N.pmk_own PySem.F.excBase_ValueError (c.exc _ h).q (c.exc _ h).g (c.exc _ h).k (raises_own (c.exc _ h).b (c.exc _ h).t) hg hdb)) fun D σ H ⟨hid, ρ, env, st, R, P⟩ => P ρ H none (Later.refl _ _) R.s rfl
theorem PSs.antiI {X : Cx} {e : List Stmt} {t u : TS} (h : PSs X e t) (k : ∀ D σ H, σ.length = X.N.length → u D σ H → t D σ H) : PSs X e u := ⟨fun pins s σ H D I w => h.run pins s σ H D I (k D σ H I.len w)⟩
theorem xcR_wx {G : Gx} {ρ : List Addr} {H : Hp} {xd : XD} : ∀ {fs : List PV} {d : Option Addr}, XcR G ρ H fs d → XcR (G.wx xd) ρ H fs d
  | [], _, h => h
  | [_], _, h => h.elim
  | _ :: _ :: _ :: _, _, h => h.elim
  | [p, q], d, h => by
    obtain ⟨dd, v, w, e, e2, h1, h2⟩ := h
    exact ⟨dd, v, w, e, e2, rep_wx p v h1, rep_wx q w h2⟩
/-- try: body, except X as n: return .. -/
def sTry (body : SM) (hk : Nat → List PV → VSt → Res PV) : SM := fun env st => match body env st with
  | .ex c fs s => (hk c fs s).s fun p s => .rt p s
  | r => r
/-- the suite's reading -/
def tSuite (X : Cx) (W : XD) (fr : Bool) (i : Nat) (hk : Nat → List PV → VSt → Res PV) (a : Addr) (cls : Value) (d : Option Addr) : TS := fun D σ H => ∃ c fs hid ρ st, cls = .ref (W.C c) ∧ (i < σ.length → σ[i]? = some (some (.ref a))) ∧ H a = none ∧ SRel (gx X W hid) ρ st H ∧ XcR (gx X W hid) ρ H fs d ∧
  PostS (gx X W hid) ρ H fr ((hk c fs st).s fun p s => .rt p s) D
theorem PostS.rtOnly {G : Gx} {ρ : List Addr} {H : Hp} {r : Res PV} {D D' : Ends} (h : PostS G ρ H fr (r.s fun p s => .rt p s) D) (nx : r = r) (ex : ∀ c fs s, r ≠ .ex c fs s) (e : D'.rt = D.rt) : PostS G ρ H fr (r.s fun p s => .rt p s) D' := by
  cases r with
  | bad => exact h
  | ex c fs s => exact absurd rfl (ex c fs s)
  | ok p s => exact fun ρ' H' v l S rp f => by rw [e]; exact h ρ' H' v l S rp f
theorem evs_try {x nm : Str} {i : Nat} {cv : Value} {body suite : List Stmt} {b₀ : Stmt} {np pos pos' : Pos} {mb : SM} {hk : Nat → List PV → VSt → Res PV} (c : Cok X W pr T n bs cs) (hs : X.stack = X.env :: X.outer) (hf : X.env.frame = some X.env.locals) (hi : X.N[i]? = some nm) (hln : X.env.kindOf nm = some .local) (hc : Names X x cv)
    (hm : ∀ c fs s, hk c fs s ≠ .bad → PySem.W.exmOne X.K (.ref (W.C c)) cv = some true) (hx : ∀ c fs s c' fs' s', hk c fs s ≠ .ex c' fs' s')
    (hb : ∀ (W' : XD) (pn : List (Addr × Obj)) (xe : Value → Shared → Prop), Cok (X.tr pn xe) W' pr T n bs cs → W'.C = W.C → EvSs (X.tr pn xe) W' fr body mb)
    (hsu : ∀ (a : Addr) (oe : Obj) (cls : Value) (d : Option Addr) (pn : List (Addr × Obj)), L2N.Zn cls d oe → (∃ vs, oe.data = .fields vs) → PSs (X.suite a ((a, oe) :: pn)) (b₀ :: suite) (tSuite X W fr i hk a cls d)) :
    EvS X W fr (.Try body [.ExceptHandler (some (.Name x np)) (some nm) (b₀ :: suite) pos'] [] [] pos) (sTry mb hk) := by
  refine PS.anti (L2N.ps_try_as (tb := fun W' => fun D σ H => ∃ E, (∀ cls d σ H, E cls d H → W' cls d σ H) ∧ cS X ⟨W.C, E⟩ fr mb D σ H) (ts := tSuite X W fr i hk) hs hf c.nd hi hln hc takes0N (fun W' pn xe tk po => ⟨fun pins s σ H D I ⟨E, he, h⟩ => ?_⟩) hsu) fun D σ H ⟨hid, ρ, env, st, R, P⟩ => ?_
  · exact (hb ⟨W.C, E⟩ pn xe ⟨c.calm, c.nd, c.room, c.fns, c.blt, c.cst, tk.imp fun c d σ H h => he c d σ H h, po, c.exc⟩ rfl).run pins s σ H D I h
  · refine ⟨fun cls d H' => ∃ c fs ρ' st', cls = .ref (W.C c) ∧ hk c fs st' ≠ .bad ∧ SRel (gx X W hid) ρ' st' H' ∧ XcR (gx X W hid) ρ' H' fs d ∧ PostS (gx X W hid) ρ' H' fr ((hk c fs st').s fun p s => .rt p s) D, ?_, hid, ρ, env, st, rel_wx (xd := ⟨W.C, _⟩) R, ?_⟩
    · rintro cls d σ' H' ⟨c', fs, ρ', st', rfl, nb, S, x, q⟩
      refine ⟨true, hm _ _ _ nb, fun _ a ha => ⟨c', fs, hid, ρ', st', rfl, fun hl => ?_, ha, S, x, q.rtOnly rfl (fun c fs s => hx _ _ _ c fs s) rfl⟩, fun z => Bool.noConfusion z⟩
      rw [List.getElem?_set_self (by simpa using hl)]
    · unfold sTry at P
      cases e : mb env st with
      | nx e1 s1 =>
        rw [e] at P
        exact fun ρ' H' σ' l R' => P ρ' H' σ' l (rel_wx (xd := W) R')
      | bk e1 s1 =>
        rw [e] at P
        exact fun ρ' H' σ' l R' => P ρ' H' σ' l (rel_wx (xd := W) R')
      | ct e1 s1 =>
        rw [e] at P
        exact fun ρ' H' σ' l R' => P ρ' H' σ' l (rel_wx (xd := W) R')
      | rt p s1 =>
        rw [e] at P
        exact fun ρ' H' v l S rp f => P ρ' H' v l (srel_wx (xd := W) S) (rep_wx (xd := W) _ _ rp) f
      | ex c' fs s1 =>
        rw [e] at P
        refine fun ρ' H' d l S x => ⟨c', fs, ρ', s1, rfl, fun z => ?_, srel_wx (xd := W) S, xcR_wx (xd := W) x, PostS.move l P⟩
        have P' : PostS (gx X W hid) ρ H fr ((hk c' fs s1).s fun p s => .rt p s) D := P
        rw [z] at P'
        exact P'
      | bad =>
        rw [e] at P
        exact P
/-! ### not [..] -/
def eNotL (a : EM) : EM := fun env st => (a env st).bind fun x s => match x with
  | .lst xs => .ok (.bl xs.isEmpty) s
  | _ => .bad
theorem ev_notL {a : Expr} {ma : EM} {fa : Bool} {pos : Pos} (h : Ev X W fa a ma) : Ev X W true (.UnaryOp .Not a pos) (eNotL ma) :=
  PE.anti (pe_notT h) fun σ H Q ⟨hid, ρ, env, st, R, P⟩ => cE_use R P fun ρ1 st1 H1 x v l R1 rx _ P1 => by
    split at P1
    · rename_i xs
      obtain ⟨a, vs, rfl, _, _, ha, rv⟩ := rx
      have e : vs.isEmpty = xs.isEmpty := by
        have hl := rv.length
        cases vs <;> cases xs <;> simp_all
      refine ⟨!vs.isEmpty, .inl ⟨vs, SqL.of ha, rfl⟩, ?_⟩
      rw [Bool.not_not, e]
      exact P1.val R1.s rfl (fun _ _ e => nomatch e)
    · exact False.elim P1
end
/-! ### running -/
section
variable {env : VEnv} {st : VSt}
theorem x_raise {c : Nat} : sRaise c env st = .ex c [] st := rfl
theorem x_notL {a : EM} : eNotL a env st = (a env st).bind fun x s => match x with
  | .lst xs => .ok (.bl xs.isEmpty) s
  | _ => .bad := rfl
theorem x_chain {f g : PV → PV → VSt → Res PV} {a b c : EM} : eChain f g a b c env st = (a env st).bind fun x s1 => (b env s1).bind fun y s2 => (f x y s2).bind (onB fun k s3 => if k = true then (c env s3).bind fun z s4 => g y z s4 else .ok (.bl false) s3) := rfl
theorem end_ex {fr : Bool} {k c : Nat} : endI fr k (.ex c [] st) = .ex c [] (st.take k) := rfl
theorem try_ex {b : SM} {hk : Nat → List PV → VSt → Res PV} {c : Nat} {fs : List PV} {s : VSt} (h : b env st = .ex c fs s) : sTry b hk env st = (hk c fs s).s fun p s => .rt p s := by unfold sTry; rw [h]
theorem try_rt {b : SM} {hk : Nat → List PV → VSt → Res PV} {p : PV} {s : VSt} (h : b env st = .rt p s) : sTry b hk env st = .rt p s := by unfold sTry; rw [h]
theorem try_nx {b : SM} {hk : Nat → List PV → VSt → Res PV} {e : VEnv} {s : VSt} (h : b env st = .nx e s) : sTry b hk env st = .nx e s := by unfold sTry; rw [h]
end
end Vm

namespace Vm
open PySem PySem.Spec L2
/-! ## a def that is called with the exception that is handled -/
def Rm (A : Around) : Prop := A.depth < recursionLimit ∧ A.units + 100 < cLine
structure FnP (P : Program) (w : World) (K : PySem.W.Frag) (mg : Str → Option Value) (base : Heap) (CX : CXT) (f : Addr) (fd : FuncData) (ps : List Str) (sp : Sp) (p : Addr × Obj) : Prop where
  len : ∀ vs H Q E, sp vs H Q E → vs.length = ps.length
  run : ∀ (A : Around) (outer : List Env) (s : Shared) (H : Hp) (args : Args) (us : List Value) (vs : List V) (Q : VK) (E : XK), Rm A → L2H.Hot1 A p → L2H.PinOk outer H s p → Env0 P w K mg base A outer s H → BindsTo s fd args (ps.zip us) → Vals vs us → sp vs H Q E →
    codeAny (model P w) A (.call (.ref f) args) (CR CX outer P w H s Q E) s
section
variable {P : Program} {w : World} {K : PySem.W.Frag} {mg : Str → Option Value} {base : Heap} {CX : CXT}
theorem okP {x qual : Str} {st : Stmt} {f : Addr} {fd : FuncData} {N ps : List Str} {sp : Sp} {p : Addr × Obj} (F : Fun K x qual st f fd) (S : FnScope N ps (defScope st)) (len : ∀ vs H Q E, sp vs H Q E → vs.length = ps.length)
    (hbody : ∀ (cdv : Value) (A : Around) (outer : List Env) (s : Shared) (H : Hp) (vs : List V) (Q : VK) (E : XK), L2H.Hot1 A p → (A.deeper (PyProof.Rows.envOfC qual (defScope st) s.heap.objs.size f cdv)).units + 64 < cLine → sp vs H Q E →
      ∃ t, PSs (L2H.cxH CX P w K mg base N qual (defScope st) f cdv A outer s H E p) (defBody st) t ∧ t { nx := fun _ H' => Q .non H', rt := Q } (L2.start N vs) H) : FnP P w K mg base CX f fd ps sp p := by
  obtain ⟨oc, od, kV, doc, pm, an, cdv, ct, osl, rfl, lk, hcd⟩ := F.ex
  refine ⟨len, fun A outer s H args us vs Q E hr hot hpin e0 hb r hsp => ?_⟩
  have hl := len _ _ _ _ hsp
  have KX : K.In s.heap := e0.mod.kin.keeps fun b o e => (e0.bs b o e).1
  have lim : s.heap.NoLimit := e0.mod.nolimit.keeps fun b o e => (e0.bs b o e).1
  have kinds : ∀ y ∈ ps.zip us, (defScope st).names.lookup y.1 = some .local ∨ ((defScope st).names.lookup y.1 = some .cell ∧ ((cellsFrom (s.heap.objs.size + 1) (defScope st).names []).lookup y.1).isSome = true) := fun ⟨m, v⟩ hy =>
    (S.par m (List.of_mem_zip hy).1).imp id fun q => ⟨q, PySem.W.cellsFrom_some _ _ _ (.inl q)⟩
  refine codeAny_call_function hr.1 (KX _ _ lk) rfl S.co S.gen rfl (PySem.W.codeRec_of KX hcd) (hb _ _ _ _ ?_)
  refine wpAny_newFunctionEnv_cells S.kind kinds fun env he s1 x => ?_
  subst he
  refine ⟨lim.keeps x.toInCall.keep, codeAny_func ?_⟩
  obtain ⟨t, ht, hq⟩ := hbody cdv A outer s H vs Q E hot (by have := hr.2; show A.units + 3 + 64 < _; omega) hsp
  have I := L2H.inv_startH (CX := CX) (E := E) S hpin e0 hl r x
  refine wpAny_mono (ht.run [] s1 _ H _ I hq) (fun fl s' hs => ?_) fun e s' hs => hs
  cases fl with
  | ret u =>
    obtain ⟨v, σ', H', J, rv, q⟩ := hs
    exact ⟨v, H', J.os, J.bare, J.base, J.hok, rv, q⟩
  | next =>
    obtain ⟨σ', H', J, q⟩ := hs
    exact ⟨V.non, H', J.os, J.bare, J.base, J.hok, rfl, q⟩
  | brk =>
    obtain ⟨_, _, _, q⟩ := hs
    exact False.elim q
  | cont =>
    obtain ⟨_, _, _, q⟩ := hs
    exact False.elim q
theorem fnP_ok {x qual : Str} {st : Stmt} {f : Addr} {fd : FuncData} {N ps : List Str} {d : FnD} {T : Tbl} {C : Nat → Addr} {p : Addr × Obj} (F : Fun K x qual st f fd) (S : FnScope N ps (defScope st)) (hnp : d.np = ps.length) (hns : d.ns = N.length)
    (hb : ∀ (cdv : Value) (A : Around) (outer : List Env) (s : Shared) (H : Hp) (E : XK), L2H.Hot1 A p → (A.deeper (PyProof.Rows.envOfC qual (defScope st) s.heap.objs.size f cdv)).units + 64 < cLine → EvSs (L2H.cxH (L2N.CX P w) P w K mg base N qual (defScope st) f cdv A outer s H E p) ⟨C, E⟩ d.fr (defBody st) (d.body T)) :
    FnP P w K mg base (L2N.CX P w) f fd ps (spI P w K C d.fr (callI d T)) p :=
  okP F S (fun vs H Q E h => by rw [spI_len h, hnp]) fun cdv A outer s H vs Q E hot hr h => ⟨_, hb cdv A outer s H E hot hr, spI_run rfl rfl rfl hns h⟩
end
section
variable {X : Cx} {W : XD} {fr : Bool}
theorem ev_callP {p : Addr × Obj} {f : Addr} {fd : FuncData} {ps : List Str} {I : List PV → VSt → Res PV} {e : Expr} {es : List Expr} {m : AM} {q pos : Pos} {x : Str} (hot : L2H.Hot1 X.A p) (hp : p ∈ X.pn) (tk : L2N.Takes X (fun cls d _ H => W.E cls d H))
    (F : FnP X.prog X.w X.K X.mg X.base (L2N.CX X.prog X.w) f fd ps (spI X.prog X.w X.K W.C fr I) p) (hr : Rm X.A) (hm : X.mg x = some (.ref f)) (hk : PySem.W.keepIn X.K (.ref f) = true) (hb : Binds X.K fd ps []) (ha : EvA X W (e :: es) m) (hg : Gl X x := by rfl)
    (hdb : (x == ("__debug__" : Str)) = false := by decide) (he : starEach (e :: es) X.env = (false, eval e X.env) :: starEach es X.env := by rfl) (hpl : (backTo pos (starEach es X.env)).any (·.1) = false := by rfl) : Ev X W fr (.Call (.Name x q) (e :: es) [] pos) (eApp I m) := by
  refine PE.anti (t := tCall (spI X.prog X.w X.K W.C fr I) [] W.E (cA X W m)) ⟨fun pins s σ H Q J h => ?_⟩ fun σ H Q ⟨hid, ρ, env, st, R, P⟩ => cA_use R P fun ρ1 st1 H1 args vs l R1 ra P1 => ⟨hid, ρ1, st1, args, R1.s, by rw [List.append_nil]; exact ra, kE.back l P1⟩
  refine wpAny_Call_Name_kw (ld_glob J hg hm ?_ hdb)
  refine PySem.W.callWith_K (h₀ := X.base) J.ok.mod.kin hk (thn (ha.run pos pins s σ H _ J h) fun us s1 ⟨vs, H1, I1, r, z⟩ => ⟨I1.kIn, ?_⟩) he hpl
  simp only [List.append_nil] at z
  have hl : us.length = ps.length := by rw [← r.length]; exact F.len _ _ _ _ z
  have b := hb s1 us I1.kIn (by rw [List.append_nil]; exact hl)
  rw [List.append_nil] at b
  have P1 := I1.pin p (List.mem_append_left _ hp)
  have hpin : L2H.PinOk X.stack H1 s1 p := ⟨P1.1, P1.2.1, fun hm => (List.mem_cons.mp (I1.stkSub p.1 hm)).elim P1.2.2.1 P1.2.2.2.1, P1.2.2.2.2⟩
  refine wpAny_call (codeAny_mono (F.run X.A X.stack s1 H1 ⟨us, []⟩ us vs Q W.E hr hot hpin I1.env0 b r z) fun r s' hq => ?_)
  cases r with
  | error e => exact L2N.passes_call tk (fun _ _ _ _ h => h) pins σ H1 s1 e s' I1 hq
  | ok fl =>
    cases fl with
    | ret u => exact I1.after hq
    | next => exact False.elim hq
    | brk => exact False.elim hq
    | cont => exact False.elim hq
/-! ### isinstance(e, c) -/
structure ExcC' (K : PySem.W.Frag) (D : Addr) : Prop where
  hc : (PySem.W.clsIn K D).isSome = true
  hg : PySem.W.findIn K (.ref D) "__getattribute__" = some (some (.builtin "BaseException.__getattribute__"))
  hk : PySem.W.findIn K (.ref D) "__getattr__" = some none
  hs : PySem.W.subIn K (.ref D) (.type "BaseException") = some true
  ha : PySem.W.findIn K (.ref D) "__class__" = some (some (.builtin "object.__class__"))
  hn : PySem.W.specialIn K (.builtin "object.__class__") "__get__" = some (some (.builtin "getset_descriptor.__get__"))
  ht : PySem.W.takesIn K (.builtin "object.__class__") = some true
  hm : PySem.W.mroIn K D (.type "object") = some true
def rIsP (K : PySem.W.Frag) (D a : Addr) : List V → Hp → VK → Prop := fun xs H Q => ∃ (c : V) (cv : Value) (b : Bool), xs = [.ref a, c] ∧ ClsV c cv ∧ PySem.W.kitOne K (.ref D) cv = some b ∧ Q (.bl b) H
theorem call_isP {p : Addr × Obj} {D : Addr} (hp : p ∈ X.pn) (C : ExcC' X.K D) (hz : p.2.cls = .ref D) (hd : p.2.dict = none) (hf : ∃ vs, p.2.data = .fields vs) : CallR X (.builtin "isinstance") (rIsP X.K D p.1) := by
  intro pins s σ H xs us Q I r h
  obtain ⟨c, cv, b, rfl, k, e, q⟩ := h
  obtain ⟨u1, u2, rfl, r1, r2⟩ := vals2 r
  have e2 := k.eq r2
  subst e2
  cases (show u1 = Value.ref p.1 from r1)
  obtain ⟨hget, _⟩ := I.pin p (List.mem_append_left _ hp)
  obtain ⟨vs, hv⟩ := hf
  have J : PySem.W.InstAt s.heap p.1 p.2 D none := ⟨hget, hz, by unfold PySem.W.notCls; rw [hv] <;> rfl, by rw [hd]; trivial⟩
  exact PySem.W.kia_one (PySem.W.kitx_exc C.hc C.hg C.hk C.hs C.ha C.hn C.ht C.hm) I.kIn J e (fun z => nomatch z) fun tk => ⟨.bl b, H, I.tok tk, rfl, q⟩
def eIsX (p : Addr) (b : Bool) (a : EM) : EM := fun env st => (a env st).bind fun x s => match x with
  | .raw a' => if a' = p then .ok (.bl b) s else .bad
  | _ => .bad
theorem ev_isx {p : Addr × Obj} {D : Addr} {cv : Value} {c : V} {b fa : Bool} {a : Expr} {ma : EM} {Cl : Str} {q p2 pos : Pos} (hp : p ∈ X.pn) (C : ExcC' X.K D) (hz : p.2.cls = .ref D) (hd : p.2.dict = none) (hf : ∃ vs, p.2.data = .fields vs) (ha : Ev X W fa a ma)
    (hcl : PE X (.Name Cl p2) (tC c)) (k : ClsV c cv) (e : PySem.W.kitOne X.K (.ref D) cv = some b) (hm : X.mg "isinstance" = none) (hg : Gl X "isinstance" := by rfl)
    (hs : starEach (a :: [.Name Cl p2]) X.env = (false, eval a X.env) :: starEach [.Name Cl p2] X.env := by rfl) (hs2 : starEach (.Name Cl p2 :: []) X.env = (false, eval (.Name Cl p2) X.env) :: starEach [] X.env := by rfl)
    (hpl : (backTo pos (starEach [.Name Cl p2] X.env)).any (·.1) = false := by rfl) :
    Ev X W true (.Call (.Name "isinstance" q) [a, .Name Cl p2] [] pos) (eIsX p.1 b ma) := by
  refine PE.anti (pe_callB (call_isP hp C hz hd hf) hg hm PyProof.Rows.boot_isinstance (pa_cons ha (pa_cons hcl pa_nil hs2) hs) (by decide) (by decide) hs hpl) fun σ H Q ⟨hid, ρ, env, st, R, P⟩ => ?_
  refine cE_use R P fun ρ1 st1 H1 x v l R1 rx _ P1 => ?_
  split at P1
  · rename_i a'
    split at P1
    · rename_i ea
      obtain rfl : v = .ref a' := rx
      exact ⟨c, cv, b, by rw [ea], k, e, P1.val R1.s rfl (fun _ _ e => nomatch e)⟩
    · exact False.elim P1
  · exact False.elim P1
/-! ### list.count(True), list.index(True), of truth values -/
def blsOf : List PV → Option (List Bool)
  | [] => some []
  | .bl b :: r => (blsOf r).map (b :: ·)
  | _ => none
theorem reps_bls {G : Gx} {ρ : List Addr} {H : Hp} : ∀ {xs : List PV} {bl : List Bool} {vs : List V}, blsOf xs = some bl → Reps G ρ H xs vs → vs = bl.map V.bl
  | [], bl, vs, e, r => by cases e; exact r
  | .bl b :: xs, bl, vs, e, r => by
    obtain ⟨v, t, rfl, h1, h2⟩ := r
    unfold blsOf at e
    obtain ⟨bl', e', rfl⟩ := Option.map_eq_some_iff.mp e
    rw [reps_bls e' h2, show v = V.bl b from h1]
    rfl
  | .non :: _, _, _, e, _ => by cases e
  | .int _ :: _, _, _, e, _ => by cases e
  | .str _ :: _, _, _, e, _ => by cases e
  | .tup _ :: _, _, _, e, _ => by cases e
  | .lst _ :: _, _, _, e, _ => by cases e
  | .dct _ _ :: _, _, _, e, _ => by cases e
  | .sset _ :: _, _, _, e, _ => by cases e
  | .scr _ :: _, _, _, e, _ => by cases e
  | .loc _ :: _, _, _, e, _ => by cases e
  | .raw _ :: _, _, _, e, _ => by cases e
def rCntT (K : PySem.W.Frag) : V → List V → Hp → VK → Prop := fun x xs H Q => ∃ (a : Addr) (bl : List Bool), x = .ref a ∧ xs = [.bl true] ∧ SqL K H a (bl.map V.bl) ∧ Q (.int (bl.count true : Nat)) H
theorem bls_flat (bl : List Bool) : (bl.map V.bl).all flatV = true := List.all_eq_true.mpr fun v hv => by
  obtain ⟨b, _, rfl⟩ := List.mem_map.mp hv
  rfl
theorem eqU_bl {b : Bool} {u : Value} (r : RelV (.bl b) u) : eqU (.bl true) u = b := by
  rw [eqU_of r rfl]
  cases b <;> rfl
theorem cnt_bls : ∀ {bl : List Bool} {us : List Value}, Vals (bl.map V.bl) us → us.countP (eqU (.bl true)) = bl.count true
  | [], us, r => by cases r; rfl
  | b :: bl, us, r => by
    cases r with
    | cons r t =>
      rw [List.countP_cons, cnt_bls t, eqU_bl r, List.count_cons]
      cases b <;> rfl
theorem mt_cntT : MtR X "list.count" (rCntT X.K) := by
  intro pins s σ H x xs v us Q I rx rxs h
  obtain ⟨a, bl, rfl, rfl, hs, q⟩ := h
  cases rx
  obtain ⟨u, rfl, ru⟩ := rxs.one
  obtain ⟨its, rv, ⟨⟨cls, dd, data, sl⟩, n, ho, hc, hdn, hd⟩, hlen⟩ := I.list hs
  simp only at hc hd
  subst hc hd
  refine call_meets PySem.F.slot_list_count ⟨_, ho, rfl⟩ PySem.F.entry_list_count (PySem.F.args_list_count_2 _ _)
    (SeqAt.list_countAt a its.toArray n dd sl u (eqU (.bl true))) ⟨ho, fun y hy => mem_eqAt ru rfl rv (bls_flat bl) y (by simpa using hy), ?_⟩
  have ec : its.toArray.toList.countP (eqU (.bl true)) = bl.count true := cnt_bls rv
  refine ⟨.int (bl.count true : Nat), H, I.tok _, ⟨s.toks, ?_⟩, q⟩
  show Value.int ((its.toArray.toList.countP (eqU (.bl true)) : Nat) : Int) s.toks = Value.int ((bl.count true : Nat) : Int) s.toks
  rw [ec]
def eCntT (a b : EM) : EM := fun env st => (a env st).bind fun x s => match x with
  | .lst xs => match blsOf xs with
    | some bl => (b env s).bind fun y s2 => match y with
      | .bl true => .ok (.int (bl.count true : Nat)) s2
      | _ => .bad
    | none => .bad
  | _ => .bad
def eIdxT (a b : EM) : EM := fun env st => (a env st).bind fun x s => match x with
  | .lst xs => match blsOf xs with
    | some bl => (b env s).bind fun y s2 => match y with
      | .bl true => if true ∈ bl then .ok (.int (bl.idxOf true : Nat)) s2 else .bad
      | _ => .bad
    | none => .bad
  | _ => .bad
variable {l e : Expr} {ml me : EM} {f1 f2 : Bool} {apos cpos : Pos}
theorem ev_cntT (hl : Ev X W f1 l ml) (he : Ev X W f2 e me)
    (hbase : attributeBase l "count" X.env (eval l X.env) = eval l X.env := by rfl)
    (hfew : ((backTo cpos (starEach [e] X.env)).all (fun x => !x.1) && (backToKw cpos (keywordEach [] X.env)).all (fun x => x.1.isSome)
      && decide (([e] : List Expr).length + ([] : List Keyword).length + (if ([] : List Keyword).isEmpty then 0 else 1) < 30)) = true := by rfl)
    (hline : (apos.endLine == cpos.line) = true := by rfl) (hse : starEach [e] X.env = (false, eval e X.env) :: starEach [] X.env := by rfl) (hplain : (backTo cpos (starEach [] X.env)).any (·.1) = false := by rfl) :
    Ev X W true (.Call (.Attribute l "count" apos) [e] [] cpos) (eCntT ml me) :=
  PE.anti (pe_bm PySem.F.plainAttrs_list PySem.F.slot_list_count PySem.F.type_list_count mt_cntT hl (pa_cons he pa_nil hse) hbase hfew hline hse hplain) fun σ H Q ⟨hid, ρ, env, st, R, P⟩ => cE_use R P fun ρ1 st1 H1 x v l1 R1 rx _ P1 => by
    split at P1
    · rename_i xs
      split at P1
      · rename_i bl eb
        obtain ⟨a, vs, rfl, n1, n2, hv, rv⟩ := rx
        obtain rfl := reps_bls eb rv
        refine ⟨.inl ⟨rfl, _, SqL.of hv⟩, cE_use R1 P1 fun ρ2 st2 H2 y u l2 R2 ry _ P2 => ?_⟩
        split at P2
        · obtain rfl : u = .bl true := ry
          exact ⟨a, bl, rfl, rfl, SqL.of (l2.keep _ _ hv n1), P2.val R2.s rfl (fun _ _ e => nomatch e)⟩
        · exact False.elim P2
      · exact False.elim P1
    · exact False.elim P1
theorem ev_idxT (hl : Ev X W f1 l ml) (he : Ev X W f2 e me)
    (hbase : attributeBase l "index" X.env (eval l X.env) = eval l X.env := by rfl)
    (hfew : ((backTo cpos (starEach [e] X.env)).all (fun x => !x.1) && (backToKw cpos (keywordEach [] X.env)).all (fun x => x.1.isSome)
      && decide (([e] : List Expr).length + ([] : List Keyword).length + (if ([] : List Keyword).isEmpty then 0 else 1) < 30)) = true := by rfl)
    (hline : (apos.endLine == cpos.line) = true := by rfl) (hse : starEach [e] X.env = (false, eval e X.env) :: starEach [] X.env := by rfl) (hplain : (backTo cpos (starEach [] X.env)).any (·.1) = false := by rfl) :
    Ev X W true (.Call (.Attribute l "index" apos) [e] [] cpos) (eIdxT ml me) :=
  PE.anti (pe_bm PySem.F.plainAttrs_list PySem.F.slot_list_index PySem.F.type_list_index mt_index hl (pa_cons he pa_nil hse) hbase hfew hline hse hplain) fun σ H Q ⟨hid, ρ, env, st, R, P⟩ => cE_use R P fun ρ1 st1 H1 x v l1 R1 rx _ P1 => by
    split at P1
    · rename_i xs
      split at P1
      · rename_i bl eb
        obtain ⟨a, vs, rfl, n1, n2, hv, rv⟩ := rx
        obtain rfl := reps_bls eb rv
        refine ⟨.inl ⟨rfl, _, SqL.of hv⟩, cE_use R1 P1 fun ρ2 st2 H2 y u l2 R2 ry _ P2 => ?_⟩
        split at P2
        · split at P2
          · rename_i hin
            obtain rfl : u = .bl true := ry
            have hlt : bl.idxOf true < bl.length := List.idxOf_lt_length_of_mem hin
            refine ⟨a, _, .bl true, bl.idxOf true, .bl true, rfl, rfl, SqL.of (l2.keep _ _ hv n1), rfl, bls_flat bl, ?_, rfl, fun m z' hm hz => ?_, P2.val R2.s rfl (fun _ _ e => nomatch e)⟩
            · rw [List.getElem?_map, List.getElem?_eq_getElem hlt, Option.map_some, List.getElem_idxOf]
            · rw [List.getElem?_map, List.getElem?_eq_getElem (by omega), Option.map_some] at hz
              cases hz
              have := List.not_of_lt_findIdx (p := (· == true)) (xs := bl) (i := m) hm
              cases hb : bl[m] with
              | false => rfl
              | true => rw [hb] at this; exact Bool.noConfusion this
          · exact False.elim P2
        · exact False.elim P2
      · exact False.elim P1
    · exact False.elim P1
end
end Vm

namespace Vm
open PySem PySem.Spec L2
/-- what the classes of the program say, C k the one that is caught -/
structure KindF (K : PySem.W.Frag) (mg : Str → Option Value) (C : Nat → Addr) (Tt : Addr) (k : Nat) : Prop where
  ex : ExcC' K (C k)
  own : ∀ p ∈ [(("NoPlace" : Str), 0), ("NoName", 1), ("Taken", 2), ("NoCall", 3), ("Unlike", 4), ("Clash", 5)], mg p.1 = some (.ref (C p.2)) ∧ PySem.W.kitOne K (.ref (C k)) (.ref (C p.2)) = some (decide (p.2 = k))
  teg : mg "TurnError" = some (.ref Tt)
  tek : PySem.W.kitOne K (.ref (C k)) (.ref Tt) = some true
  tex : PySem.W.exmOne K (.ref (C k)) (.ref Tt) = some true
  vek : PySem.W.kitOne K (.ref (C k)) (.type "ValueError") = some true
def kindT : Nat → Str
  | 0 => "place" | 1 => "name" | 2 => "taken" | 3 => "call" | 4 => "unlike" | 5 => "clash" | _ => "several"
section
variable {X : Cx} {W : XD} {fr : Bool}
/-- the suite `return e`, by the class of what is caught: no fields -/
theorem hsu_of {i : Nat} {nm : Str} {e : Expr} {pos : Pos} {a : Addr} {oe : Obj} {cls : Value} {d : Option Addr} {pn : List (Addr × Obj)} {hk : Nat → List PV → VSt → Res PV} (ks : List Nat) (hi : X.N[i]? = some nm)
    (hbad : ∀ c fs st, ¬ (c ∈ ks ∧ fs = []) → hk c fs st = .bad) (hx : ∀ c fs s c' fs' s', hk c fs s ≠ .ex c' fs' s') (inj : ∀ c ∈ ks, ∀ c' ∈ ks, W.C c = W.C c' → c = c')
    (h : ∀ k ∈ ks, cls = .ref (W.C k) → d = none → ∃ em, Ev (X.suite a ((a, oe) :: pn)) W.no fr e em ∧ ∀ env st, env[i]? = some (some (.raw a)) → em env st = hk k [] st) :
    PSs (X.suite a ((a, oe) :: pn)) [.Return (some e) pos] (tSuite X W fr i hk a cls d) := by
  have hiN : i < X.N.length := (List.getElem?_eq_some_iff.mp hi).1
  by_cases q : ∃ k, k ∈ ks ∧ cls = .ref (W.C k) ∧ d = none
  · obtain ⟨k, hk1, hcl, hd⟩ := q
    obtain ⟨em, E, ee⟩ := h k hk1 hcl hd
    refine PSs.antiI (evss_cons (evs_ret E) evss_nil) fun D σ H hl ⟨c, fs, hid, ρ, st, e1, hs, ha, S, x, P⟩ => ?_
    by_cases hb : c ∈ ks ∧ fs = []
    · obtain ⟨hc, rfl⟩ := hb
      have ec : c = k := inj c hc k hk1 (Value.ref.inj (e1.symm.trans hcl))
      subst ec
      have hiσ : i < σ.length := by rw [hl]; exact hiN
      have hσ := hs hiσ
      refine ⟨hid, ρ, (List.replicate σ.length none).set i (some (.raw a)), st, ⟨srel_wx (xd := W.no) S, by rw [List.length_set, List.length_replicate], fun j p ej => ?_⟩, ?_⟩
      · by_cases hij : i = j
        · subst hij
          rw [List.getElem?_set_self (by rw [List.length_replicate]; exact hiσ)] at ej
          cases ej
          exact ⟨_, hσ, rfl⟩
        · rw [List.getElem?_set_ne hij] at ej
          have := List.mem_of_getElem? ej
          rw [List.mem_replicate] at this
          cases this.2
      · unfold sCons sRet
        rw [ee _ st (by rw [List.getElem?_set_self (by rw [List.length_replicate]; exact hiσ)])]
        cases er : hk c [] st with
        | bad => rw [er] at P; exact P
        | ex c' fs' s' => exact absurd er (hx _ _ _ _ _ _)
        | ok p s =>
          rw [er] at P
          exact fun ρ' H' v l S' rp f => P ρ' H' v l (srel_wx (xd := W) S') (rep_wx (xd := W) _ _ rp) f
    · rw [hbad c fs st hb] at P
      exact P.elim
  · refine ⟨fun pins s σ H D I ⟨c, fs, hid, ρ, st, e1, hs, ha, S, x, P⟩ => ?_⟩
    by_cases hb : c ∈ ks ∧ fs = []
    · obtain ⟨hc, rfl⟩ := hb
      exact absurd ⟨c, hc, e1, x⟩ q
    · rw [hbad c fs st hb] at P
      exact P.elim
theorem kit_sub {K : PySem.W.Frag} {C E : Addr} {b : Bool} (ic : PySem.W.isClsIn K E = true) (tt : PySem.W.typeIn K (.ref E) = some (.type "type")) (self : PySem.W.subIn K (.ref C) (.ref C) = some true) (s : PySem.W.subIn K (.ref C) (.ref E) = some b) : PySem.W.kitOne K (.ref C) (.ref E) = some b := by
  unfold PySem.W.kitOne
  by_cases q : (Value.ref C == Value.ref E) = true
  · rw [if_pos q]
    have e : C = E := Value.ref.inj (beq_iff_eq.mp q)
    subst e
    rw [self] at s
    exact s
  · rw [if_neg q]
    unfold PySem.W.kitCls
    dsimp only
    rw [if_pos (by rw [tt]; unfold PySem.W.isClsIn at ic; rw [ic]; rfl)]
    exact s
theorem kit_bi {K : PySem.W.Frag} {C : Addr} (s : PySem.W.subIn K (.ref C) (.type "ValueError") = some true) : PySem.W.kitOne K (.ref C) (.type "ValueError") = some true := by
  unfold PySem.W.kitOne
  rw [if_neg (show ¬ ((Value.ref C == Value.type "ValueError") = true) from fun z => nomatch (beq_iff_eq.mp z))]
  unfold PySem.W.kitCls
  dsimp only
  rw [if_pos (by decide +kernel)]
  exact s
theorem exm_sub {K : PySem.W.Frag} {C E : Addr} {b : Bool} (hb : PySem.W.subIn K (.ref E) (.type "BaseException") = some true) (ic : PySem.W.isClsIn K E = true) (tt : PySem.W.typeIn K (.ref E) = some (.type "type")) (s : PySem.W.subIn K (.ref C) (.ref E) = some b) : PySem.W.exmOne K (.ref C) (.ref E) = some b := by
  show (if (PySem.W.subIn K (.ref E) (.type "BaseException") == some true) = true then (if ((PySem.W.clsIn K E).isSome && PySem.W.typeIn K (.ref E) == some (.type "type")) = true then PySem.W.subIn K (.ref C) (.ref E) else none) else none) = some b
  rw [if_pos (by rw [hb]; rfl), if_pos (by rw [tt]; unfold PySem.W.isClsIn at ic; rw [ic]; rfl)]
  exact s
theorem hot_of {cls : Value} {d : Option Addr} {oe : Obj} (hz : L2N.Zn cls d oe) (hf : ∃ vs, oe.data = .fields vs) : ∃ vs : Array Value, oe.data = .fields vs ∧ vs[2]? = some .none := by
  obtain ⟨vs, e⟩ := hf
  exact ⟨vs, e, hz.2.2 vs e⟩
theorem rm_of {n : Nat} {A : Around} {h : Option Value} (r : Room n A) : Rm (A.mark h) := ⟨by have := r.dp; show A.depth < _; omega, by have := r.un; show A.units + 100 < _; omega⟩
theorem kind_inj {K : PySem.W.Frag} {mg : Str → Option Value} {C : Nat → Addr} {Tt : Addr} {ks : List Nat} (h : ∀ k ∈ ks, KindF K mg C Tt k) (h6 : ∀ k ∈ ks, k < 6) : ∀ c ∈ ks, ∀ c' ∈ ks, C c = C c' → c = c' := fun c hc c' hc' e => by
  have h1 : ∀ j, j < 6 → PySem.W.kitOne K (.ref (C c)) (.ref (C j)) = some (decide (j = c)) := fun j hj => match j, hj with
    | 0, _ => ((h c hc).own ("NoPlace", 0) (by simp)).2
    | 1, _ => ((h c hc).own ("NoName", 1) (by simp)).2
    | 2, _ => ((h c hc).own ("Taken", 2) (by simp)).2
    | 3, _ => ((h c hc).own ("NoCall", 3) (by simp)).2
    | 4, _ => ((h c hc).own ("Unlike", 4) (by simp)).2
    | 5, _ => ((h c hc).own ("Clash", 5) (by simp)).2
    | k + 6, h => absurd h (by omega)
  have h2 := h1 c' (h6 c' hc')
  have h3 := h1 c (h6 c hc)
  rw [← e, h3] at h2
  exact (by simpa using h2.symm : c' = c).symm
end
end Vm

namespace Lk
open PySem PySem.Spec PyProof.Rows L2 Vm
/-! the text by places -/
def topS (i : Nat) : Stmt := PySem.Challenge.pw_safeturn_k04_places.main.body.getD i (.Pass ⟨0, 0, 0, 0⟩)
def nm : Nat → Str
  | 0 => "names_in"
  | 1 => "_note_names"
  | 2 => "own_terms"
  | 3 => "own_names"
  | 4 => "own_set"
  | 5 => "has_rows"
  | 6 => "rows_within"
  | 7 => "surely_set"
  | 8 => "_surely_set_by"
  | 9 => "first_read"
  | 10 => "_first_read_by"
  | 11 => "row_at"
  | 12 => "rows_from"
  | 13 => "_rows_around"
  | 14 => "needed"
  | 15 => "_needed_ahead"
  | 16 => "_law_cell"
  | 17 => "_law_mixed"
  | 18 => "_law_words"
  | 19 => "_law_term"
  | 20 => "_law_given"
  | 21 => "_law_call"
  | 22 => "_law_row"
  | 23 => "_law_rows"
  | 24 => "_law_looped"
  | 25 => "_law_function"
  | 26 => "_law_variables"
  | 27 => "_law_program"
  | 28 => "_law_block"
  | 29 => "_law_places"
  | 30 => "_law_all"
  | 31 => "_law_alike"
  | 32 => "_law_told"
  | 33 => "_law_none"
  | 34 => "law"
  | _ => "?"
def frs : Nat → Bool
  | 3 => true
  | _ => false
abbrev pr : Prg := ⟨nm, frs, 35, [("NoPlace", 0)]⟩
abbrev i_names_in : Nat := 0
abbrev i__note_names : Nat := 1
abbrev i_own_terms : Nat := 2
abbrev i_own_names : Nat := 3
abbrev i_own_set : Nat := 4
abbrev i_has_rows : Nat := 5
abbrev i_rows_within : Nat := 6
abbrev i_surely_set : Nat := 7
abbrev i__surely_set_by : Nat := 8
abbrev i_first_read : Nat := 9
abbrev i__first_read_by : Nat := 10
abbrev i_row_at : Nat := 11
abbrev i_rows_from : Nat := 12
abbrev i__rows_around : Nat := 13
abbrev i_needed : Nat := 14
abbrev i__needed_ahead : Nat := 15
abbrev i__law_cell : Nat := 16
abbrev i__law_mixed : Nat := 17
abbrev i__law_words : Nat := 18
abbrev i__law_term : Nat := 19
abbrev i__law_given : Nat := 20
abbrev i__law_call : Nat := 21
abbrev i__law_row : Nat := 22
abbrev i__law_rows : Nat := 23
abbrev i__law_looped : Nat := 24
abbrev i__law_function : Nat := 25
abbrev i__law_variables : Nat := 26
abbrev i__law_program : Nat := 27
abbrev i__law_block : Nat := 28
abbrev i__law_places : Nat := 29
abbrev i__law_all : Nat := 30
abbrev i__law_alike : Nat := 31
abbrev i__law_told : Nat := 32
abbrev i__law_none : Nat := 33
abbrev i_law : Nat := 34
abbrev bs : List Str := ["ValueError", "bool", "int", "isinstance", "len", "list", "range", "set", "sorted", "str", "tuple"]
abbrev cs : List (Str × Int) := []
/-! _law_kind: called with the exception that is handled -/
abbrev s__law_kind : Stmt := topS 46
abbrev N__law_kind : List Str := ["_law_error", "_law_found"]
def b_kind (p : Addr) (k : Nat) : SM :=
      (sCons (sSet 1 (eLst (aCons (eIsX p (decide (0 = k)) (eVar 0)) (aCons (eIsX p (decide (1 = k)) (eVar 0)) (aCons (eIsX p (decide (2 = k)) (eVar 0)) aNil)))))
      (sCons (sSet 1 (eBin vAdd (eVar 1) (eLst (aCons (eIsX p (decide (3 = k)) (eVar 0)) (aCons (eIsX p (decide (4 = k)) (eVar 0)) (aCons (eIsX p (decide (5 = k)) (eVar 0)) aNil))))))
      (sCons (sIf (eOr (eNot (eIsX p true (eVar 0))) (eOr (eNot (eIsX p true (eVar 0))) (eBin (vEqF true) (eCntT (eVar 1) (eC (.bl true))) (eC (.int 1)))))
      (sCons (sRet (eC (.str "several"))) sNil) sNil)
      (sCons (sRet (eBin vIx (eLst (aCons (eC (.str "place")) (aCons (eC (.str "name")) (aCons (eC (.str "taken")) (aCons (eC (.str "call")) (aCons (eC (.str "unlike")) (aCons (eC (.str "clash")) aNil))))))) (eIdxT (eVar 1) (eC (.bl true)))))
      sNil))))
abbrev d_kind (p : Addr) (k : Nat) : FnD := ⟨1, 2, false, fun _ => b_kind p k⟩
theorem sc__law_kind : FnScope N__law_kind ["_law_error"] (defScope s__law_kind) := ⟨rfl, rfl, rfl, by decide +kernel, rfl, by decide +kernel, by decide +kernel⟩
theorem ok_kind {P : Program} {w : World} {K : PySem.W.Frag} {mg : Str → Option Value} {base : Heap} {f : Addr} {fd : FuncData} {C : Nat → Addr} {T : Tbl} {Tt : Addr} {k : Nat} {p : Addr × Obj} (F : Fun K "_law_kind" "_law_kind" s__law_kind f fd) (kf : KindF K mg C Tt k) (hI : mg "isinstance" = none) (hV : mg "ValueError" = none)
    (hz : p.2.cls = .ref (C k)) (hd : p.2.dict = none) (hf : ∃ vs, p.2.data = .fields vs) : FnP P w K mg base (L2N.CX P w) f fd ["_law_error"] (spI P w K C false (callI (d_kind p.1 k) T)) p :=
  fnP_ok F sc__law_kind rfl rfl fun cdv A outer s H E hot hu => by
    have nd := sc__law_kind.nd
    have hp : p ∈ (L2H.cxH (L2N.CX P w) P w K mg base N__law_kind "_law_kind" (defScope s__law_kind) f cdv A outer s H E p).pn := List.mem_singleton.mpr rfl
    show EvSs _ _ _ _ (b_kind p.1 k)
    unfold b_kind
    exact (evss_cons (evs_set nd (ev_lst (eva_cons (ev_isx hp kf.ex hz hd hf (ev_var 0) (pe_glob (v := .ref (C 0)) rfl (kf.own ("NoPlace", 0) (by simp)).1 rfl) (.own _) (kf.own ("NoPlace", 0) (by simp)).2 hI) (eva_cons (ev_isx hp kf.ex hz hd hf (ev_var 0) (pe_glob (v := .ref (C 1)) rfl (kf.own ("NoName", 1) (by simp)).1 rfl) (.own _) (kf.own ("NoName", 1) (by simp)).2 hI) (eva_cons (ev_isx hp kf.ex hz hd hf (ev_var 0) (pe_glob (v := .ref (C 2)) rfl (kf.own ("Taken", 2) (by simp)).1 rfl) (.own _) (kf.own ("Taken", 2) (by simp)).2 hI) eva_nil)))))
      (evss_cons (evs_set nd (ev_op op_add4 os_add (ev_var 1) (ev_lst (eva_cons (ev_isx hp kf.ex hz hd hf (ev_var 0) (pe_glob (v := .ref (C 3)) rfl (kf.own ("NoCall", 3) (by simp)).1 rfl) (.own _) (kf.own ("NoCall", 3) (by simp)).2 hI) (eva_cons (ev_isx hp kf.ex hz hd hf (ev_var 0) (pe_glob (v := .ref (C 4)) rfl (kf.own ("Unlike", 4) (by simp)).1 rfl) (.own _) (kf.own ("Unlike", 4) (by simp)).2 hI) (eva_cons (ev_isx hp kf.ex hz hd hf (ev_var 0) (pe_glob (v := .ref (C 5)) rfl (kf.own ("Clash", 5) (by simp)).1 rfl) (.own _) (kf.own ("Clash", 5) (by simp)).2 hI) eva_nil))))))
      (evss_cons (evs_if (evw_pt (evw_or (evt_not (evt_val (ev_isx hp kf.ex hz hd hf (ev_var 0) (pe_glob (v := .ref Tt) rfl kf.teg rfl) (.own _) kf.tek hI))) (evw_or (evt_not (evt_val (ev_isx hp kf.ex hz hd hf (ev_var 0) (pe_bltn (v := .ty "ValueError") rfl hV rfl rfl) (.ty _) kf.vek hI))) (evw_or1 (evt_cmp (op_ne3 hu) (OpSem.weak os_eq) (ev_cntT (ev_var 1) ev_bl) ev_int)))))
      (evss_cons (evs_ret (Ev.weak ev_str)) evss_nil) evss_nil)
      (evss_cons (evs_ret (Ev.weak (ev_ix (ix_4 hu) os_ix (ev_lst (eva_cons ev_str (eva_cons ev_str (eva_cons ev_str (eva_cons ev_str (eva_cons ev_str (eva_cons ev_str eva_nil))))))) (ev_idxT (ev_var 1) ev_bl))))
      evss_nil))))
theorem kind_res (p : Addr) (k : Nat) (hk : k < 6) (T : Tbl) (st : VSt) : callI (d_kind p k) T [.raw p] st = .ok (.str (kindT k)) st := by
  have h : ∀ k, k < 6 → callI (d_kind p k) T [.raw p] st = .ok (.str (kindT k)) (st.take st.length) := fun k hk => match k, hk with
    | 0, _ | 1, _ | 2, _ | 3, _ | 4, _ | 5, _ => by
      show endI false st.length (b_kind p _ [some (.raw p), none] st) = _
      simp -implicitDefEqProofs [b_kind, x_scons, x_set, x_lst, x_cons, x_nil, x_var, eIsX, bind_ok, mkLst, s_ok, sb_nx, x_bin, v_addl, x_sif, x_or, x_not, onB_bl, onBS_bl, eCntT, eIdxT, blsOf, x_c, v_nei, v_ixl, opt_some, x_ret, endI, oldLoc, freeze, kindT, atI, x_snil, sb_rt, List.idxOf, List.findIdx, List.findIdx.go, List.count, ixN]
    | k + 6, h => absurd h (by omega)
  rw [h k hk, List.take_length]
def kks : List Nat := [0]
def hk_told : Nat → List PV → VSt → Res PV := fun c fs s => if (kks.contains c && fs.isEmpty) = true then .ok (.str (kindT c)) s else .bad
theorem hk_bad (c : Nat) (fs : List PV) (st : VSt) (h : ¬ (c ∈ kks ∧ fs = [])) : hk_told c fs st = .bad := if_neg fun z => h (by simpa using z)
theorem hk_nx (c : Nat) (fs : List PV) (s : VSt) (c' : Nat) (fs' : List PV) (s' : VSt) : hk_told c fs s ≠ .ex c' fs' s' := by
  unfold hk_told
  split <;> exact fun z => nomatch z
theorem hk_exm {K : PySem.W.Frag} {mg : Str → Option Value} {C : Nat → Addr} {Tt : Addr} (kf : ∀ k ∈ kks, KindF K mg C Tt k) (c : Nat) (fs : List PV) (s : VSt) (h : hk_told c fs s ≠ .bad) : PySem.W.exmOne K (.ref (C c)) (.ref Tt) = some true := by
  by_cases q : c ∈ kks ∧ fs = []
  · exact (kf c q.1).tex
  · exact absurd (hk_bad c fs s q) h
theorem hk_eq {i : Nat} {env : VEnv} {st : VSt} {a : Addr} {k : Nat} {T : Tbl} (h : env[i]? = some (some (.raw a))) (hk : k ∈ kks) : eApp (callI (d_kind a k) T) (aCons (eVar i) aNil) env st = hk_told k [] st := by
  have e : hk_told k [] st = .ok (.str (kindT k)) st := if_pos (by simpa using hk)
  rw [e, x_app, x_cons, x_var, h]
  exact kind_res a k ((by decide : ∀ k ∈ kks, k < 6) k hk) T st
structure KAll (K : PySem.W.Frag) (mg : Str → Option Value) (C : Nat → Addr) : Prop where
  ex : ∃ (Tt fk : Addr) (fd : FuncData), mg "TurnError" = some (.ref Tt) ∧ mg "_law_kind" = some (.ref fk) ∧ PySem.W.keepIn K (.ref fk) = true ∧ Binds K fd ["_law_error"] [] ∧ Fun K "_law_kind" "_law_kind" s__law_kind fk fd ∧ ∀ k ∈ kks, KindF K mg C Tt k
/-! names_in -/
abbrev s_names_in : Stmt := topS 9
abbrev N_names_in : List Str := ["term", "found"]
def b_names_in (T : Tbl) : SM :=
      (sCons (sSet 1 (eBox (fun _ st => .ok (.dct [] []) st)))
      (sCons (sExpr (eApp (T i__note_names) (aCons (eVar 0) (aCons (eVar 1) aNil))))
      (sCons (sRet (eApp vListA (aCons (eVar 1) aNil)))
      sNil)))
def q_names_in_0 (T : Tbl) : SM :=
      (sSet 1 (eBox (fun _ st => .ok (.dct [] []) st)))
def q_names_in_1 (T : Tbl) : SM :=
      (sExpr (eApp (T i__note_names) (aCons (eVar 0) (aCons (eVar 1) aNil))))
def q_names_in_2 (T : Tbl) : SM :=
      (sRet (eApp vListA (aCons (eVar 1) aNil)))
theorem b_names_in_q (T : Tbl) : b_names_in T = (sCons (q_names_in_0 T) (sCons (q_names_in_1 T) (sCons (q_names_in_2 T) sNil))) := rfl
abbrev d_names_in : FnD := ⟨1, 2, false, b_names_in⟩
theorem sc_names_in : FnScope N_names_in ["term"] (defScope s_names_in) := ⟨rfl, rfl, rfl, by decide +kernel, rfl, by decide +kernel, by decide +kernel⟩
theorem ok_names_in {P : Program} {w : World} {K : PySem.W.Frag} {mg : Str → Option Value} {base : Heap} {f : Addr} {fd : FuncData} {n : Nat} {T : Tbl} {C : Nat → Addr} (F : Fun K "names_in" "names_in" s_names_in f fd) (hB : ∀ x ∈ bs, mg x = none) (hC : ∀ p ∈ cs, ∃ u, mg p.1 = some u ∧ RelV (.int p.2) u)
    (hX : ∀ p ∈ pr.xs, ExF K mg p.1 (C p.2)) (hF : FnAt P w K mg base C pr T n) : FnOk P w K mg base (L2N.CX P w) (n + 1) f fd ["term"] (spI P w K C (pr.fr 0) (callI d_names_in T)) :=
  fn_ok F sc_names_in rfl rfl fun cdv A outer s H E hr => by
    have c : Cok (cxOf (L2N.CX P w) P w K mg base N_names_in "names_in" (defScope s_names_in) f cdv A outer s H E) ⟨C, E⟩ pr T n bs cs := ⟨rfl, sc_names_in.nd, hr, hF, hB, hC, L2N.takes_of rfl rfl rfl rfl, L2.passes_of rfl, hX⟩
    show EvSs _ _ _ _ (b_names_in T)
    unfold b_names_in
    exact (evss_cons (evs_set c.nd (ev_box ev_dnew))
      (evss_cons (evs_expr (ev_call c i__note_names (eva_cons (ev_var 0) (eva_cons (ev_var 1) eva_nil))))
      (evss_cons (evs_ret (Ev.weak (ev_callTy (call_listA c.calm) cs_listA (c.blt "list" (List.mem_of_getElem? (i := 5) rfl)) boot_list (eva_cons (ev_var 1) eva_nil))))
      evss_nil)))

/-! _note_names -/
abbrev s__note_names : Stmt := topS 10
abbrev N__note_names : List Str := ["term", "found", "kind"]
def b__note_names (T : Tbl) : SM :=
      (sCons (sSet 2 (eBin vIx (eVar 0) (eC (.int 0))))
      (sCons (sIf (eBin (vEqF false) (eVar 2) (eC (.str "name")))
      (sCons (sPut (eVar 1) (eBin vIx (eVar 0) (eC (.int 1))) (eC (.bl true)))
      sNil)
      (sCons (sIf (eBin (vEqF true) (eVar 2) (eC (.str "num")))
      (sCons (sExpr (eApp (T i__note_names) (aCons (eBin vIx (eVar 0) (eC (.int 1))) (aCons (eVar 1) aNil))))
      (sCons (sExpr (eApp (T i__note_names) (aCons (eBin vIx (eVar 0) (eC (.int 2))) (aCons (eVar 1) aNil))))
      sNil))
      sNil)
      sNil))
      sNil))
def q__note_names_0 (T : Tbl) : SM :=
      (sSet 2 (eBin vIx (eVar 0) (eC (.int 0))))
def q__note_names_1 (T : Tbl) : SM :=
      (sIf (eBin (vEqF false) (eVar 2) (eC (.str "name")))
      (sCons (sPut (eVar 1) (eBin vIx (eVar 0) (eC (.int 1))) (eC (.bl true)))
      sNil)
      (sCons (sIf (eBin (vEqF true) (eVar 2) (eC (.str "num")))
      (sCons (sExpr (eApp (T i__note_names) (aCons (eBin vIx (eVar 0) (eC (.int 1))) (aCons (eVar 1) aNil))))
      (sCons (sExpr (eApp (T i__note_names) (aCons (eBin vIx (eVar 0) (eC (.int 2))) (aCons (eVar 1) aNil))))
      sNil))
      sNil)
      sNil))
theorem b__note_names_q (T : Tbl) : b__note_names T = (sCons (q__note_names_0 T) (sCons (q__note_names_1 T) sNil)) := rfl
abbrev d__note_names : FnD := ⟨2, 3, false, b__note_names⟩
theorem sc__note_names : FnScope N__note_names ["term", "found"] (defScope s__note_names) := ⟨rfl, rfl, rfl, by decide +kernel, rfl, by decide +kernel, by decide +kernel⟩
theorem ok__note_names {P : Program} {w : World} {K : PySem.W.Frag} {mg : Str → Option Value} {base : Heap} {f : Addr} {fd : FuncData} {n : Nat} {T : Tbl} {C : Nat → Addr} (F : Fun K "_note_names" "_note_names" s__note_names f fd) (hB : ∀ x ∈ bs, mg x = none) (hC : ∀ p ∈ cs, ∃ u, mg p.1 = some u ∧ RelV (.int p.2) u)
    (hX : ∀ p ∈ pr.xs, ExF K mg p.1 (C p.2)) (hF : FnAt P w K mg base C pr T n) : FnOk P w K mg base (L2N.CX P w) (n + 1) f fd ["term", "found"] (spI P w K C (pr.fr 1) (callI d__note_names T)) :=
  fn_ok F sc__note_names rfl rfl fun cdv A outer s H E hr => by
    have c : Cok (cxOf (L2N.CX P w) P w K mg base N__note_names "_note_names" (defScope s__note_names) f cdv A outer s H E) ⟨C, E⟩ pr T n bs cs := ⟨rfl, sc__note_names.nd, hr, hF, hB, hC, L2N.takes_of rfl rfl rfl rfl, L2.passes_of rfl, hX⟩
    show EvSs _ _ _ _ (b__note_names T)
    unfold b__note_names
    exact (evss_cons (evs_set c.nd (ev_ix (ix_4 c.u) os_ix (ev_var 0) ev_int))
      (evss_cons (evs_if (evt_cmp (op_eq3 c.u) (OpSem.weak os_eq) (ev_var 2) ev_str)
      (evss_cons (evs_put c.u (ev_var 1) (ev_ix (ix_4 c.u) os_ix (ev_var 0) ev_int) ev_bl)
      evss_nil)
      (evss_cons (evs_if (evt_cmp (op_ne3 c.u) (OpSem.weak os_eq) (ev_var 2) ev_str)
      (evss_cons (evs_expr (ev_call c i__note_names (eva_cons (ev_ix (ix_4 c.u) os_ix (ev_var 0) ev_int) (eva_cons (ev_var 1) eva_nil))))
      (evss_cons (evs_expr (ev_call c i__note_names (eva_cons (ev_ix (ix_4 c.u) os_ix (ev_var 0) ev_int) (eva_cons (ev_var 1) eva_nil))))
      evss_nil))
      evss_nil)
      evss_nil))
      evss_nil))

/-! own_terms -/
abbrev s_own_terms : Stmt := topS 12
abbrev N_own_terms : List Str := ["row", "kind"]
def b_own_terms (T : Tbl) : SM :=
      (sCons (sSet 1 (eBin vIx (eVar 0) (eC (.int 0))))
      (sCons (sIf (eBin (vEqF false) (eVar 1) (eC (.str "set")))
      (sCons (sRet (eTup (aCons (eBin vIx (eVar 0) (eC (.int 2))) aNil)))
      sNil)
      sNil)
      (sCons (sIf (eBin (vEqF false) (eVar 1) (eC (.str "call")))
      (sCons (sRet (eBin vIx (eVar 0) (eC (.int 3))))
      sNil)
      sNil)
      (sCons (sIf (eBin (vEqF false) (eVar 1) (eC (.str "again")))
      (sCons (sRet (eTup aNil))
      sNil)
      sNil)
      (sCons (sRet (eTup (aCons (eBin vIx (eVar 0) (eC (.int 1))) aNil)))
      sNil)))))
def q_own_terms_0 (T : Tbl) : SM :=
      (sSet 1 (eBin vIx (eVar 0) (eC (.int 0))))
def q_own_terms_1 (T : Tbl) : SM :=
      (sIf (eBin (vEqF false) (eVar 1) (eC (.str "set")))
      (sCons (sRet (eTup (aCons (eBin vIx (eVar 0) (eC (.int 2))) aNil)))
      sNil)
      sNil)
def q_own_terms_2 (T : Tbl) : SM :=
      (sIf (eBin (vEqF false) (eVar 1) (eC (.str "call")))
      (sCons (sRet (eBin vIx (eVar 0) (eC (.int 3))))
      sNil)
      sNil)
def q_own_terms_3 (T : Tbl) : SM :=
      (sIf (eBin (vEqF false) (eVar 1) (eC (.str "again")))
      (sCons (sRet (eTup aNil))
      sNil)
      sNil)
def q_own_terms_4 (T : Tbl) : SM :=
      (sRet (eTup (aCons (eBin vIx (eVar 0) (eC (.int 1))) aNil)))
theorem b_own_terms_q (T : Tbl) : b_own_terms T = (sCons (q_own_terms_0 T) (sCons (q_own_terms_1 T) (sCons (q_own_terms_2 T) (sCons (q_own_terms_3 T) (sCons (q_own_terms_4 T) sNil))))) := rfl
abbrev d_own_terms : FnD := ⟨1, 2, false, b_own_terms⟩
theorem sc_own_terms : FnScope N_own_terms ["row"] (defScope s_own_terms) := ⟨rfl, rfl, rfl, by decide +kernel, rfl, by decide +kernel, by decide +kernel⟩
theorem ok_own_terms {P : Program} {w : World} {K : PySem.W.Frag} {mg : Str → Option Value} {base : Heap} {f : Addr} {fd : FuncData} {n : Nat} {T : Tbl} {C : Nat → Addr} (F : Fun K "own_terms" "own_terms" s_own_terms f fd) (hB : ∀ x ∈ bs, mg x = none) (hC : ∀ p ∈ cs, ∃ u, mg p.1 = some u ∧ RelV (.int p.2) u)
    (hX : ∀ p ∈ pr.xs, ExF K mg p.1 (C p.2)) (hF : FnAt P w K mg base C pr T n) : FnOk P w K mg base (L2N.CX P w) (n + 1) f fd ["row"] (spI P w K C (pr.fr 2) (callI d_own_terms T)) :=
  fn_ok F sc_own_terms rfl rfl fun cdv A outer s H E hr => by
    have c : Cok (cxOf (L2N.CX P w) P w K mg base N_own_terms "own_terms" (defScope s_own_terms) f cdv A outer s H E) ⟨C, E⟩ pr T n bs cs := ⟨rfl, sc_own_terms.nd, hr, hF, hB, hC, L2N.takes_of rfl rfl rfl rfl, L2.passes_of rfl, hX⟩
    show EvSs _ _ _ _ (b_own_terms T)
    unfold b_own_terms
    exact (evss_cons (evs_set c.nd (ev_ix (ix_4 c.u) os_ix (ev_var 0) ev_int))
      (evss_cons (evs_if (evt_cmp (op_eq3 c.u) (OpSem.weak os_eq) (ev_var 1) ev_str)
      (evss_cons (evs_ret (Ev.weak (ev_tup (eva_cons (ev_ix (ix_4 c.u) os_ix (ev_var 0) ev_int) eva_nil))))
      evss_nil)
      evss_nil)
      (evss_cons (evs_if (evt_cmp (op_eq3 c.u) (OpSem.weak os_eq) (ev_var 1) ev_str)
      (evss_cons (evs_ret (Ev.weak (ev_ix (ix_4 c.u) os_ix (ev_var 0) ev_int)))
      evss_nil)
      evss_nil)
      (evss_cons (evs_if (evt_cmp (op_eq3 c.u) (OpSem.weak os_eq) (ev_var 1) ev_str)
      (evss_cons (evs_ret (Ev.weak (ev_tup eva_nil)))
      evss_nil)
      evss_nil)
      (evss_cons (evs_ret (Ev.weak (ev_tup (eva_cons (ev_ix (ix_4 c.u) os_ix (ev_var 0) ev_int) eva_nil))))
      evss_nil)))))

/-! own_names -/
abbrev s_own_names : Stmt := topS 13
abbrev N_own_names : List Str := ["row", "term", "name"]
def b_own_names (T : Tbl) : SM :=
      (sCons (sRet (eComp2 (iSeq (eApp (T i_own_terms) (aCons (eVar 0) aNil))) (gName 1) (iSeq (eApp (T i_names_in) (aCons (eVar 1) aNil))) (gName 2) (eVar 2) [1, 2] [2]))
      sNil)
def q_own_names_0 (T : Tbl) : SM :=
      (sRet (eComp2 (iSeq (eApp (T i_own_terms) (aCons (eVar 0) aNil))) (gName 1) (iSeq (eApp (T i_names_in) (aCons (eVar 1) aNil))) (gName 2) (eVar 2) [1, 2] [2]))
theorem b_own_names_q (T : Tbl) : b_own_names T = (sCons (q_own_names_0 T) sNil) := rfl
abbrev d_own_names : FnD := ⟨1, 3, true, b_own_names⟩
theorem sc_own_names : FnScope N_own_names ["row"] (defScope s_own_names) := ⟨rfl, rfl, rfl, by decide +kernel, rfl, by decide +kernel, by decide +kernel⟩
theorem ok_own_names {P : Program} {w : World} {K : PySem.W.Frag} {mg : Str → Option Value} {base : Heap} {f : Addr} {fd : FuncData} {n : Nat} {T : Tbl} {C : Nat → Addr} (F : Fun K "own_names" "own_names" s_own_names f fd) (hB : ∀ x ∈ bs, mg x = none) (hC : ∀ p ∈ cs, ∃ u, mg p.1 = some u ∧ RelV (.int p.2) u)
    (hX : ∀ p ∈ pr.xs, ExF K mg p.1 (C p.2)) (hF : FnAt P w K mg base C pr T n) : FnOk P w K mg base (L2N.CX P w) (n + 1) f fd ["row"] (spI P w K C (pr.fr 3) (callI d_own_names T)) :=
  fn_ok F sc_own_names rfl rfl fun cdv A outer s H E hr => by
    have c : Cok (cxOf (L2N.CX P w) P w K mg base N_own_names "own_names" (defScope s_own_names) f cdv A outer s H E) ⟨C, E⟩ pr T n bs cs := ⟨rfl, sc_own_names.nd, hr, hF, hB, hC, L2N.takes_of rfl rfl rfl rfl, L2.passes_of rfl, hX⟩
    show EvSs _ _ _ _ (b_own_names T)
    unfold b_own_names
    exact (evss_cons (evs_ret (ev_comp2C [("term", 1), ("name", 2)] [2] c (evi_seq (ev_call c i_own_terms (eva_cons (ev_var 0) eva_nil))) (blkOk_by (own := [("term", 1), ("name", 2)]) (N := N_own_names) (sc := defScope s_own_names) (by decide +kernel)) (by decide) (fun _ _ _ _ _ c => (evg_name c.nd)) (fun _ _ _ _ _ c => (evi_seq (ev_call c i_names_in (eva_cons (ev_var 1) eva_nil)))) (fun _ _ _ _ _ c => (evg_name c.nd)) (fun _ _ _ _ _ c => (ev_var 2))))
      evss_nil)

/-! own_set -/
abbrev s_own_set : Stmt := topS 14
abbrev N_own_set : List Str := ["row"]
def b_own_set (T : Tbl) : SM :=
      (sCons (sIf (eOr (eBin (vEqF false) (eBin vIx (eVar 0) (eC (.int 0))) (eC (.str "set"))) (eBin (vEqF false) (eBin vIx (eVar 0) (eC (.int 0))) (eC (.str "call"))))
      (sCons (sRet (eBin vIx (eVar 0) (eC (.int 1))))
      sNil)
      sNil)
      (sCons (sRet (eC .non))
      sNil))
def q_own_set_0 (T : Tbl) : SM :=
      (sIf (eOr (eBin (vEqF false) (eBin vIx (eVar 0) (eC (.int 0))) (eC (.str "set"))) (eBin (vEqF false) (eBin vIx (eVar 0) (eC (.int 0))) (eC (.str "call"))))
      (sCons (sRet (eBin vIx (eVar 0) (eC (.int 1))))
      sNil)
      sNil)
def q_own_set_1 (T : Tbl) : SM :=
      (sRet (eC .non))
theorem b_own_set_q (T : Tbl) : b_own_set T = (sCons (q_own_set_0 T) (sCons (q_own_set_1 T) sNil)) := rfl
abbrev d_own_set : FnD := ⟨1, 1, false, b_own_set⟩
theorem sc_own_set : FnScope N_own_set ["row"] (defScope s_own_set) := ⟨rfl, rfl, rfl, by decide +kernel, rfl, by decide +kernel, by decide +kernel⟩
theorem ok_own_set {P : Program} {w : World} {K : PySem.W.Frag} {mg : Str → Option Value} {base : Heap} {f : Addr} {fd : FuncData} {n : Nat} {T : Tbl} {C : Nat → Addr} (F : Fun K "own_set" "own_set" s_own_set f fd) (hB : ∀ x ∈ bs, mg x = none) (hC : ∀ p ∈ cs, ∃ u, mg p.1 = some u ∧ RelV (.int p.2) u)
    (hX : ∀ p ∈ pr.xs, ExF K mg p.1 (C p.2)) (hF : FnAt P w K mg base C pr T n) : FnOk P w K mg base (L2N.CX P w) (n + 1) f fd ["row"] (spI P w K C (pr.fr 4) (callI d_own_set T)) :=
  fn_ok F sc_own_set rfl rfl fun cdv A outer s H E hr => by
    have c : Cok (cxOf (L2N.CX P w) P w K mg base N_own_set "own_set" (defScope s_own_set) f cdv A outer s H E) ⟨C, E⟩ pr T n bs cs := ⟨rfl, sc_own_set.nd, hr, hF, hB, hC, L2N.takes_of rfl rfl rfl rfl, L2.passes_of rfl, hX⟩
    show EvSs _ _ _ _ (b_own_set T)
    unfold b_own_set
    exact (evss_cons (evs_if (evw_pt (evw_or (evt_cmp (op_eq3 c.u) (OpSem.weak os_eq) (ev_ix (ix_4 c.u) os_ix (ev_var 0) ev_int) ev_str) (evw_or1 (evt_cmp (op_eq3 c.u) (OpSem.weak os_eq) (ev_ix (ix_4 c.u) os_ix (ev_var 0) ev_int) ev_str))))
      (evss_cons (evs_ret (Ev.weak (ev_ix (ix_4 c.u) os_ix (ev_var 0) ev_int)))
      evss_nil)
      evss_nil)
      (evss_cons (evs_ret (Ev.weak ev_non))
      evss_nil))

/-! has_rows -/
abbrev s_has_rows : Stmt := topS 15
abbrev N_has_rows : List Str := ["row"]
def b_has_rows (T : Tbl) : SM :=
      (sCons (sRet (eOr (eBin (vEqF false) (eBin vIx (eVar 0) (eC (.int 0))) (eC (.str "when"))) (eBin (vEqF false) (eBin vIx (eVar 0) (eC (.int 0))) (eC (.str "again")))))
      sNil)
def q_has_rows_0 (T : Tbl) : SM :=
      (sRet (eOr (eBin (vEqF false) (eBin vIx (eVar 0) (eC (.int 0))) (eC (.str "when"))) (eBin (vEqF false) (eBin vIx (eVar 0) (eC (.int 0))) (eC (.str "again")))))
theorem b_has_rows_q (T : Tbl) : b_has_rows T = (sCons (q_has_rows_0 T) sNil) := rfl
abbrev d_has_rows : FnD := ⟨1, 1, false, b_has_rows⟩
theorem sc_has_rows : FnScope N_has_rows ["row"] (defScope s_has_rows) := ⟨rfl, rfl, rfl, by decide +kernel, rfl, by decide +kernel, by decide +kernel⟩
theorem ok_has_rows {P : Program} {w : World} {K : PySem.W.Frag} {mg : Str → Option Value} {base : Heap} {f : Addr} {fd : FuncData} {n : Nat} {T : Tbl} {C : Nat → Addr} (F : Fun K "has_rows" "has_rows" s_has_rows f fd) (hB : ∀ x ∈ bs, mg x = none) (hC : ∀ p ∈ cs, ∃ u, mg p.1 = some u ∧ RelV (.int p.2) u)
    (hX : ∀ p ∈ pr.xs, ExF K mg p.1 (C p.2)) (hF : FnAt P w K mg base C pr T n) : FnOk P w K mg base (L2N.CX P w) (n + 1) f fd ["row"] (spI P w K C (pr.fr 5) (callI d_has_rows T)) :=
  fn_ok F sc_has_rows rfl rfl fun cdv A outer s H E hr => by
    have c : Cok (cxOf (L2N.CX P w) P w K mg base N_has_rows "has_rows" (defScope s_has_rows) f cdv A outer s H E) ⟨C, E⟩ pr T n bs cs := ⟨rfl, sc_has_rows.nd, hr, hF, hB, hC, L2N.takes_of rfl rfl rfl rfl, L2.passes_of rfl, hX⟩
    show EvSs _ _ _ _ (b_has_rows T)
    unfold b_has_rows
    exact (evss_cons (evs_ret (Ev.weak (ev_or (ev_cmp (op_eq3 c.u) os_eq (ev_ix (ix_4 c.u) os_ix (ev_var 0) ev_int) ev_str) (ev_one (ev_cmp (op_eq3 c.u) os_eq (ev_ix (ix_4 c.u) os_ix (ev_var 0) ev_int) ev_str)))))
      evss_nil)

/-! rows_within -/
abbrev s_rows_within : Stmt := topS 16
abbrev N_rows_within : List Str := ["row"]
def b_rows_within (T : Tbl) : SM :=
      (sCons (sRet (eIf (eApp (T i_has_rows) (aCons (eVar 0) aNil)) (eBin vIx (eVar 0) (eC (.int 2))) (eTup aNil)))
      sNil)
def q_rows_within_0 (T : Tbl) : SM :=
      (sRet (eIf (eApp (T i_has_rows) (aCons (eVar 0) aNil)) (eBin vIx (eVar 0) (eC (.int 2))) (eTup aNil)))
theorem b_rows_within_q (T : Tbl) : b_rows_within T = (sCons (q_rows_within_0 T) sNil) := rfl
abbrev d_rows_within : FnD := ⟨1, 1, false, b_rows_within⟩
theorem sc_rows_within : FnScope N_rows_within ["row"] (defScope s_rows_within) := ⟨rfl, rfl, rfl, by decide +kernel, rfl, by decide +kernel, by decide +kernel⟩
theorem ok_rows_within {P : Program} {w : World} {K : PySem.W.Frag} {mg : Str → Option Value} {base : Heap} {f : Addr} {fd : FuncData} {n : Nat} {T : Tbl} {C : Nat → Addr} (F : Fun K "rows_within" "rows_within" s_rows_within f fd) (hB : ∀ x ∈ bs, mg x = none) (hC : ∀ p ∈ cs, ∃ u, mg p.1 = some u ∧ RelV (.int p.2) u)
    (hX : ∀ p ∈ pr.xs, ExF K mg p.1 (C p.2)) (hF : FnAt P w K mg base C pr T n) : FnOk P w K mg base (L2N.CX P w) (n + 1) f fd ["row"] (spI P w K C (pr.fr 6) (callI d_rows_within T)) :=
  fn_ok F sc_rows_within rfl rfl fun cdv A outer s H E hr => by
    have c : Cok (cxOf (L2N.CX P w) P w K mg base N_rows_within "rows_within" (defScope s_rows_within) f cdv A outer s H E) ⟨C, E⟩ pr T n bs cs := ⟨rfl, sc_rows_within.nd, hr, hF, hB, hC, L2N.takes_of rfl rfl rfl rfl, L2.passes_of rfl, hX⟩
    show EvSs _ _ _ _ (b_rows_within T)
    unfold b_rows_within
    exact (evss_cons (evs_ret (Ev.weak (ev_if (evt_val (ev_call c i_has_rows (eva_cons (ev_var 0) eva_nil))) (Ev.weak (ev_ix (ix_4 c.u) os_ix (ev_var 0) ev_int)) (Ev.weak (ev_tup eva_nil)))))
      evss_nil)

/-! surely_set -/
abbrev s_surely_set : Stmt := topS 17
abbrev N_surely_set : List Str := ["rows", "found", "row"]
def fb_surely_set_0 (T : Tbl) : SM :=
      (sCons (sExt (eVar 1) (eApp (T i__surely_set_by) (aCons (eVar 2) aNil)))
      sNil)
def b_surely_set (T : Tbl) : SM :=
      (sCons (sSet 1 (eBox (eLst aNil)))
      (sCons (sFor (iSeq (eVar 0)) (gName 2) (fb_surely_set_0 T))
      (sCons (sRet (eApp vSorted (aCons (eApp vSet (aCons (eVar 1) aNil)) aNil)))
      sNil)))
def q_surely_set_0 (T : Tbl) : SM :=
      (sSet 1 (eBox (eLst aNil)))
def q_surely_set_1 (T : Tbl) : SM :=
      (sFor (iSeq (eVar 0)) (gName 2) (fb_surely_set_0 T))
def q_surely_set_2 (T : Tbl) : SM :=
      (sRet (eApp vSorted (aCons (eApp vSet (aCons (eVar 1) aNil)) aNil)))
theorem b_surely_set_q (T : Tbl) : b_surely_set T = (sCons (q_surely_set_0 T) (sCons (q_surely_set_1 T) (sCons (q_surely_set_2 T) sNil))) := rfl
abbrev d_surely_set : FnD := ⟨1, 3, false, b_surely_set⟩
theorem sc_surely_set : FnScope N_surely_set ["rows"] (defScope s_surely_set) := ⟨rfl, rfl, rfl, by decide +kernel, rfl, by decide +kernel, by decide +kernel⟩
theorem ok_surely_set {P : Program} {w : World} {K : PySem.W.Frag} {mg : Str → Option Value} {base : Heap} {f : Addr} {fd : FuncData} {n : Nat} {T : Tbl} {C : Nat → Addr} (F : Fun K "surely_set" "surely_set" s_surely_set f fd) (hB : ∀ x ∈ bs, mg x = none) (hC : ∀ p ∈ cs, ∃ u, mg p.1 = some u ∧ RelV (.int p.2) u)
    (hX : ∀ p ∈ pr.xs, ExF K mg p.1 (C p.2)) (hF : FnAt P w K mg base C pr T n) : FnOk P w K mg base (L2N.CX P w) (n + 1) f fd ["rows"] (spI P w K C (pr.fr 7) (callI d_surely_set T)) :=
  fn_ok F sc_surely_set rfl rfl fun cdv A outer s H E hr => by
    have c : Cok (cxOf (L2N.CX P w) P w K mg base N_surely_set "surely_set" (defScope s_surely_set) f cdv A outer s H E) ⟨C, E⟩ pr T n bs cs := ⟨rfl, sc_surely_set.nd, hr, hF, hB, hC, L2N.takes_of rfl rfl rfl rfl, L2.passes_of rfl, hX⟩
    show EvSs _ _ _ _ (b_surely_set T)
    unfold b_surely_set fb_surely_set_0
    exact (evss_cons (evs_set c.nd (ev_box (ev_lst eva_nil)))
      (evss_cons (evs_for (vs := [2]) c.po c.calm (evi_seq (ev_var 0)) (evg_name c.nd)
      (evss_cons (evs_ext (ev_var 1) (ev_call c i__surely_set_by (eva_cons (ev_var 2) eva_nil)))
      evss_nil))
      (evss_cons (evs_ret (Ev.weak (ev_callB (call_sorted3 c.calm) cs_sorted (c.blt "sorted" (List.mem_of_getElem? (i := 8) rfl)) PyProof.Rows.boot_sorted (eva_cons (ev_callTy (call_set1 c.calm) cs_set (c.blt "set" (List.mem_of_getElem? (i := 7) rfl)) boot_set (eva_cons (ev_var 1) eva_nil)) eva_nil))))
      evss_nil)))

/-! _surely_set_by -/
abbrev s__surely_set_by : Stmt := topS 18
abbrev N__surely_set_by : List Str := ["row", "own"]
def b__surely_set_by (T : Tbl) : SM :=
      (sCons (sIf (eAnd (eBin (vEqF false) (eBin vIx (eVar 0) (eC (.int 0))) (eC (.str "again"))) (eBin vGt (eBin vIx (eVar 0) (eC (.int 1))) (eC (.int 0))))
      (sCons (sRet (eApp (T i_surely_set) (aCons (eBin vIx (eVar 0) (eC (.int 2))) aNil)))
      sNil)
      sNil)
      (sCons (sSet 1 (eApp (T i_own_set) (aCons (eVar 0) aNil)))
      (sCons (sRet (eIf (eBin (vIsN false) (eVar 1) (eC .non)) (eLst aNil) (eLst (aCons (eVar 1) aNil))))
      sNil)))
def q__surely_set_by_0 (T : Tbl) : SM :=
      (sIf (eAnd (eBin (vEqF false) (eBin vIx (eVar 0) (eC (.int 0))) (eC (.str "again"))) (eBin vGt (eBin vIx (eVar 0) (eC (.int 1))) (eC (.int 0))))
      (sCons (sRet (eApp (T i_surely_set) (aCons (eBin vIx (eVar 0) (eC (.int 2))) aNil)))
      sNil)
      sNil)
def q__surely_set_by_1 (T : Tbl) : SM :=
      (sSet 1 (eApp (T i_own_set) (aCons (eVar 0) aNil)))
def q__surely_set_by_2 (T : Tbl) : SM :=
      (sRet (eIf (eBin (vIsN false) (eVar 1) (eC .non)) (eLst aNil) (eLst (aCons (eVar 1) aNil))))
theorem b__surely_set_by_q (T : Tbl) : b__surely_set_by T = (sCons (q__surely_set_by_0 T) (sCons (q__surely_set_by_1 T) (sCons (q__surely_set_by_2 T) sNil))) := rfl
abbrev d__surely_set_by : FnD := ⟨1, 2, false, b__surely_set_by⟩
theorem sc__surely_set_by : FnScope N__surely_set_by ["row"] (defScope s__surely_set_by) := ⟨rfl, rfl, rfl, by decide +kernel, rfl, by decide +kernel, by decide +kernel⟩
theorem ok__surely_set_by {P : Program} {w : World} {K : PySem.W.Frag} {mg : Str → Option Value} {base : Heap} {f : Addr} {fd : FuncData} {n : Nat} {T : Tbl} {C : Nat → Addr} (F : Fun K "_surely_set_by" "_surely_set_by" s__surely_set_by f fd) (hB : ∀ x ∈ bs, mg x = none) (hC : ∀ p ∈ cs, ∃ u, mg p.1 = some u ∧ RelV (.int p.2) u)
    (hX : ∀ p ∈ pr.xs, ExF K mg p.1 (C p.2)) (hF : FnAt P w K mg base C pr T n) : FnOk P w K mg base (L2N.CX P w) (n + 1) f fd ["row"] (spI P w K C (pr.fr 8) (callI d__surely_set_by T)) :=
  fn_ok F sc__surely_set_by rfl rfl fun cdv A outer s H E hr => by
    have c : Cok (cxOf (L2N.CX P w) P w K mg base N__surely_set_by "_surely_set_by" (defScope s__surely_set_by) f cdv A outer s H E) ⟨C, E⟩ pr T n bs cs := ⟨rfl, sc__surely_set_by.nd, hr, hF, hB, hC, L2N.takes_of rfl rfl rfl rfl, L2.passes_of rfl, hX⟩
    show EvSs _ _ _ _ (b__surely_set_by T)
    unfold b__surely_set_by
    exact (evss_cons (evs_if (evw_pt (evw_and (evt_cmp (op_eq3 c.u) (OpSem.weak os_eq) (ev_ix (ix_4 c.u) os_ix (ev_var 0) ev_int) ev_str) (evw_and1 (evt_cmp op_gt (OpSem.weak os_cmp) (ev_ix (ix_4 c.u) os_ix (ev_var 0) ev_int) ev_int))))
      (evss_cons (evs_ret (Ev.weak (ev_call c i_surely_set (eva_cons (ev_ix (ix_4 c.u) os_ix (ev_var 0) ev_int) eva_nil))))
      evss_nil)
      evss_nil)
      (evss_cons (evs_set c.nd (ev_call c i_own_set (eva_cons (ev_var 0) eva_nil)))
      (evss_cons (evs_ret (Ev.weak (ev_if (evt_cmp op_isN (OpSem.weak os_isN) (ev_var 1) ev_non) (Ev.weak (ev_lst eva_nil)) (Ev.weak (ev_lst (eva_cons (ev_var 1) eva_nil))))))
      evss_nil)))

/-! first_read -/
abbrev s_first_read : Stmt := topS 19
abbrev N_first_read : List Str := ["rows", "found", "ahead", "row", "name"]
def fb_first_read_2 (T : Tbl) : SM :=
      (sCons (sAdd (eVar 2) (eVar 4))
      sNil)
def fb_first_read_1 (T : Tbl) : SM :=
      (sCons (sIf (eBin (vIn true) (eVar 4) (eVar 2))
      (sCons (sAdd (eVar 1) (eVar 4))
      sNil)
      sNil)
      sNil)
def fb_first_read_0 (T : Tbl) : SM :=
      (sCons (sFor (iSeq (eApp (T i__first_read_by) (aCons (eVar 3) aNil))) (gName 4) (fb_first_read_1 T))
      (sCons (sFor (iSeq (eApp (T i__surely_set_by) (aCons (eVar 3) aNil))) (gName 4) (fb_first_read_2 T))
      sNil))
def b_first_read (T : Tbl) : SM :=
      (sCons (sSet 1 (eBox (fun _ st => .ok (.sset []) st)))
      (sCons (sSet 2 (eBox (fun _ st => .ok (.sset []) st)))
      (sCons (sFor (iSeq (eVar 0)) (gName 3) (fb_first_read_0 T))
      (sCons (sRet (eApp vSorted (aCons (eVar 1) aNil)))
      sNil))))
def q_first_read_0 (T : Tbl) : SM :=
      (sSet 1 (eBox (fun _ st => .ok (.sset []) st)))
def q_first_read_1 (T : Tbl) : SM :=
      (sSet 2 (eBox (fun _ st => .ok (.sset []) st)))
def q_first_read_2 (T : Tbl) : SM :=
      (sFor (iSeq (eVar 0)) (gName 3) (fb_first_read_0 T))
def q_first_read_3 (T : Tbl) : SM :=
      (sRet (eApp vSorted (aCons (eVar 1) aNil)))
theorem b_first_read_q (T : Tbl) : b_first_read T = (sCons (q_first_read_0 T) (sCons (q_first_read_1 T) (sCons (q_first_read_2 T) (sCons (q_first_read_3 T) sNil)))) := rfl
abbrev d_first_read : FnD := ⟨1, 5, false, b_first_read⟩
theorem sc_first_read : FnScope N_first_read ["rows"] (defScope s_first_read) := ⟨rfl, rfl, rfl, by decide +kernel, rfl, by decide +kernel, by decide +kernel⟩
theorem ok_first_read {P : Program} {w : World} {K : PySem.W.Frag} {mg : Str → Option Value} {base : Heap} {f : Addr} {fd : FuncData} {n : Nat} {T : Tbl} {C : Nat → Addr} (F : Fun K "first_read" "first_read" s_first_read f fd) (hB : ∀ x ∈ bs, mg x = none) (hC : ∀ p ∈ cs, ∃ u, mg p.1 = some u ∧ RelV (.int p.2) u)
    (hX : ∀ p ∈ pr.xs, ExF K mg p.1 (C p.2)) (hF : FnAt P w K mg base C pr T n) : FnOk P w K mg base (L2N.CX P w) (n + 1) f fd ["rows"] (spI P w K C (pr.fr 9) (callI d_first_read T)) :=
  fn_ok F sc_first_read rfl rfl fun cdv A outer s H E hr => by
    have c : Cok (cxOf (L2N.CX P w) P w K mg base N_first_read "first_read" (defScope s_first_read) f cdv A outer s H E) ⟨C, E⟩ pr T n bs cs := ⟨rfl, sc_first_read.nd, hr, hF, hB, hC, L2N.takes_of rfl rfl rfl rfl, L2.passes_of rfl, hX⟩
    show EvSs _ _ _ _ (b_first_read T)
    unfold b_first_read fb_first_read_0 fb_first_read_1 fb_first_read_2
    exact (evss_cons (evs_set c.nd (ev_box (ev_set0 (c.blt "set" (List.mem_of_getElem? (i := 7) rfl)))))
      (evss_cons (evs_set c.nd (ev_box (ev_set0 (c.blt "set" (List.mem_of_getElem? (i := 7) rfl)))))
      (evss_cons (evs_for (vs := [3]) c.po c.calm (evi_seq (ev_var 0)) (evg_name c.nd)
      (evss_cons (evs_for (vs := [4]) c.po c.calm (evi_seq (ev_call c i__first_read_by (eva_cons (ev_var 3) eva_nil))) (evg_name c.nd)
      (evss_cons (evs_if (evt_cmp (op_notin3 c.u) (OpSem.weak os_in) (ev_var 4) (ev_var 2))
      (evss_cons (evs_add (ev_var 1) (ev_var 4))
      evss_nil)
      evss_nil)
      evss_nil))
      (evss_cons (evs_for (vs := [4]) c.po c.calm (evi_seq (ev_call c i__surely_set_by (eva_cons (ev_var 3) eva_nil))) (evg_name c.nd)
      (evss_cons (evs_add (ev_var 2) (ev_var 4))
      evss_nil))
      evss_nil)))
      (evss_cons (evs_ret (Ev.weak (ev_callB (call_sorted3 c.calm) cs_sorted (c.blt "sorted" (List.mem_of_getElem? (i := 8) rfl)) PyProof.Rows.boot_sorted (eva_cons (ev_var 1) eva_nil))))
      evss_nil))))

/-! _first_read_by -/
abbrev s__first_read_by : Stmt := topS 20
abbrev N__first_read_by : List Str := ["row", "found"]
def b__first_read_by (T : Tbl) : SM :=
      (sCons (sSet 1 (eBox (eApp (T i_own_names) (aCons (eVar 0) aNil))))
      (sCons (sIf (eOr (eBin (vEqF true) (eBin vIx (eVar 0) (eC (.int 0))) (eC (.str "again"))) (eBin vGt (eBin vIx (eVar 0) (eC (.int 1))) (eC (.int 0))))
      (sCons (sExt (eVar 1) (eApp (T i_first_read) (aCons (eApp (T i_rows_within) (aCons (eVar 0) aNil)) aNil)))
      sNil)
      sNil)
      (sCons (sRet (eVar 1))
      sNil)))
def q__first_read_by_0 (T : Tbl) : SM :=
      (sSet 1 (eBox (eApp (T i_own_names) (aCons (eVar 0) aNil))))
def q__first_read_by_1 (T : Tbl) : SM :=
      (sIf (eOr (eBin (vEqF true) (eBin vIx (eVar 0) (eC (.int 0))) (eC (.str "again"))) (eBin vGt (eBin vIx (eVar 0) (eC (.int 1))) (eC (.int 0))))
      (sCons (sExt (eVar 1) (eApp (T i_first_read) (aCons (eApp (T i_rows_within) (aCons (eVar 0) aNil)) aNil)))
      sNil)
      sNil)
def q__first_read_by_2 (T : Tbl) : SM :=
      (sRet (eVar 1))
theorem b__first_read_by_q (T : Tbl) : b__first_read_by T = (sCons (q__first_read_by_0 T) (sCons (q__first_read_by_1 T) (sCons (q__first_read_by_2 T) sNil))) := rfl
abbrev d__first_read_by : FnD := ⟨1, 2, false, b__first_read_by⟩
theorem sc__first_read_by : FnScope N__first_read_by ["row"] (defScope s__first_read_by) := ⟨rfl, rfl, rfl, by decide +kernel, rfl, by decide +kernel, by decide +kernel⟩
theorem ok__first_read_by {P : Program} {w : World} {K : PySem.W.Frag} {mg : Str → Option Value} {base : Heap} {f : Addr} {fd : FuncData} {n : Nat} {T : Tbl} {C : Nat → Addr} (F : Fun K "_first_read_by" "_first_read_by" s__first_read_by f fd) (hB : ∀ x ∈ bs, mg x = none) (hC : ∀ p ∈ cs, ∃ u, mg p.1 = some u ∧ RelV (.int p.2) u)
    (hX : ∀ p ∈ pr.xs, ExF K mg p.1 (C p.2)) (hF : FnAt P w K mg base C pr T n) : FnOk P w K mg base (L2N.CX P w) (n + 1) f fd ["row"] (spI P w K C (pr.fr 10) (callI d__first_read_by T)) :=
  fn_ok F sc__first_read_by rfl rfl fun cdv A outer s H E hr => by
    have c : Cok (cxOf (L2N.CX P w) P w K mg base N__first_read_by "_first_read_by" (defScope s__first_read_by) f cdv A outer s H E) ⟨C, E⟩ pr T n bs cs := ⟨rfl, sc__first_read_by.nd, hr, hF, hB, hC, L2N.takes_of rfl rfl rfl rfl, L2.passes_of rfl, hX⟩
    show EvSs _ _ _ _ (b__first_read_by T)
    unfold b__first_read_by
    exact (evss_cons (evs_set c.nd (ev_box (ev_call c i_own_names (eva_cons (ev_var 0) eva_nil))))
      (evss_cons (evs_if (evw_pt (evw_or (evt_cmp (op_ne3 c.u) (OpSem.weak os_eq) (ev_ix (ix_4 c.u) os_ix (ev_var 0) ev_int) ev_str) (evw_or1 (evt_cmp op_gt (OpSem.weak os_cmp) (ev_ix (ix_4 c.u) os_ix (ev_var 0) ev_int) ev_int))))
      (evss_cons (evs_ext (ev_var 1) (ev_call c i_first_read (eva_cons (ev_call c i_rows_within (eva_cons (ev_var 0) eva_nil)) eva_nil)))
      evss_nil)
      evss_nil)
      (evss_cons (evs_ret (Ev.weak (ev_var 1)))
      evss_nil)))

/-! row_at -/
abbrev s_row_at : Stmt := topS 22
abbrev N_row_at : List Str := ["program", "place"]
def b_row_at (T : Tbl) : SM :=
      (sCons (sRet (eBin vIx (eApp (T i_rows_from) (aCons (eVar 0) (aCons (eVar 1) (aCons (eC (.int 1)) aNil)))) (eC (.int 0))))
      sNil)
def q_row_at_0 (T : Tbl) : SM :=
      (sRet (eBin vIx (eApp (T i_rows_from) (aCons (eVar 0) (aCons (eVar 1) (aCons (eC (.int 1)) aNil)))) (eC (.int 0))))
theorem b_row_at_q (T : Tbl) : b_row_at T = (sCons (q_row_at_0 T) sNil) := rfl
abbrev d_row_at : FnD := ⟨2, 2, false, b_row_at⟩
theorem sc_row_at : FnScope N_row_at ["program", "place"] (defScope s_row_at) := ⟨rfl, rfl, rfl, by decide +kernel, rfl, by decide +kernel, by decide +kernel⟩
theorem ok_row_at {P : Program} {w : World} {K : PySem.W.Frag} {mg : Str → Option Value} {base : Heap} {f : Addr} {fd : FuncData} {n : Nat} {T : Tbl} {C : Nat → Addr} (F : Fun K "row_at" "row_at" s_row_at f fd) (hB : ∀ x ∈ bs, mg x = none) (hC : ∀ p ∈ cs, ∃ u, mg p.1 = some u ∧ RelV (.int p.2) u)
    (hX : ∀ p ∈ pr.xs, ExF K mg p.1 (C p.2)) (hF : FnAt P w K mg base C pr T n) : FnOk P w K mg base (L2N.CX P w) (n + 1) f fd ["program", "place"] (spI P w K C (pr.fr 11) (callI d_row_at T)) :=
  fn_ok F sc_row_at rfl rfl fun cdv A outer s H E hr => by
    have c : Cok (cxOf (L2N.CX P w) P w K mg base N_row_at "row_at" (defScope s_row_at) f cdv A outer s H E) ⟨C, E⟩ pr T n bs cs := ⟨rfl, sc_row_at.nd, hr, hF, hB, hC, L2N.takes_of rfl rfl rfl rfl, L2.passes_of rfl, hX⟩
    show EvSs _ _ _ _ (b_row_at T)
    unfold b_row_at
    exact (evss_cons (evs_ret (Ev.weak (ev_ix (ix_4 c.u) os_ix (ev_call c i_rows_from (eva_cons (ev_var 0) (eva_cons (ev_var 1) (eva_cons ev_int eva_nil)))) ev_int)))
      evss_nil)

/-! rows_from -/
abbrev s_rows_from : Stmt := topS 23
abbrev N_rows_from : List Str := ["program", "place", "many", "rows", "first"]
def b_rows_from (T : Tbl) : SM :=
      (sCons (sSet 3 (eApp (T i__rows_around) (aCons (eVar 0) (aCons (eVar 1) aNil))))
      (sCons (sSet 4 (eBin vIx (eVar 1) (eUn vNeg (eC (.int 1)))))
      (sCons (sIf (eOr (eBin vLt (eVar 4) (eC (.int 0))) (eOr (eBin vLt (eVar 2) (eC (.int 0))) (eBin vGt (eBin vAdd (eVar 4) (eVar 2)) (eApp vLen (aCons (eVar 3) aNil)))))
      (sCons (sRaise 0)
      sNil)
      sNil)
      (sCons (sRet (eSl (eVar 3) (oSome (eVar 4)) (oSome (eBin vAdd (eVar 4) (eVar 2)))))
      sNil))))
def q_rows_from_0 (T : Tbl) : SM :=
      (sSet 3 (eApp (T i__rows_around) (aCons (eVar 0) (aCons (eVar 1) aNil))))
def q_rows_from_1 (T : Tbl) : SM :=
      (sSet 4 (eBin vIx (eVar 1) (eUn vNeg (eC (.int 1)))))
def q_rows_from_2 (T : Tbl) : SM :=
      (sIf (eOr (eBin vLt (eVar 4) (eC (.int 0))) (eOr (eBin vLt (eVar 2) (eC (.int 0))) (eBin vGt (eBin vAdd (eVar 4) (eVar 2)) (eApp vLen (aCons (eVar 3) aNil)))))
      (sCons (sRaise 0)
      sNil)
      sNil)
def q_rows_from_3 (T : Tbl) : SM :=
      (sRet (eSl (eVar 3) (oSome (eVar 4)) (oSome (eBin vAdd (eVar 4) (eVar 2)))))
theorem b_rows_from_q (T : Tbl) : b_rows_from T = (sCons (q_rows_from_0 T) (sCons (q_rows_from_1 T) (sCons (q_rows_from_2 T) (sCons (q_rows_from_3 T) sNil)))) := rfl
abbrev d_rows_from : FnD := ⟨3, 5, false, b_rows_from⟩
theorem sc_rows_from : FnScope N_rows_from ["program", "place", "many"] (defScope s_rows_from) := ⟨rfl, rfl, rfl, by decide +kernel, rfl, by decide +kernel, by decide +kernel⟩
theorem ok_rows_from {P : Program} {w : World} {K : PySem.W.Frag} {mg : Str → Option Value} {base : Heap} {f : Addr} {fd : FuncData} {n : Nat} {T : Tbl} {C : Nat → Addr} (F : Fun K "rows_from" "rows_from" s_rows_from f fd) (hB : ∀ x ∈ bs, mg x = none) (hC : ∀ p ∈ cs, ∃ u, mg p.1 = some u ∧ RelV (.int p.2) u)
    (hX : ∀ p ∈ pr.xs, ExF K mg p.1 (C p.2)) (hF : FnAt P w K mg base C pr T n) : FnOk P w K mg base (L2N.CX P w) (n + 1) f fd ["program", "place", "many"] (spI P w K C (pr.fr 12) (callI d_rows_from T)) :=
  fn_ok F sc_rows_from rfl rfl fun cdv A outer s H E hr => by
    have c : Cok (cxOf (L2N.CX P w) P w K mg base N_rows_from "rows_from" (defScope s_rows_from) f cdv A outer s H E) ⟨C, E⟩ pr T n bs cs := ⟨rfl, sc_rows_from.nd, hr, hF, hB, hC, L2N.takes_of rfl rfl rfl rfl, L2.passes_of rfl, hX⟩
    show EvSs _ _ _ _ (b_rows_from T)
    unfold b_rows_from
    exact (evss_cons (evs_set c.nd (ev_call c i__rows_around (eva_cons (ev_var 0) (eva_cons (ev_var 1) eva_nil))))
      (evss_cons (evs_set c.nd (ev_ix (ix_4 c.u) os_ix (ev_var 1) (ev_un un_neg us_neg ev_int)))
      (evss_cons (evs_if (evw_pt (evw_or (evt_cmp op_lt (OpSem.weak os_cmp) (ev_var 4) ev_int) (evw_or (evt_cmp op_lt (OpSem.weak os_cmp) (ev_var 2) ev_int) (evw_or1 (evt_cmp op_gt (OpSem.weak os_cmp) (ev_op op_add4 os_add (ev_var 4) (ev_var 2)) (ev_callB call_len2 cs_len (c.blt "len" (List.mem_of_getElem? (i := 4) rfl)) PySem.boot_len (eva_cons (ev_var 3) eva_nil)))))))
      (evss_cons (evs_raise c (List.mem_of_getElem? (i := 0) rfl))
      evss_nil)
      evss_nil)
      (evss_cons (evs_ret (Ev.weak (ev_sl (ev_var 3) (evo_some (ev_var 4)) (evo_some (ev_op op_add4 os_add (ev_var 4) (ev_var 2))))))
      evss_nil))))

/-! _rows_around -/
abbrev s__rows_around : Stmt := topS 24
abbrev N__rows_around : List Str := ["program", "place", "rows", "number"]
def fb__rows_around_0 (T : Tbl) : SM :=
      (sCons (sIf (eOr (eNot (eChain vLe vLt (eC (.int 0)) (eVar 3) (eApp vLen (aCons (eVar 2) aNil)))) (eNot (eApp (T i_has_rows) (aCons (eBin vIx (eVar 2) (eVar 3)) aNil))))
      (sCons (sRaise 0)
      sNil)
      sNil)
      (sCons (sSet 2 (eApp (T i_rows_within) (aCons (eBin vIx (eVar 2) (eVar 3)) aNil)))
      sNil))
def b__rows_around (T : Tbl) : SM :=
      (sCons (sIf (eOr (eBin vLt (eApp vLen (aCons (eVar 1) aNil)) (eC (.int 2))) (eNot (eChain vLe vLt (eC (.int 0)) (eBin vIx (eVar 1) (eC (.int 0))) (eApp vLen (aCons (eVar 0) aNil)))))
      (sCons (sRaise 0)
      sNil)
      sNil)
      (sCons (sSet 2 (eBin vIx (eBin vIx (eVar 0) (eBin vIx (eVar 1) (eC (.int 0)))) (eC (.int 2))))
      (sCons (sFor (iSeq (eSl (eVar 1) (oSome (eC (.int 1))) (oSome (eUn vNeg (eC (.int 1)))))) (gName 3) (fb__rows_around_0 T))
      (sCons (sRet (eVar 2))
      sNil))))
def q__rows_around_0 (T : Tbl) : SM :=
      (sIf (eOr (eBin vLt (eApp vLen (aCons (eVar 1) aNil)) (eC (.int 2))) (eNot (eChain vLe vLt (eC (.int 0)) (eBin vIx (eVar 1) (eC (.int 0))) (eApp vLen (aCons (eVar 0) aNil)))))
      (sCons (sRaise 0)
      sNil)
      sNil)
def q__rows_around_1 (T : Tbl) : SM :=
      (sSet 2 (eBin vIx (eBin vIx (eVar 0) (eBin vIx (eVar 1) (eC (.int 0)))) (eC (.int 2))))
def q__rows_around_2 (T : Tbl) : SM :=
      (sFor (iSeq (eSl (eVar 1) (oSome (eC (.int 1))) (oSome (eUn vNeg (eC (.int 1)))))) (gName 3) (fb__rows_around_0 T))
def q__rows_around_3 (T : Tbl) : SM :=
      (sRet (eVar 2))
theorem b__rows_around_q (T : Tbl) : b__rows_around T = (sCons (q__rows_around_0 T) (sCons (q__rows_around_1 T) (sCons (q__rows_around_2 T) (sCons (q__rows_around_3 T) sNil)))) := rfl
abbrev d__rows_around : FnD := ⟨2, 4, false, b__rows_around⟩
theorem sc__rows_around : FnScope N__rows_around ["program", "place"] (defScope s__rows_around) := ⟨rfl, rfl, rfl, by decide +kernel, rfl, by decide +kernel, by decide +kernel⟩
theorem ok__rows_around {P : Program} {w : World} {K : PySem.W.Frag} {mg : Str → Option Value} {base : Heap} {f : Addr} {fd : FuncData} {n : Nat} {T : Tbl} {C : Nat → Addr} (F : Fun K "_rows_around" "_rows_around" s__rows_around f fd) (hB : ∀ x ∈ bs, mg x = none) (hC : ∀ p ∈ cs, ∃ u, mg p.1 = some u ∧ RelV (.int p.2) u)
    (hX : ∀ p ∈ pr.xs, ExF K mg p.1 (C p.2)) (hF : FnAt P w K mg base C pr T n) : FnOk P w K mg base (L2N.CX P w) (n + 1) f fd ["program", "place"] (spI P w K C (pr.fr 13) (callI d__rows_around T)) :=
  fn_ok F sc__rows_around rfl rfl fun cdv A outer s H E hr => by
    have c : Cok (cxOf (L2N.CX P w) P w K mg base N__rows_around "_rows_around" (defScope s__rows_around) f cdv A outer s H E) ⟨C, E⟩ pr T n bs cs := ⟨rfl, sc__rows_around.nd, hr, hF, hB, hC, L2N.takes_of rfl rfl rfl rfl, L2.passes_of rfl, hX⟩
    show EvSs _ _ _ _ (b__rows_around T)
    unfold b__rows_around fb__rows_around_0
    exact (evss_cons (evs_if (evw_pt (evw_or (evt_cmp op_lt (OpSem.weak os_cmp) (ev_callB call_len2 cs_len (c.blt "len" (List.mem_of_getElem? (i := 4) rfl)) PySem.boot_len (eva_cons (ev_var 1) eva_nil)) ev_int) (evw_or1 (evt_not (evt_chain op_le os_cmp op_lt os_cmp ev_int (ev_ix (ix_4 c.u) os_ix (ev_var 1) ev_int) (ev_callB call_len2 cs_len (c.blt "len" (List.mem_of_getElem? (i := 4) rfl)) PySem.boot_len (eva_cons (ev_var 0) eva_nil)))))))
      (evss_cons (evs_raise c (List.mem_of_getElem? (i := 0) rfl))
      evss_nil)
      evss_nil)
      (evss_cons (evs_set c.nd (ev_ix (ix_4 c.u) os_ix (ev_ix (ix_4 c.u) os_ix (ev_var 0) (ev_ix (ix_4 c.u) os_ix (ev_var 1) ev_int)) ev_int))
      (evss_cons (evs_for (vs := [3]) c.po c.calm (evi_seq (ev_sl (ev_var 1) (evo_some ev_int) (evo_some (ev_un un_neg us_neg ev_int)))) (evg_name c.nd)
      (evss_cons (evs_if (evw_pt (evw_or (evt_not (evt_chain op_le os_cmp op_lt os_cmp ev_int (ev_var 3) (ev_callB call_len2 cs_len (c.blt "len" (List.mem_of_getElem? (i := 4) rfl)) PySem.boot_len (eva_cons (ev_var 2) eva_nil)))) (evw_or1 (evt_not (evt_val (ev_call c i_has_rows (eva_cons (ev_ix (ix_4 c.u) os_ix (ev_var 2) (ev_var 3)) eva_nil)))))))
      (evss_cons (evs_raise c (List.mem_of_getElem? (i := 0) rfl))
      evss_nil)
      evss_nil)
      (evss_cons (evs_set c.nd (ev_call c i_rows_within (eva_cons (ev_ix (ix_4 c.u) os_ix (ev_var 2) (ev_var 3)) eva_nil)))
      evss_nil)))
      (evss_cons (evs_ret (Ev.weak (ev_var 2)))
      evss_nil))))

/-! needed -/
abbrev s_needed : Stmt := topS 25
abbrev N_needed : List Str := ["program", "place", "function", "rows", "names", "number", "row"]
def fb_needed_0 (T : Tbl) : SM :=
      (sCons (sSet 6 (eBin vIx (eVar 3) (eVar 5)))
      (sCons (sSet 4 (eApp (T i__needed_ahead) (aCons (eSl (eVar 3) (oSome (eBin vAdd (eVar 5) (eC (.int 1)))) oNone) (aCons (eVar 4) aNil))))
      (sCons (sSet 3 (eApp (T i_rows_within) (aCons (eVar 6) aNil)))
      (sCons (sIf (eAnd (eBin (vEqF false) (eBin vIx (eVar 6) (eC (.int 0))) (eC (.str "again"))) (eBin vGt (eBin vIx (eVar 6) (eC (.int 1))) (eC (.int 1))))
      (sCons (sSet 4 (eBin vAdd (eVar 4) (eApp (T i_first_read) (aCons (eVar 3) aNil))))
      sNil)
      sNil)
      sNil))))
def b_needed (T : Tbl) : SM :=
      (sCons (sExpr (eApp (T i_row_at) (aCons (eVar 0) (aCons (eVar 1) aNil))))
      (sCons (sSet 2 (eBin vIx (eVar 0) (eBin vIx (eVar 1) (eC (.int 0)))))
      (sCons (sSet 3 (eBin vIx (eVar 2) (eC (.int 2))))
      (sCons (sSet 4 (eApp (T i_names_in) (aCons (eBin vIx (eVar 2) (eC (.int 3))) aNil)))
      (sCons (sFor (iSeq (eSl (eVar 1) (oSome (eC (.int 1))) (oSome (eUn vNeg (eC (.int 1)))))) (gName 5) (fb_needed_0 T))
      (sCons (sRet (eApp vSorted (aCons (eApp vSet (aCons (eApp (T i__needed_ahead) (aCons (eSl (eVar 3) (oSome (eBin vAdd (eBin vIx (eVar 1) (eUn vNeg (eC (.int 1)))) (eC (.int 1)))) oNone) (aCons (eVar 4) aNil))) aNil)) aNil)))
      sNil))))))
def q_needed_0 (T : Tbl) : SM :=
      (sExpr (eApp (T i_row_at) (aCons (eVar 0) (aCons (eVar 1) aNil))))
def q_needed_1 (T : Tbl) : SM :=
      (sSet 2 (eBin vIx (eVar 0) (eBin vIx (eVar 1) (eC (.int 0)))))
def q_needed_2 (T : Tbl) : SM :=
      (sSet 3 (eBin vIx (eVar 2) (eC (.int 2))))
def q_needed_3 (T : Tbl) : SM :=
      (sSet 4 (eApp (T i_names_in) (aCons (eBin vIx (eVar 2) (eC (.int 3))) aNil)))
def q_needed_4 (T : Tbl) : SM :=
      (sFor (iSeq (eSl (eVar 1) (oSome (eC (.int 1))) (oSome (eUn vNeg (eC (.int 1)))))) (gName 5) (fb_needed_0 T))
def q_needed_5 (T : Tbl) : SM :=
      (sRet (eApp vSorted (aCons (eApp vSet (aCons (eApp (T i__needed_ahead) (aCons (eSl (eVar 3) (oSome (eBin vAdd (eBin vIx (eVar 1) (eUn vNeg (eC (.int 1)))) (eC (.int 1)))) oNone) (aCons (eVar 4) aNil))) aNil)) aNil)))
theorem b_needed_q (T : Tbl) : b_needed T = (sCons (q_needed_0 T) (sCons (q_needed_1 T) (sCons (q_needed_2 T) (sCons (q_needed_3 T) (sCons (q_needed_4 T) (sCons (q_needed_5 T) sNil)))))) := rfl
abbrev d_needed : FnD := ⟨2, 7, false, b_needed⟩
theorem sc_needed : FnScope N_needed ["program", "place"] (defScope s_needed) := ⟨rfl, rfl, rfl, by decide +kernel, rfl, by decide +kernel, by decide +kernel⟩
theorem ok_needed {P : Program} {w : World} {K : PySem.W.Frag} {mg : Str → Option Value} {base : Heap} {f : Addr} {fd : FuncData} {n : Nat} {T : Tbl} {C : Nat → Addr} (F : Fun K "needed" "needed" s_needed f fd) (hB : ∀ x ∈ bs, mg x = none) (hC : ∀ p ∈ cs, ∃ u, mg p.1 = some u ∧ RelV (.int p.2) u)
    (hX : ∀ p ∈ pr.xs, ExF K mg p.1 (C p.2)) (hF : FnAt P w K mg base C pr T n) : FnOk P w K mg base (L2N.CX P w) (n + 1) f fd ["program", "place"] (spI P w K C (pr.fr 14) (callI d_needed T)) :=
  fn_ok F sc_needed rfl rfl fun cdv A outer s H E hr => by
    have c : Cok (cxOf (L2N.CX P w) P w K mg base N_needed "needed" (defScope s_needed) f cdv A outer s H E) ⟨C, E⟩ pr T n bs cs := ⟨rfl, sc_needed.nd, hr, hF, hB, hC, L2N.takes_of rfl rfl rfl rfl, L2.passes_of rfl, hX⟩
    show EvSs _ _ _ _ (b_needed T)
    unfold b_needed fb_needed_0
    exact (evss_cons (evs_expr (ev_call c i_row_at (eva_cons (ev_var 0) (eva_cons (ev_var 1) eva_nil))))
      (evss_cons (evs_set c.nd (ev_ix (ix_4 c.u) os_ix (ev_var 0) (ev_ix (ix_4 c.u) os_ix (ev_var 1) ev_int)))
      (evss_cons (evs_set c.nd (ev_ix (ix_4 c.u) os_ix (ev_var 2) ev_int))
      (evss_cons (evs_set c.nd (ev_call c i_names_in (eva_cons (ev_ix (ix_4 c.u) os_ix (ev_var 2) ev_int) eva_nil)))
      (evss_cons (evs_for (vs := [5]) c.po c.calm (evi_seq (ev_sl (ev_var 1) (evo_some ev_int) (evo_some (ev_un un_neg us_neg ev_int)))) (evg_name c.nd)
      (evss_cons (evs_set c.nd (ev_ix (ix_4 c.u) os_ix (ev_var 3) (ev_var 5)))
      (evss_cons (evs_set c.nd (ev_call c i__needed_ahead (eva_cons (ev_sl (ev_var 3) (evo_some (ev_op op_add4 os_add (ev_var 5) ev_int)) evo_none) (eva_cons (ev_var 4) eva_nil))))
      (evss_cons (evs_set c.nd (ev_call c i_rows_within (eva_cons (ev_var 6) eva_nil)))
      (evss_cons (evs_if (evw_pt (evw_and (evt_cmp (op_eq3 c.u) (OpSem.weak os_eq) (ev_ix (ix_4 c.u) os_ix (ev_var 6) ev_int) ev_str) (evw_and1 (evt_cmp op_gt (OpSem.weak os_cmp) (ev_ix (ix_4 c.u) os_ix (ev_var 6) ev_int) ev_int))))
      (evss_cons (evs_set c.nd (ev_op op_add4 os_add (ev_var 4) (ev_call c i_first_read (eva_cons (ev_var 3) eva_nil))))
      evss_nil)
      evss_nil)
      evss_nil)))))
      (evss_cons (evs_ret (Ev.weak (ev_callB (call_sorted3 c.calm) cs_sorted (c.blt "sorted" (List.mem_of_getElem? (i := 8) rfl)) PyProof.Rows.boot_sorted (eva_cons (ev_callTy (call_set1 c.calm) cs_set (c.blt "set" (List.mem_of_getElem? (i := 7) rfl)) boot_set (eva_cons (ev_call c i__needed_ahead (eva_cons (ev_sl (ev_var 3) (evo_some (ev_op op_add4 os_add (ev_ix (ix_4 c.u) os_ix (ev_var 1) (ev_un un_neg us_neg ev_int)) ev_int)) evo_none) (eva_cons (ev_var 4) eva_nil))) eva_nil)) eva_nil))))
      evss_nil))))))

/-! _needed_ahead -/
abbrev s__needed_ahead : Stmt := topS 26
abbrev N__needed_ahead : List Str := ["rows", "names", "sure", "name"]
def b__needed_ahead (T : Tbl) : SM :=
      (sCons (sSet 2 (eApp (T i_surely_set) (aCons (eVar 0) aNil)))
      (sCons (sRet (eBin vAdd (eApp (T i_first_read) (aCons (eVar 0) aNil)) (eComp (iSeq (eVar 1)) (gName 3) (eBin (vIn true) (eVar 3) (eVar 2)) (eVar 3) [3])))
      sNil))
def q__needed_ahead_0 (T : Tbl) : SM :=
      (sSet 2 (eApp (T i_surely_set) (aCons (eVar 0) aNil)))
def q__needed_ahead_1 (T : Tbl) : SM :=
      (sRet (eBin vAdd (eApp (T i_first_read) (aCons (eVar 0) aNil)) (eComp (iSeq (eVar 1)) (gName 3) (eBin (vIn true) (eVar 3) (eVar 2)) (eVar 3) [3])))
theorem b__needed_ahead_q (T : Tbl) : b__needed_ahead T = (sCons (q__needed_ahead_0 T) (sCons (q__needed_ahead_1 T) sNil)) := rfl
abbrev d__needed_ahead : FnD := ⟨2, 4, false, b__needed_ahead⟩
theorem sc__needed_ahead : FnScope N__needed_ahead ["rows", "names"] (defScope s__needed_ahead) := ⟨rfl, rfl, rfl, by decide +kernel, rfl, by decide +kernel, by decide +kernel⟩
theorem ok__needed_ahead {P : Program} {w : World} {K : PySem.W.Frag} {mg : Str → Option Value} {base : Heap} {f : Addr} {fd : FuncData} {n : Nat} {T : Tbl} {C : Nat → Addr} (F : Fun K "_needed_ahead" "_needed_ahead" s__needed_ahead f fd) (hB : ∀ x ∈ bs, mg x = none) (hC : ∀ p ∈ cs, ∃ u, mg p.1 = some u ∧ RelV (.int p.2) u)
    (hX : ∀ p ∈ pr.xs, ExF K mg p.1 (C p.2)) (hF : FnAt P w K mg base C pr T n) : FnOk P w K mg base (L2N.CX P w) (n + 1) f fd ["rows", "names"] (spI P w K C (pr.fr 15) (callI d__needed_ahead T)) :=
  fn_ok F sc__needed_ahead rfl rfl fun cdv A outer s H E hr => by
    have c : Cok (cxOf (L2N.CX P w) P w K mg base N__needed_ahead "_needed_ahead" (defScope s__needed_ahead) f cdv A outer s H E) ⟨C, E⟩ pr T n bs cs := ⟨rfl, sc__needed_ahead.nd, hr, hF, hB, hC, L2N.takes_of rfl rfl rfl rfl, L2.passes_of rfl, hX⟩
    show EvSs _ _ _ _ (b__needed_ahead T)
    unfold b__needed_ahead
    exact (evss_cons (evs_set c.nd (ev_call c i_surely_set (eva_cons (ev_var 0) eva_nil)))
      (evss_cons (evs_ret (Ev.weak (ev_op op_add4 os_add (ev_call c i_first_read (eva_cons (ev_var 0) eva_nil)) (ev_compC [("name", 3)] c (evi_seq (ev_var 1)) (blkOk_by (own := [("name", 3)]) (N := N__needed_ahead) (sc := defScope s__needed_ahead) (by decide +kernel)) (fun _ _ _ _ _ c => (evg_name c.nd)) (fun _ _ _ _ _ c => (evts_one (evt_cmp (op_notin3 c.u) (OpSem.weak os_in) (ev_var 3) (ev_var 2)))) (fun _ _ _ _ _ c => (ev_var 3))))))
      evss_nil))

/-! _law_cell -/
abbrev s__law_cell : Stmt := topS 28
abbrev N__law_cell : List Str := ["_law_script", "_law_k", "_law_cell_here", "_law_mark"]
def b__law_cell (T : Tbl) : SM :=
      (sCons (sSet 2 (eIf (eBin vLt (eVar 1) (eApp vLen (aCons (eVar 0) aNil))) (eBin vIx (eVar 0) (eVar 1)) (eC (.int 0))))
      (sCons (sSet 3 (eBin vMod (eBin vMul (eBin vAdd (eBin vMod (eVar 2) (eC (.int 2147483629))) (eBin vMul (eC (.int 7919)) (eBin vAdd (eVar 1) (eC (.int 1))))) (eC (.int 48271))) (eC (.int 2147483647))))
      (sCons (sSet 3 (eBin vMod (eBin vMul (eBin vMod (eBin vMul (eVar 3) (eVar 3)) (eC (.int 2147483629))) (eC (.int 69621))) (eC (.int 2147483647))))
      (sCons (sRet (eBin vAdd (eBin vMul (eBin vAdd (eBin vMul (eBin vFdv (eVar 2) (eC (.int 2147483629))) (eC (.int 2147483647))) (eVar 3)) (eC (.int 2147483629))) (eBin vMod (eBin vMul (eVar 3) (eVar 3)) (eC (.int 2147483629)))))
      sNil))))
def q__law_cell_0 (T : Tbl) : SM :=
      (sSet 2 (eIf (eBin vLt (eVar 1) (eApp vLen (aCons (eVar 0) aNil))) (eBin vIx (eVar 0) (eVar 1)) (eC (.int 0))))
def q__law_cell_1 (T : Tbl) : SM :=
      (sSet 3 (eBin vMod (eBin vMul (eBin vAdd (eBin vMod (eVar 2) (eC (.int 2147483629))) (eBin vMul (eC (.int 7919)) (eBin vAdd (eVar 1) (eC (.int 1))))) (eC (.int 48271))) (eC (.int 2147483647))))
def q__law_cell_2 (T : Tbl) : SM :=
      (sSet 3 (eBin vMod (eBin vMul (eBin vMod (eBin vMul (eVar 3) (eVar 3)) (eC (.int 2147483629))) (eC (.int 69621))) (eC (.int 2147483647))))
def q__law_cell_3 (T : Tbl) : SM :=
      (sRet (eBin vAdd (eBin vMul (eBin vAdd (eBin vMul (eBin vFdv (eVar 2) (eC (.int 2147483629))) (eC (.int 2147483647))) (eVar 3)) (eC (.int 2147483629))) (eBin vMod (eBin vMul (eVar 3) (eVar 3)) (eC (.int 2147483629)))))
theorem b__law_cell_q (T : Tbl) : b__law_cell T = (sCons (q__law_cell_0 T) (sCons (q__law_cell_1 T) (sCons (q__law_cell_2 T) (sCons (q__law_cell_3 T) sNil)))) := rfl
abbrev d__law_cell : FnD := ⟨2, 4, false, b__law_cell⟩
theorem sc__law_cell : FnScope N__law_cell ["_law_script", "_law_k"] (defScope s__law_cell) := ⟨rfl, rfl, rfl, by decide +kernel, rfl, by decide +kernel, by decide +kernel⟩
theorem ok__law_cell {P : Program} {w : World} {K : PySem.W.Frag} {mg : Str → Option Value} {base : Heap} {f : Addr} {fd : FuncData} {n : Nat} {T : Tbl} {C : Nat → Addr} (F : Fun K "_law_cell" "_law_cell" s__law_cell f fd) (hB : ∀ x ∈ bs, mg x = none) (hC : ∀ p ∈ cs, ∃ u, mg p.1 = some u ∧ RelV (.int p.2) u)
    (hX : ∀ p ∈ pr.xs, ExF K mg p.1 (C p.2)) (hF : FnAt P w K mg base C pr T n) : FnOk P w K mg base (L2N.CX P w) (n + 1) f fd ["_law_script", "_law_k"] (spI P w K C (pr.fr 16) (callI d__law_cell T)) :=
  fn_ok F sc__law_cell rfl rfl fun cdv A outer s H E hr => by
    have c : Cok (cxOf (L2N.CX P w) P w K mg base N__law_cell "_law_cell" (defScope s__law_cell) f cdv A outer s H E) ⟨C, E⟩ pr T n bs cs := ⟨rfl, sc__law_cell.nd, hr, hF, hB, hC, L2N.takes_of rfl rfl rfl rfl, L2.passes_of rfl, hX⟩
    show EvSs _ _ _ _ (b__law_cell T)
    unfold b__law_cell
    exact (evss_cons (evs_set c.nd (ev_if (evt_cmp op_lt (OpSem.weak os_cmp) (ev_var 1) (ev_callB call_len2 cs_len (c.blt "len" (List.mem_of_getElem? (i := 4) rfl)) PySem.boot_len (eva_cons (ev_var 0) eva_nil))) (Ev.weak (ev_ix (ix_4 c.u) os_ix (ev_var 0) (ev_var 1))) (Ev.weak ev_int)))
      (evss_cons (evs_set c.nd (ev_op op_mod os_mod (ev_op op_mul2 os_mul (ev_op op_add4 os_add (ev_op op_mod os_mod (ev_var 2) ev_int) (ev_op op_mul2 os_mul ev_int (ev_op op_add4 os_add (ev_var 1) ev_int))) ev_int) ev_int))
      (evss_cons (evs_set c.nd (ev_op op_mod os_mod (ev_op op_mul2 os_mul (ev_op op_mod os_mod (ev_op op_mul2 os_mul (ev_var 3) (ev_var 3)) ev_int) ev_int) ev_int))
      (evss_cons (evs_ret (Ev.weak (ev_op op_add4 os_add (ev_op op_mul2 os_mul (ev_op op_add4 os_add (ev_op op_mul2 os_mul (ev_op op_fdivW os_fdv (ev_var 2) ev_int) ev_int) (ev_var 3)) ev_int) (ev_op op_mod os_mod (ev_op op_mul2 os_mul (ev_var 3) (ev_var 3)) ev_int))))
      evss_nil))))

/-! _law_mixed -/
abbrev s__law_mixed : Stmt := topS 29
abbrev N__law_mixed : List Str := ["_law_cell_here", "_law_k", "_law_mark"]
def b__law_mixed (T : Tbl) : SM :=
      (sCons (sSet 2 (eBin vMod (eBin vAdd (eBin vMul (eVar 0) (eC (.int 48271))) (eBin vMul (eBin vAdd (eVar 1) (eC (.int 1))) (eC (.int 1299721)))) (eC (.int 2147483647))))
      (sCons (sRet (eBin vMod (eBin vMul (eVar 2) (eBin vAdd (eBin vMod (eBin vFdv (eVar 2) (eC (.int 7))) (eC (.int 65536))) (eC (.int 3)))) (eC (.int 2147483647))))
      sNil))
def q__law_mixed_0 (T : Tbl) : SM :=
      (sSet 2 (eBin vMod (eBin vAdd (eBin vMul (eVar 0) (eC (.int 48271))) (eBin vMul (eBin vAdd (eVar 1) (eC (.int 1))) (eC (.int 1299721)))) (eC (.int 2147483647))))
def q__law_mixed_1 (T : Tbl) : SM :=
      (sRet (eBin vMod (eBin vMul (eVar 2) (eBin vAdd (eBin vMod (eBin vFdv (eVar 2) (eC (.int 7))) (eC (.int 65536))) (eC (.int 3)))) (eC (.int 2147483647))))
theorem b__law_mixed_q (T : Tbl) : b__law_mixed T = (sCons (q__law_mixed_0 T) (sCons (q__law_mixed_1 T) sNil)) := rfl
abbrev d__law_mixed : FnD := ⟨2, 3, false, b__law_mixed⟩
theorem sc__law_mixed : FnScope N__law_mixed ["_law_cell_here", "_law_k"] (defScope s__law_mixed) := ⟨rfl, rfl, rfl, by decide +kernel, rfl, by decide +kernel, by decide +kernel⟩
theorem ok__law_mixed {P : Program} {w : World} {K : PySem.W.Frag} {mg : Str → Option Value} {base : Heap} {f : Addr} {fd : FuncData} {n : Nat} {T : Tbl} {C : Nat → Addr} (F : Fun K "_law_mixed" "_law_mixed" s__law_mixed f fd) (hB : ∀ x ∈ bs, mg x = none) (hC : ∀ p ∈ cs, ∃ u, mg p.1 = some u ∧ RelV (.int p.2) u)
    (hX : ∀ p ∈ pr.xs, ExF K mg p.1 (C p.2)) (hF : FnAt P w K mg base C pr T n) : FnOk P w K mg base (L2N.CX P w) (n + 1) f fd ["_law_cell_here", "_law_k"] (spI P w K C (pr.fr 17) (callI d__law_mixed T)) :=
  fn_ok F sc__law_mixed rfl rfl fun cdv A outer s H E hr => by
    have c : Cok (cxOf (L2N.CX P w) P w K mg base N__law_mixed "_law_mixed" (defScope s__law_mixed) f cdv A outer s H E) ⟨C, E⟩ pr T n bs cs := ⟨rfl, sc__law_mixed.nd, hr, hF, hB, hC, L2N.takes_of rfl rfl rfl rfl, L2.passes_of rfl, hX⟩
    show EvSs _ _ _ _ (b__law_mixed T)
    unfold b__law_mixed
    exact (evss_cons (evs_set c.nd (ev_op op_mod os_mod (ev_op op_add4 os_add (ev_op op_mul2 os_mul (ev_var 0) ev_int) (ev_op op_mul2 os_mul (ev_op op_add4 os_add (ev_var 1) ev_int) ev_int)) ev_int))
      (evss_cons (evs_ret (Ev.weak (ev_op op_mod os_mod (ev_op op_mul2 os_mul (ev_var 2) (ev_op op_add4 os_add (ev_op op_mod os_mod (ev_op op_fdivW os_fdv (ev_var 2) ev_int) ev_int) ev_int)) ev_int)))
      evss_nil))

/-! _law_words -/
abbrev s__law_words : Stmt := topS 30
abbrev N__law_words : List Str := ["_law_cell_here", "_law_many", "_law_letters", "_law_base", "_law_at", "_law_k"]
def b__law_words (T : Tbl) : SM :=
      (sCons (sSet 2 (eC (.str "abcdefghijklmnopqrstuvwxyz")))
      (sCons (sSet 3 (eBin vMul (eBin vIx (eVar 2) (eBin vMod (eVar 0) (eC (.int 26)))) (eBin vAdd (eC (.int 1)) (eBin vMod (eBin vFdv (eVar 0) (eC (.int 26))) (eC (.int 8))))))
      (sCons (sSet 4 (eBin vMod (eBin vFdv (eVar 0) (eC (.int 208))) (eApp vLen (aCons (eVar 3) aNil))))
      (sCons (sIf (eBin (vEqF false) (eBin vMod (eBin vFdv (eVar 0) (eC (.int 1664))) (eC (.int 3))) (eC (.int 1)))
      (sCons (sRet (eComp (iRng1' (eVar 1)) (gName 5) tTrue (eBin vMul (eBin vIx (eVar 2) (eBin vMod (eVar 0) (eC (.int 26)))) (eBin vAdd (eC (.int 1)) (eVar 5))) [5]))
      sNil)
      sNil)
      (sCons (sRet (eComp (iRng1' (eVar 1)) (gName 5) tTrue (eBin vAdd (eBin vAdd (eSl (eVar 3) oNone (oSome (eVar 4))) (eBin vIx (eVar 2) (eBin vMod (eBin vAdd (eBin vFdv (eVar 0) (eC (.int 4992))) (eBin vMul (eC (.int 5)) (eVar 5))) (eC (.int 26))))) (eSl (eVar 3) (oSome (eBin vAdd (eVar 4) (eC (.int 1)))) oNone)) [5]))
      sNil)))))
def q__law_words_0 (T : Tbl) : SM :=
      (sSet 2 (eC (.str "abcdefghijklmnopqrstuvwxyz")))
def q__law_words_1 (T : Tbl) : SM :=
      (sSet 3 (eBin vMul (eBin vIx (eVar 2) (eBin vMod (eVar 0) (eC (.int 26)))) (eBin vAdd (eC (.int 1)) (eBin vMod (eBin vFdv (eVar 0) (eC (.int 26))) (eC (.int 8))))))
def q__law_words_2 (T : Tbl) : SM :=
      (sSet 4 (eBin vMod (eBin vFdv (eVar 0) (eC (.int 208))) (eApp vLen (aCons (eVar 3) aNil))))
def q__law_words_3 (T : Tbl) : SM :=
      (sIf (eBin (vEqF false) (eBin vMod (eBin vFdv (eVar 0) (eC (.int 1664))) (eC (.int 3))) (eC (.int 1)))
      (sCons (sRet (eComp (iRng1' (eVar 1)) (gName 5) tTrue (eBin vMul (eBin vIx (eVar 2) (eBin vMod (eVar 0) (eC (.int 26)))) (eBin vAdd (eC (.int 1)) (eVar 5))) [5]))
      sNil)
      sNil)
def q__law_words_4 (T : Tbl) : SM :=
      (sRet (eComp (iRng1' (eVar 1)) (gName 5) tTrue (eBin vAdd (eBin vAdd (eSl (eVar 3) oNone (oSome (eVar 4))) (eBin vIx (eVar 2) (eBin vMod (eBin vAdd (eBin vFdv (eVar 0) (eC (.int 4992))) (eBin vMul (eC (.int 5)) (eVar 5))) (eC (.int 26))))) (eSl (eVar 3) (oSome (eBin vAdd (eVar 4) (eC (.int 1)))) oNone)) [5]))
theorem b__law_words_q (T : Tbl) : b__law_words T = (sCons (q__law_words_0 T) (sCons (q__law_words_1 T) (sCons (q__law_words_2 T) (sCons (q__law_words_3 T) (sCons (q__law_words_4 T) sNil))))) := rfl
abbrev d__law_words : FnD := ⟨2, 6, false, b__law_words⟩
theorem sc__law_words : FnScope N__law_words ["_law_cell_here", "_law_many"] (defScope s__law_words) := ⟨rfl, rfl, rfl, by decide +kernel, rfl, by decide +kernel, by decide +kernel⟩
theorem ok__law_words {P : Program} {w : World} {K : PySem.W.Frag} {mg : Str → Option Value} {base : Heap} {f : Addr} {fd : FuncData} {n : Nat} {T : Tbl} {C : Nat → Addr} (F : Fun K "_law_words" "_law_words" s__law_words f fd) (hB : ∀ x ∈ bs, mg x = none) (hC : ∀ p ∈ cs, ∃ u, mg p.1 = some u ∧ RelV (.int p.2) u)
    (hX : ∀ p ∈ pr.xs, ExF K mg p.1 (C p.2)) (hF : FnAt P w K mg base C pr T n) : FnOk P w K mg base (L2N.CX P w) (n + 1) f fd ["_law_cell_here", "_law_many"] (spI P w K C (pr.fr 18) (callI d__law_words T)) :=
  fn_ok F sc__law_words rfl rfl fun cdv A outer s H E hr => by
    have c : Cok (cxOf (L2N.CX P w) P w K mg base N__law_words "_law_words" (defScope s__law_words) f cdv A outer s H E) ⟨C, E⟩ pr T n bs cs := ⟨rfl, sc__law_words.nd, hr, hF, hB, hC, L2N.takes_of rfl rfl rfl rfl, L2.passes_of rfl, hX⟩
    show EvSs _ _ _ _ (b__law_words T)
    unfold b__law_words
    exact (evss_cons (evs_set c.nd ev_str)
      (evss_cons (evs_set c.nd (ev_op op_mul2 os_mul (ev_ix (ix_4 c.u) os_ix (ev_var 2) (ev_op op_mod os_mod (ev_var 0) ev_int)) (ev_op op_add4 os_add ev_int (ev_op op_mod os_mod (ev_op op_fdivW os_fdv (ev_var 0) ev_int) ev_int))))
      (evss_cons (evs_set c.nd (ev_op op_mod os_mod (ev_op op_fdivW os_fdv (ev_var 0) ev_int) (ev_callB call_len2 cs_len (c.blt "len" (List.mem_of_getElem? (i := 4) rfl)) PySem.boot_len (eva_cons (ev_var 3) eva_nil))))
      (evss_cons (evs_if (evt_cmp (op_eq3 c.u) (OpSem.weak os_eq) (ev_op op_mod os_mod (ev_op op_fdivW os_fdv (ev_var 0) ev_int) ev_int) ev_int)
      (evss_cons (evs_ret (Ev.weak (ev_compC [("_law_k", 5)] c (evi_rng1 (ev_var 1) (c.blt "range" (List.mem_of_getElem? (i := 6) rfl))) (blkOk_by (own := [("_law_k", 5)]) (N := N__law_words) (sc := defScope s__law_words) (by decide +kernel)) (fun _ _ _ _ _ c => (evg_name c.nd)) (fun _ _ _ _ _ c => evts_nil) (fun _ _ _ _ _ c => (ev_op op_mul2 os_mul (ev_ix (ix_4 c.u) os_ix (ev_var 2) (ev_op op_mod os_mod (ev_var 0) ev_int)) (ev_op op_add4 os_add ev_int (ev_var 5)))))))
      evss_nil)
      evss_nil)
      (evss_cons (evs_ret (Ev.weak (ev_compC [("_law_k", 5)] c (evi_rng1 (ev_var 1) (c.blt "range" (List.mem_of_getElem? (i := 6) rfl))) (blkOk_by (own := [("_law_k", 5)]) (N := N__law_words) (sc := defScope s__law_words) (by decide +kernel)) (fun _ _ _ _ _ c => (evg_name c.nd)) (fun _ _ _ _ _ c => evts_nil) (fun _ _ _ _ _ c => (ev_op op_add4 os_add (ev_op op_add4 os_add (ev_sl (ev_var 3) evo_none (evo_some (ev_var 4))) (ev_ix (ix_4 c.u) os_ix (ev_var 2) (ev_op op_mod os_mod (ev_op op_add4 os_add (ev_op op_fdivW os_fdv (ev_var 0) ev_int) (ev_op op_mul2 os_mul ev_int (ev_var 5))) ev_int))) (ev_sl (ev_var 3) (evo_some (ev_op op_add4 os_add (ev_var 4) ev_int)) evo_none))))))
      evss_nil)))))

/-! _law_term -/
abbrev s__law_term : Stmt := topS 31
abbrev N__law_term : List Str := ["_law_cell_here", "_law_words_here", "_law_deep", "_law_kind_here", "_law_word"]
def b__law_term (T : Tbl) : SM :=
      (sCons (sSet 3 (eBin vMod (eVar 0) (eC (.int 6))))
      (sCons (sIf (eBin (vEqF false) (eVar 3) (eC (.int 0)))
      (sCons (sRet (eTup (aCons (eC (.str "num")) (aCons (eBin vMod (eBin vFdv (eVar 0) (eC (.int 6))) (eC (.int 3))) aNil))))
      sNil)
      sNil)
      (sCons (sIf (eBin (vEqF false) (eVar 3) (eC (.int 1)))
      (sCons (sRet (eTup (aCons (eC (.str "num")) (aCons (eBin vMod (eBin vFdv (eVar 0) (eC (.int 6))) (eC (.int 1000003))) aNil))))
      sNil)
      sNil)
      (sCons (sIf (eOr (eBin vLt (eVar 3) (eC (.int 4))) (eBin (vEqF false) (eVar 2) (eC (.int 0))))
      (sCons (sRet (eTup (aCons (eC (.str "name")) (aCons (eBin vIx (eVar 1) (eBin vMod (eBin vFdv (eVar 0) (eC (.int 6))) (eApp vLen (aCons (eVar 1) aNil)))) aNil))))
      sNil)
      sNil)
      (sCons (sSet 4 (eBin vIx (eLst (aCons (eC (.str "sum")) (aCons (eC (.str "less")) (aCons (eC (.str "times")) aNil)))) (eBin vMod (eBin vFdv (eVar 0) (eC (.int 6))) (eC (.int 3)))))
      (sCons (sRet (eTup (aCons (eVar 4) (aCons (eApp (T i__law_term) (aCons (eApp (T i__law_mixed) (aCons (eVar 0) (aCons (eC (.int 1)) aNil))) (aCons (eVar 1) (aCons (eBin vSub (eVar 2) (eC (.int 1))) aNil)))) (aCons (eApp (T i__law_term) (aCons (eApp (T i__law_mixed) (aCons (eVar 0) (aCons (eC (.int 2)) aNil))) (aCons (eVar 1) (aCons (eBin vSub (eVar 2) (eC (.int 1))) aNil)))) aNil)))))
      sNil))))))
def q__law_term_0 (T : Tbl) : SM :=
      (sSet 3 (eBin vMod (eVar 0) (eC (.int 6))))
def q__law_term_1 (T : Tbl) : SM :=
      (sIf (eBin (vEqF false) (eVar 3) (eC (.int 0)))
      (sCons (sRet (eTup (aCons (eC (.str "num")) (aCons (eBin vMod (eBin vFdv (eVar 0) (eC (.int 6))) (eC (.int 3))) aNil))))
      sNil)
      sNil)
def q__law_term_2 (T : Tbl) : SM :=
      (sIf (eBin (vEqF false) (eVar 3) (eC (.int 1)))
      (sCons (sRet (eTup (aCons (eC (.str "num")) (aCons (eBin vMod (eBin vFdv (eVar 0) (eC (.int 6))) (eC (.int 1000003))) aNil))))
      sNil)
      sNil)
def q__law_term_3 (T : Tbl) : SM :=
      (sIf (eOr (eBin vLt (eVar 3) (eC (.int 4))) (eBin (vEqF false) (eVar 2) (eC (.int 0))))
      (sCons (sRet (eTup (aCons (eC (.str "name")) (aCons (eBin vIx (eVar 1) (eBin vMod (eBin vFdv (eVar 0) (eC (.int 6))) (eApp vLen (aCons (eVar 1) aNil)))) aNil))))
      sNil)
      sNil)
def q__law_term_4 (T : Tbl) : SM :=
      (sSet 4 (eBin vIx (eLst (aCons (eC (.str "sum")) (aCons (eC (.str "less")) (aCons (eC (.str "times")) aNil)))) (eBin vMod (eBin vFdv (eVar 0) (eC (.int 6))) (eC (.int 3)))))
def q__law_term_5 (T : Tbl) : SM :=
      (sRet (eTup (aCons (eVar 4) (aCons (eApp (T i__law_term) (aCons (eApp (T i__law_mixed) (aCons (eVar 0) (aCons (eC (.int 1)) aNil))) (aCons (eVar 1) (aCons (eBin vSub (eVar 2) (eC (.int 1))) aNil)))) (aCons (eApp (T i__law_term) (aCons (eApp (T i__law_mixed) (aCons (eVar 0) (aCons (eC (.int 2)) aNil))) (aCons (eVar 1) (aCons (eBin vSub (eVar 2) (eC (.int 1))) aNil)))) aNil)))))
theorem b__law_term_q (T : Tbl) : b__law_term T = (sCons (q__law_term_0 T) (sCons (q__law_term_1 T) (sCons (q__law_term_2 T) (sCons (q__law_term_3 T) (sCons (q__law_term_4 T) (sCons (q__law_term_5 T) sNil)))))) := rfl
abbrev d__law_term : FnD := ⟨3, 5, false, b__law_term⟩
theorem sc__law_term : FnScope N__law_term ["_law_cell_here", "_law_words_here", "_law_deep"] (defScope s__law_term) := ⟨rfl, rfl, rfl, by decide +kernel, rfl, by decide +kernel, by decide +kernel⟩
theorem ok__law_term {P : Program} {w : World} {K : PySem.W.Frag} {mg : Str → Option Value} {base : Heap} {f : Addr} {fd : FuncData} {n : Nat} {T : Tbl} {C : Nat → Addr} (F : Fun K "_law_term" "_law_term" s__law_term f fd) (hB : ∀ x ∈ bs, mg x = none) (hC : ∀ p ∈ cs, ∃ u, mg p.1 = some u ∧ RelV (.int p.2) u)
    (hX : ∀ p ∈ pr.xs, ExF K mg p.1 (C p.2)) (hF : FnAt P w K mg base C pr T n) : FnOk P w K mg base (L2N.CX P w) (n + 1) f fd ["_law_cell_here", "_law_words_here", "_law_deep"] (spI P w K C (pr.fr 19) (callI d__law_term T)) :=
  fn_ok F sc__law_term rfl rfl fun cdv A outer s H E hr => by
    have c : Cok (cxOf (L2N.CX P w) P w K mg base N__law_term "_law_term" (defScope s__law_term) f cdv A outer s H E) ⟨C, E⟩ pr T n bs cs := ⟨rfl, sc__law_term.nd, hr, hF, hB, hC, L2N.takes_of rfl rfl rfl rfl, L2.passes_of rfl, hX⟩
    show EvSs _ _ _ _ (b__law_term T)
    unfold b__law_term
    exact (evss_cons (evs_set c.nd (ev_op op_mod os_mod (ev_var 0) ev_int))
      (evss_cons (evs_if (evt_cmp (op_eq3 c.u) (OpSem.weak os_eq) (ev_var 3) ev_int)
      (evss_cons (evs_ret (Ev.weak (ev_tup (eva_cons ev_str (eva_cons (ev_op op_mod os_mod (ev_op op_fdivW os_fdv (ev_var 0) ev_int) ev_int) eva_nil)))))
      evss_nil)
      evss_nil)
      (evss_cons (evs_if (evt_cmp (op_eq3 c.u) (OpSem.weak os_eq) (ev_var 3) ev_int)
      (evss_cons (evs_ret (Ev.weak (ev_tup (eva_cons ev_str (eva_cons (ev_op op_mod os_mod (ev_op op_fdivW os_fdv (ev_var 0) ev_int) ev_int) eva_nil)))))
      evss_nil)
      evss_nil)
      (evss_cons (evs_if (evw_pt (evw_or (evt_cmp op_lt (OpSem.weak os_cmp) (ev_var 3) ev_int) (evw_or1 (evt_cmp (op_eq3 c.u) (OpSem.weak os_eq) (ev_var 2) ev_int))))
      (evss_cons (evs_ret (Ev.weak (ev_tup (eva_cons ev_str (eva_cons (ev_ix (ix_4 c.u) os_ix (ev_var 1) (ev_op op_mod os_mod (ev_op op_fdivW os_fdv (ev_var 0) ev_int) (ev_callB call_len2 cs_len (c.blt "len" (List.mem_of_getElem? (i := 4) rfl)) PySem.boot_len (eva_cons (ev_var 1) eva_nil)))) eva_nil)))))
      evss_nil)
      evss_nil)
      (evss_cons (evs_set c.nd (ev_ix (ix_4 c.u) os_ix (ev_lst (eva_cons ev_str (eva_cons ev_str (eva_cons ev_str eva_nil)))) (ev_op op_mod os_mod (ev_op op_fdivW os_fdv (ev_var 0) ev_int) ev_int)))
      (evss_cons (evs_ret (Ev.weak (ev_tup (eva_cons (ev_var 4) (eva_cons (ev_call c i__law_term (eva_cons (ev_call c i__law_mixed (eva_cons (ev_var 0) (eva_cons ev_int eva_nil))) (eva_cons (ev_var 1) (eva_cons (ev_op op_sub os_sub (ev_var 2) ev_int) eva_nil)))) (eva_cons (ev_call c i__law_term (eva_cons (ev_call c i__law_mixed (eva_cons (ev_var 0) (eva_cons ev_int eva_nil))) (eva_cons (ev_var 1) (eva_cons (ev_op op_sub os_sub (ev_var 2) ev_int) eva_nil)))) eva_nil))))))
      evss_nil))))))

/-! _law_given -/
abbrev s__law_given : Stmt := topS 32
abbrev N__law_given : List Str := ["_law_cell_here", "_law_words_here", "_law_name"]
def b__law_given (T : Tbl) : SM :=
      (sCons (sIf (eBin (vEqF false) (eBin vMod (eVar 0) (eC (.int 2))) (eC (.int 0)))
      (sCons (sRet (eTup (aCons (eC (.str "name")) (aCons (eVar 2) aNil))))
      sNil)
      sNil)
      (sCons (sRet (eApp (T i__law_term) (aCons (eBin vFdv (eVar 0) (eC (.int 2))) (aCons (eVar 1) (aCons (eC (.int 1)) aNil)))))
      sNil))
def q__law_given_0 (T : Tbl) : SM :=
      (sIf (eBin (vEqF false) (eBin vMod (eVar 0) (eC (.int 2))) (eC (.int 0)))
      (sCons (sRet (eTup (aCons (eC (.str "name")) (aCons (eVar 2) aNil))))
      sNil)
      sNil)
def q__law_given_1 (T : Tbl) : SM :=
      (sRet (eApp (T i__law_term) (aCons (eBin vFdv (eVar 0) (eC (.int 2))) (aCons (eVar 1) (aCons (eC (.int 1)) aNil)))))
theorem b__law_given_q (T : Tbl) : b__law_given T = (sCons (q__law_given_0 T) (sCons (q__law_given_1 T) sNil)) := rfl
abbrev d__law_given : FnD := ⟨3, 3, false, b__law_given⟩
theorem sc__law_given : FnScope N__law_given ["_law_cell_here", "_law_words_here", "_law_name"] (defScope s__law_given) := ⟨rfl, rfl, rfl, by decide +kernel, rfl, by decide +kernel, by decide +kernel⟩
theorem ok__law_given {P : Program} {w : World} {K : PySem.W.Frag} {mg : Str → Option Value} {base : Heap} {f : Addr} {fd : FuncData} {n : Nat} {T : Tbl} {C : Nat → Addr} (F : Fun K "_law_given" "_law_given" s__law_given f fd) (hB : ∀ x ∈ bs, mg x = none) (hC : ∀ p ∈ cs, ∃ u, mg p.1 = some u ∧ RelV (.int p.2) u)
    (hX : ∀ p ∈ pr.xs, ExF K mg p.1 (C p.2)) (hF : FnAt P w K mg base C pr T n) : FnOk P w K mg base (L2N.CX P w) (n + 1) f fd ["_law_cell_here", "_law_words_here", "_law_name"] (spI P w K C (pr.fr 20) (callI d__law_given T)) :=
  fn_ok F sc__law_given rfl rfl fun cdv A outer s H E hr => by
    have c : Cok (cxOf (L2N.CX P w) P w K mg base N__law_given "_law_given" (defScope s__law_given) f cdv A outer s H E) ⟨C, E⟩ pr T n bs cs := ⟨rfl, sc__law_given.nd, hr, hF, hB, hC, L2N.takes_of rfl rfl rfl rfl, L2.passes_of rfl, hX⟩
    show EvSs _ _ _ _ (b__law_given T)
    unfold b__law_given
    exact (evss_cons (evs_if (evt_cmp (op_eq3 c.u) (OpSem.weak os_eq) (ev_op op_mod os_mod (ev_var 0) ev_int) ev_int)
      (evss_cons (evs_ret (Ev.weak (ev_tup (eva_cons ev_str (eva_cons (ev_var 2) eva_nil)))))
      evss_nil)
      evss_nil)
      (evss_cons (evs_ret (Ev.weak (ev_call c i__law_term (eva_cons (ev_op op_fdivW os_fdv (ev_var 0) ev_int) (eva_cons (ev_var 1) (eva_cons ev_int eva_nil))))))
      evss_nil))

/-! _law_call -/
abbrev s__law_call : Stmt := topS 33
abbrev N__law_call : List Str := ["_law_cell_here", "_law_words_here", "_law_heads", "_law_head", "_law_terms", "_law_target_here", "_law_k"]
def b__law_call (T : Tbl) : SM :=
      (sCons (sSet 3 (eBin vIx (eVar 2) (eBin vMod (eBin vFdv (eVar 0) (eC (.int 7))) (eApp vLen (aCons (eVar 2) aNil)))))
      (sCons (sSet 4 (eComp (iRng1' (eApp vLen (aCons (eBin vIx (eVar 3) (eC (.int 1))) aNil))) (gName 6) tTrue (eApp (T i__law_given) (aCons (eApp (T i__law_mixed) (aCons (eVar 0) (aCons (eBin vAdd (eC (.int 10)) (eVar 6)) aNil))) (aCons (eVar 1) (aCons (eBin vIx (eBin vIx (eVar 3) (eC (.int 1))) (eVar 6)) aNil)))) [6]))
      (sCons (sSet 5 (eBin vIx (eVar 1) (eBin vMod (eBin vFdv (eVar 0) (eC (.int 49))) (eApp vLen (aCons (eVar 1) aNil)))))
      (sCons (sIf (eBin (vEqF false) (eBin vMod (eVar 0) (eC (.int 3))) (eC (.int 0)))
      (sCons (sSet 5 (eC .non))
      sNil)
      sNil)
      (sCons (sRet (eTup (aCons (eC (.str "call")) (aCons (eVar 5) (aCons (eBin vIx (eVar 3) (eC (.int 0))) (aCons (eApp vTuple (aCons (eVar 4) aNil)) aNil))))))
      sNil)))))
def q__law_call_0 (T : Tbl) : SM :=
      (sSet 3 (eBin vIx (eVar 2) (eBin vMod (eBin vFdv (eVar 0) (eC (.int 7))) (eApp vLen (aCons (eVar 2) aNil)))))
def q__law_call_1 (T : Tbl) : SM :=
      (sSet 4 (eComp (iRng1' (eApp vLen (aCons (eBin vIx (eVar 3) (eC (.int 1))) aNil))) (gName 6) tTrue (eApp (T i__law_given) (aCons (eApp (T i__law_mixed) (aCons (eVar 0) (aCons (eBin vAdd (eC (.int 10)) (eVar 6)) aNil))) (aCons (eVar 1) (aCons (eBin vIx (eBin vIx (eVar 3) (eC (.int 1))) (eVar 6)) aNil)))) [6]))
def q__law_call_2 (T : Tbl) : SM :=
      (sSet 5 (eBin vIx (eVar 1) (eBin vMod (eBin vFdv (eVar 0) (eC (.int 49))) (eApp vLen (aCons (eVar 1) aNil)))))
def q__law_call_3 (T : Tbl) : SM :=
      (sIf (eBin (vEqF false) (eBin vMod (eVar 0) (eC (.int 3))) (eC (.int 0)))
      (sCons (sSet 5 (eC .non))
      sNil)
      sNil)
def q__law_call_4 (T : Tbl) : SM :=
      (sRet (eTup (aCons (eC (.str "call")) (aCons (eVar 5) (aCons (eBin vIx (eVar 3) (eC (.int 0))) (aCons (eApp vTuple (aCons (eVar 4) aNil)) aNil))))))
theorem b__law_call_q (T : Tbl) : b__law_call T = (sCons (q__law_call_0 T) (sCons (q__law_call_1 T) (sCons (q__law_call_2 T) (sCons (q__law_call_3 T) (sCons (q__law_call_4 T) sNil))))) := rfl
abbrev d__law_call : FnD := ⟨3, 7, false, b__law_call⟩
theorem sc__law_call : FnScope N__law_call ["_law_cell_here", "_law_words_here", "_law_heads"] (defScope s__law_call) := ⟨rfl, rfl, rfl, by decide +kernel, rfl, by decide +kernel, by decide +kernel⟩
theorem ok__law_call {P : Program} {w : World} {K : PySem.W.Frag} {mg : Str → Option Value} {base : Heap} {f : Addr} {fd : FuncData} {n : Nat} {T : Tbl} {C : Nat → Addr} (F : Fun K "_law_call" "_law_call" s__law_call f fd) (hB : ∀ x ∈ bs, mg x = none) (hC : ∀ p ∈ cs, ∃ u, mg p.1 = some u ∧ RelV (.int p.2) u)
    (hX : ∀ p ∈ pr.xs, ExF K mg p.1 (C p.2)) (hF : FnAt P w K mg base C pr T n) : FnOk P w K mg base (L2N.CX P w) (n + 1) f fd ["_law_cell_here", "_law_words_here", "_law_heads"] (spI P w K C (pr.fr 21) (callI d__law_call T)) :=
  fn_ok F sc__law_call rfl rfl fun cdv A outer s H E hr => by
    have c : Cok (cxOf (L2N.CX P w) P w K mg base N__law_call "_law_call" (defScope s__law_call) f cdv A outer s H E) ⟨C, E⟩ pr T n bs cs := ⟨rfl, sc__law_call.nd, hr, hF, hB, hC, L2N.takes_of rfl rfl rfl rfl, L2.passes_of rfl, hX⟩
    show EvSs _ _ _ _ (b__law_call T)
    unfold b__law_call
    exact (evss_cons (evs_set c.nd (ev_ix (ix_4 c.u) os_ix (ev_var 2) (ev_op op_mod os_mod (ev_op op_fdivW os_fdv (ev_var 0) ev_int) (ev_callB call_len2 cs_len (c.blt "len" (List.mem_of_getElem? (i := 4) rfl)) PySem.boot_len (eva_cons (ev_var 2) eva_nil)))))
      (evss_cons (evs_setLcC [("_law_k", 6)] c lc_plain (evi_rng1 (ev_callB call_len2 cs_len (c.blt "len" (List.mem_of_getElem? (i := 4) rfl)) PySem.boot_len (eva_cons (ev_ix (ix_4 c.u) os_ix (ev_var 3) ev_int) eva_nil)) (c.blt "range" (List.mem_of_getElem? (i := 6) rfl))) (blkOk_by (own := [("_law_k", 6)]) (N := N__law_call) (sc := defScope s__law_call) (by decide +kernel)) (fun _ _ _ _ _ c => (evg_name c.nd)) (fun _ _ _ _ _ c => evts_nil) (fun _ _ _ _ _ c => (ev_call c i__law_given (eva_cons (ev_call c i__law_mixed (eva_cons (ev_var 0) (eva_cons (ev_op op_add4 os_add ev_int (ev_var 6)) eva_nil))) (eva_cons (ev_var 1) (eva_cons (ev_ix (ix_4 c.u) os_ix (ev_ix (ix_4 c.u) os_ix (ev_var 3) ev_int) (ev_var 6)) eva_nil))))))
      (evss_cons (evs_set c.nd (ev_ix (ix_4 c.u) os_ix (ev_var 1) (ev_op op_mod os_mod (ev_op op_fdivW os_fdv (ev_var 0) ev_int) (ev_callB call_len2 cs_len (c.blt "len" (List.mem_of_getElem? (i := 4) rfl)) PySem.boot_len (eva_cons (ev_var 1) eva_nil)))))
      (evss_cons (evs_if (evt_cmp (op_eq3 c.u) (OpSem.weak os_eq) (ev_op op_mod os_mod (ev_var 0) ev_int) ev_int)
      (evss_cons (evs_set c.nd ev_non)
      evss_nil)
      evss_nil)
      (evss_cons (evs_ret (Ev.weak (ev_tup (eva_cons ev_str (eva_cons (ev_var 5) (eva_cons (ev_ix (ix_4 c.u) os_ix (ev_var 3) ev_int) (eva_cons (ev_callTy call_tuple_of cs_tuple (c.blt "tuple" (List.mem_of_getElem? (i := 10) rfl)) boot_tuple (eva_cons (ev_var 4) eva_nil)) eva_nil)))))))
      evss_nil)))))

/-! _law_row -/
abbrev s__law_row : Stmt := topS 34
abbrev N__law_row : List Str := ["_law_cell_here", "_law_words_here", "_law_heads", "_law_deep", "_law_kind_here", "_law_rest", "_law_word", "_law_few", "_law_rows_here", "_law_count"]
def b__law_row (T : Tbl) : SM :=
      (sCons (sSet 4 (eBin vMod (eVar 0) (eC (.int 9))))
      (sCons (sSet 5 (eApp (T i__law_mixed) (aCons (eVar 0) (aCons (eC (.int 3)) aNil))))
      (sCons (sSet 6 (eBin vIx (eVar 1) (eBin vMod (eBin vFdv (eVar 0) (eC (.int 9))) (eApp vLen (aCons (eVar 1) aNil)))))
      (sCons (sSet 7 (eSl (eVar 2) oNone (oSome (eBin vAdd (eC (.int 1)) (eApp vInt (aCons (eBin (vEqF false) (eBin vMod (eBin vFdv (eVar 0) (eC (.int 3645))) (eC (.int 8))) (eC (.int 1))) aNil))))))
      (sCons (sIf (eOr (eBin (vEqF false) (eVar 4) (eC (.int 2))) (eBin (vEqF false) (eVar 4) (eC (.int 8))))
      (sCons (sRet (eTup (aCons (eC (.str "tell")) (aCons (eApp (T i__law_term) (aCons (eVar 5) (aCons (eVar 1) (aCons (eC (.int 2)) aNil)))) aNil))))
      sNil)
      sNil)
      (sCons (sIf (eAnd (eBin vLt (eC (.int 2)) (eVar 4)) (eAnd (eBin vLt (eVar 4) (eC (.int 6))) (eBin (vEqF true) (eVar 2) (eLst aNil))))
      (sCons (sRet (eApp (T i__law_call) (aCons (eVar 5) (aCons (eVar 1) (aCons (eVar 2) aNil)))))
      sNil)
      sNil)
      (sCons (sIf (eAnd (eBin (vEqF false) (eVar 4) (eC (.int 6))) (eBin vGt (eVar 3) (eC (.int 0))))
      (sCons (sSet 8 (eApp (T i__law_rows) (aCons (eVar 5) (aCons (eVar 1) (aCons (eVar 7) (aCons (eBin vSub (eVar 3) (eC (.int 1))) (aCons (eBin vAdd (eC (.int 1)) (eBin vMod (eBin vFdv (eVar 0) (eC (.int 9))) (eC (.int 3)))) aNil)))))))
      (sCons (sRet (eTup (aCons (eC (.str "when")) (aCons (eApp (T i__law_term) (aCons (eApp (T i__law_mixed) (aCons (eVar 0) (aCons (eC (.int 4)) aNil))) (aCons (eVar 1) (aCons (eC (.int 1)) aNil)))) (aCons (eVar 8) aNil)))))
      sNil))
      sNil)
      (sCons (sIf (eAnd (eBin (vEqF false) (eVar 4) (eC (.int 7))) (eBin vGt (eVar 3) (eC (.int 0))))
      (sCons (sSet 9 (eBin vIx (eLst (aCons (eC (.int 2)) (aCons (eC (.int 1)) (aCons (eC (.int 2)) (aCons (eC (.int 0)) aNil))))) (eBin vMod (eBin vFdv (eVar 0) (eC (.int 27))) (eC (.int 4)))))
      (sCons (sIf (eAnd (eBin (vEqF false) (eVar 2) (eLst aNil)) (eBin (vEqF false) (eVar 3) (eC (.int 2))))
      (sCons (sSet 9 (eBin vIx (eLst (aCons (eC (.int 2)) (aCons (eC (.int 3)) (aCons (eC (.int 1)) (aCons (eBin vMod (eBin vFdv (eVar 0) (eC (.int 135))) (eC (.int 10))) (aCons (eC (.int 0)) aNil)))))) (eBin vMod (eBin vFdv (eVar 0) (eC (.int 27))) (eC (.int 5)))))
      sNil)
      sNil)
      (sCons (sRet (eTup (aCons (eC (.str "again")) (aCons (eVar 9) (aCons (eApp (T i__law_rows) (aCons (eVar 5) (aCons (eVar 1) (aCons (eVar 7) (aCons (eBin vSub (eVar 3) (eC (.int 1))) (aCons (eBin vAdd (eC (.int 1)) (eBin vMod (eBin vFdv (eVar 0) (eC (.int 9))) (eC (.int 3)))) aNil)))))) aNil)))))
      sNil)))
      sNil)
      (sCons (sRet (eTup (aCons (eC (.str "set")) (aCons (eVar 6) (aCons (eApp (T i__law_term) (aCons (eVar 5) (aCons (eVar 1) (aCons (eBin vAdd (eC (.int 1)) (eBin vMod (eVar 4) (eC (.int 2)))) aNil)))) aNil)))))
      sNil)))))))))
def q__law_row_0 (T : Tbl) : SM :=
      (sSet 4 (eBin vMod (eVar 0) (eC (.int 9))))
def q__law_row_1 (T : Tbl) : SM :=
      (sSet 5 (eApp (T i__law_mixed) (aCons (eVar 0) (aCons (eC (.int 3)) aNil))))
def q__law_row_2 (T : Tbl) : SM :=
      (sSet 6 (eBin vIx (eVar 1) (eBin vMod (eBin vFdv (eVar 0) (eC (.int 9))) (eApp vLen (aCons (eVar 1) aNil)))))
def q__law_row_3 (T : Tbl) : SM :=
      (sSet 7 (eSl (eVar 2) oNone (oSome (eBin vAdd (eC (.int 1)) (eApp vInt (aCons (eBin (vEqF false) (eBin vMod (eBin vFdv (eVar 0) (eC (.int 3645))) (eC (.int 8))) (eC (.int 1))) aNil))))))
def q__law_row_4 (T : Tbl) : SM :=
      (sIf (eOr (eBin (vEqF false) (eVar 4) (eC (.int 2))) (eBin (vEqF false) (eVar 4) (eC (.int 8))))
      (sCons (sRet (eTup (aCons (eC (.str "tell")) (aCons (eApp (T i__law_term) (aCons (eVar 5) (aCons (eVar 1) (aCons (eC (.int 2)) aNil)))) aNil))))
      sNil)
      sNil)
def q__law_row_5 (T : Tbl) : SM :=
      (sIf (eAnd (eBin vLt (eC (.int 2)) (eVar 4)) (eAnd (eBin vLt (eVar 4) (eC (.int 6))) (eBin (vEqF true) (eVar 2) (eLst aNil))))
      (sCons (sRet (eApp (T i__law_call) (aCons (eVar 5) (aCons (eVar 1) (aCons (eVar 2) aNil)))))
      sNil)
      sNil)
def q__law_row_6 (T : Tbl) : SM :=
      (sIf (eAnd (eBin (vEqF false) (eVar 4) (eC (.int 6))) (eBin vGt (eVar 3) (eC (.int 0))))
      (sCons (sSet 8 (eApp (T i__law_rows) (aCons (eVar 5) (aCons (eVar 1) (aCons (eVar 7) (aCons (eBin vSub (eVar 3) (eC (.int 1))) (aCons (eBin vAdd (eC (.int 1)) (eBin vMod (eBin vFdv (eVar 0) (eC (.int 9))) (eC (.int 3)))) aNil)))))))
      (sCons (sRet (eTup (aCons (eC (.str "when")) (aCons (eApp (T i__law_term) (aCons (eApp (T i__law_mixed) (aCons (eVar 0) (aCons (eC (.int 4)) aNil))) (aCons (eVar 1) (aCons (eC (.int 1)) aNil)))) (aCons (eVar 8) aNil)))))
      sNil))
      sNil)
def q__law_row_7 (T : Tbl) : SM :=
      (sIf (eAnd (eBin (vEqF false) (eVar 4) (eC (.int 7))) (eBin vGt (eVar 3) (eC (.int 0))))
      (sCons (sSet 9 (eBin vIx (eLst (aCons (eC (.int 2)) (aCons (eC (.int 1)) (aCons (eC (.int 2)) (aCons (eC (.int 0)) aNil))))) (eBin vMod (eBin vFdv (eVar 0) (eC (.int 27))) (eC (.int 4)))))
      (sCons (sIf (eAnd (eBin (vEqF false) (eVar 2) (eLst aNil)) (eBin (vEqF false) (eVar 3) (eC (.int 2))))
      (sCons (sSet 9 (eBin vIx (eLst (aCons (eC (.int 2)) (aCons (eC (.int 3)) (aCons (eC (.int 1)) (aCons (eBin vMod (eBin vFdv (eVar 0) (eC (.int 135))) (eC (.int 10))) (aCons (eC (.int 0)) aNil)))))) (eBin vMod (eBin vFdv (eVar 0) (eC (.int 27))) (eC (.int 5)))))
      sNil)
      sNil)
      (sCons (sRet (eTup (aCons (eC (.str "again")) (aCons (eVar 9) (aCons (eApp (T i__law_rows) (aCons (eVar 5) (aCons (eVar 1) (aCons (eVar 7) (aCons (eBin vSub (eVar 3) (eC (.int 1))) (aCons (eBin vAdd (eC (.int 1)) (eBin vMod (eBin vFdv (eVar 0) (eC (.int 9))) (eC (.int 3)))) aNil)))))) aNil)))))
      sNil)))
      sNil)
def q__law_row_8 (T : Tbl) : SM :=
      (sRet (eTup (aCons (eC (.str "set")) (aCons (eVar 6) (aCons (eApp (T i__law_term) (aCons (eVar 5) (aCons (eVar 1) (aCons (eBin vAdd (eC (.int 1)) (eBin vMod (eVar 4) (eC (.int 2)))) aNil)))) aNil)))))
theorem b__law_row_q (T : Tbl) : b__law_row T = (sCons (q__law_row_0 T) (sCons (q__law_row_1 T) (sCons (q__law_row_2 T) (sCons (q__law_row_3 T) (sCons (q__law_row_4 T) (sCons (q__law_row_5 T) (sCons (q__law_row_6 T) (sCons (q__law_row_7 T) (sCons (q__law_row_8 T) sNil))))))))) := rfl
abbrev d__law_row : FnD := ⟨4, 10, false, b__law_row⟩
theorem sc__law_row : FnScope N__law_row ["_law_cell_here", "_law_words_here", "_law_heads", "_law_deep"] (defScope s__law_row) := ⟨rfl, rfl, rfl, by decide +kernel, rfl, by decide +kernel, by decide +kernel⟩
theorem ok__law_row {P : Program} {w : World} {K : PySem.W.Frag} {mg : Str → Option Value} {base : Heap} {f : Addr} {fd : FuncData} {n : Nat} {T : Tbl} {C : Nat → Addr} (F : Fun K "_law_row" "_law_row" s__law_row f fd) (hB : ∀ x ∈ bs, mg x = none) (hC : ∀ p ∈ cs, ∃ u, mg p.1 = some u ∧ RelV (.int p.2) u)
    (hX : ∀ p ∈ pr.xs, ExF K mg p.1 (C p.2)) (hF : FnAt P w K mg base C pr T n) : FnOk P w K mg base (L2N.CX P w) (n + 1) f fd ["_law_cell_here", "_law_words_here", "_law_heads", "_law_deep"] (spI P w K C (pr.fr 22) (callI d__law_row T)) :=
  fn_ok F sc__law_row rfl rfl fun cdv A outer s H E hr => by
    have c : Cok (cxOf (L2N.CX P w) P w K mg base N__law_row "_law_row" (defScope s__law_row) f cdv A outer s H E) ⟨C, E⟩ pr T n bs cs := ⟨rfl, sc__law_row.nd, hr, hF, hB, hC, L2N.takes_of rfl rfl rfl rfl, L2.passes_of rfl, hX⟩
    show EvSs _ _ _ _ (b__law_row T)
    unfold b__law_row
    exact (evss_cons (evs_set c.nd (ev_op op_mod os_mod (ev_var 0) ev_int))
      (evss_cons (evs_set c.nd (ev_call c i__law_mixed (eva_cons (ev_var 0) (eva_cons ev_int eva_nil))))
      (evss_cons (evs_set c.nd (ev_ix (ix_4 c.u) os_ix (ev_var 1) (ev_op op_mod os_mod (ev_op op_fdivW os_fdv (ev_var 0) ev_int) (ev_callB call_len2 cs_len (c.blt "len" (List.mem_of_getElem? (i := 4) rfl)) PySem.boot_len (eva_cons (ev_var 1) eva_nil)))))
      (evss_cons (evs_set c.nd (ev_sl (ev_var 2) evo_none (evo_some (ev_op op_add4 os_add ev_int (ev_callTy call_int1 cs_int (c.blt "int" (List.mem_of_getElem? (i := 2) rfl)) boot_int (eva_cons (ev_cmp (op_eq3 c.u) os_eq (ev_op op_mod os_mod (ev_op op_fdivW os_fdv (ev_var 0) ev_int) ev_int) ev_int) eva_nil))))))
      (evss_cons (evs_if (evw_pt (evw_or (evt_cmp (op_eq3 c.u) (OpSem.weak os_eq) (ev_var 4) ev_int) (evw_or1 (evt_cmp (op_eq3 c.u) (OpSem.weak os_eq) (ev_var 4) ev_int))))
      (evss_cons (evs_ret (Ev.weak (ev_tup (eva_cons ev_str (eva_cons (ev_call c i__law_term (eva_cons (ev_var 5) (eva_cons (ev_var 1) (eva_cons ev_int eva_nil)))) eva_nil)))))
      evss_nil)
      evss_nil)
      (evss_cons (evs_if (evw_pt (evw_and (evt_cmp op_lt (OpSem.weak os_cmp) ev_int (ev_var 4)) (evw_and (evt_cmp op_lt (OpSem.weak os_cmp) (ev_var 4) ev_int) (evw_and1 (evt_cmp (op_ne3 c.u) (OpSem.weak os_eq) (ev_var 2) (ev_lst eva_nil))))))
      (evss_cons (evs_ret (Ev.weak (ev_call c i__law_call (eva_cons (ev_var 5) (eva_cons (ev_var 1) (eva_cons (ev_var 2) eva_nil))))))
      evss_nil)
      evss_nil)
      (evss_cons (evs_if (evw_pt (evw_and (evt_cmp (op_eq3 c.u) (OpSem.weak os_eq) (ev_var 4) ev_int) (evw_and1 (evt_cmp op_gt (OpSem.weak os_cmp) (ev_var 3) ev_int))))
      (evss_cons (evs_set c.nd (ev_call c i__law_rows (eva_cons (ev_var 5) (eva_cons (ev_var 1) (eva_cons (ev_var 7) (eva_cons (ev_op op_sub os_sub (ev_var 3) ev_int) (eva_cons (ev_op op_add4 os_add ev_int (ev_op op_mod os_mod (ev_op op_fdivW os_fdv (ev_var 0) ev_int) ev_int)) eva_nil)))))))
      (evss_cons (evs_ret (Ev.weak (ev_tup (eva_cons ev_str (eva_cons (ev_call c i__law_term (eva_cons (ev_call c i__law_mixed (eva_cons (ev_var 0) (eva_cons ev_int eva_nil))) (eva_cons (ev_var 1) (eva_cons ev_int eva_nil)))) (eva_cons (ev_var 8) eva_nil))))))
      evss_nil))
      evss_nil)
      (evss_cons (evs_if (evw_pt (evw_and (evt_cmp (op_eq3 c.u) (OpSem.weak os_eq) (ev_var 4) ev_int) (evw_and1 (evt_cmp op_gt (OpSem.weak os_cmp) (ev_var 3) ev_int))))
      (evss_cons (evs_set c.nd (ev_ix (ix_4 c.u) os_ix (ev_lst (eva_cons ev_int (eva_cons ev_int (eva_cons ev_int (eva_cons ev_int eva_nil))))) (ev_op op_mod os_mod (ev_op op_fdivW os_fdv (ev_var 0) ev_int) ev_int)))
      (evss_cons (evs_if (evw_pt (evw_and (evt_cmp (op_eq3 c.u) (OpSem.weak os_eq) (ev_var 2) (ev_lst eva_nil)) (evw_and1 (evt_cmp (op_eq3 c.u) (OpSem.weak os_eq) (ev_var 3) ev_int))))
      (evss_cons (evs_set c.nd (ev_ix (ix_4 c.u) os_ix (ev_lst (eva_cons ev_int (eva_cons ev_int (eva_cons ev_int (eva_cons (ev_op op_mod os_mod (ev_op op_fdivW os_fdv (ev_var 0) ev_int) ev_int) (eva_cons ev_int eva_nil)))))) (ev_op op_mod os_mod (ev_op op_fdivW os_fdv (ev_var 0) ev_int) ev_int)))
      evss_nil)
      evss_nil)
      (evss_cons (evs_ret (Ev.weak (ev_tup (eva_cons ev_str (eva_cons (ev_var 9) (eva_cons (ev_call c i__law_rows (eva_cons (ev_var 5) (eva_cons (ev_var 1) (eva_cons (ev_var 7) (eva_cons (ev_op op_sub os_sub (ev_var 3) ev_int) (eva_cons (ev_op op_add4 os_add ev_int (ev_op op_mod os_mod (ev_op op_fdivW os_fdv (ev_var 0) ev_int) ev_int)) eva_nil)))))) eva_nil))))))
      evss_nil)))
      evss_nil)
      (evss_cons (evs_ret (Ev.weak (ev_tup (eva_cons ev_str (eva_cons (ev_var 6) (eva_cons (ev_call c i__law_term (eva_cons (ev_var 5) (eva_cons (ev_var 1) (eva_cons (ev_op op_add4 os_add ev_int (ev_op op_mod os_mod (ev_var 4) ev_int)) eva_nil)))) eva_nil))))))
      evss_nil)))))))))

/-! _law_rows -/
abbrev s__law_rows : Stmt := topS 35
abbrev N__law_rows : List Str := ["_law_cell_here", "_law_words_here", "_law_heads", "_law_deep", "_law_many", "_law_k"]
def b__law_rows (T : Tbl) : SM :=
      (sCons (sRet (eApp vTuple (aCons (eComp (iRng1' (eVar 4)) (gName 5) tTrue (eApp (T i__law_row) (aCons (eApp (T i__law_mixed) (aCons (eVar 0) (aCons (eBin vAdd (eC (.int 20)) (eVar 5)) aNil))) (aCons (eVar 1) (aCons (eVar 2) (aCons (eVar 3) aNil))))) [5]) aNil)))
      sNil)
def q__law_rows_0 (T : Tbl) : SM :=
      (sRet (eApp vTuple (aCons (eComp (iRng1' (eVar 4)) (gName 5) tTrue (eApp (T i__law_row) (aCons (eApp (T i__law_mixed) (aCons (eVar 0) (aCons (eBin vAdd (eC (.int 20)) (eVar 5)) aNil))) (aCons (eVar 1) (aCons (eVar 2) (aCons (eVar 3) aNil))))) [5]) aNil)))
theorem b__law_rows_q (T : Tbl) : b__law_rows T = (sCons (q__law_rows_0 T) sNil) := rfl
abbrev d__law_rows : FnD := ⟨5, 6, false, b__law_rows⟩
theorem sc__law_rows : FnScope N__law_rows ["_law_cell_here", "_law_words_here", "_law_heads", "_law_deep", "_law_many"] (defScope s__law_rows) := ⟨rfl, rfl, rfl, by decide +kernel, rfl, by decide +kernel, by decide +kernel⟩
theorem ok__law_rows {P : Program} {w : World} {K : PySem.W.Frag} {mg : Str → Option Value} {base : Heap} {f : Addr} {fd : FuncData} {n : Nat} {T : Tbl} {C : Nat → Addr} (F : Fun K "_law_rows" "_law_rows" s__law_rows f fd) (hB : ∀ x ∈ bs, mg x = none) (hC : ∀ p ∈ cs, ∃ u, mg p.1 = some u ∧ RelV (.int p.2) u)
    (hX : ∀ p ∈ pr.xs, ExF K mg p.1 (C p.2)) (hF : FnAt P w K mg base C pr T n) : FnOk P w K mg base (L2N.CX P w) (n + 1) f fd ["_law_cell_here", "_law_words_here", "_law_heads", "_law_deep", "_law_many"] (spI P w K C (pr.fr 23) (callI d__law_rows T)) :=
  fn_ok F sc__law_rows rfl rfl fun cdv A outer s H E hr => by
    have c : Cok (cxOf (L2N.CX P w) P w K mg base N__law_rows "_law_rows" (defScope s__law_rows) f cdv A outer s H E) ⟨C, E⟩ pr T n bs cs := ⟨rfl, sc__law_rows.nd, hr, hF, hB, hC, L2N.takes_of rfl rfl rfl rfl, L2.passes_of rfl, hX⟩
    show EvSs _ _ _ _ (b__law_rows T)
    unfold b__law_rows
    exact (evss_cons (evs_ret (Ev.weak (ev_callTy call_tuple_of cs_tuple (c.blt "tuple" (List.mem_of_getElem? (i := 10) rfl)) boot_tuple (eva_cons (ev_compC [("_law_k", 5)] c (evi_rng1 (ev_var 4) (c.blt "range" (List.mem_of_getElem? (i := 6) rfl))) (blkOk_by (own := [("_law_k", 5)]) (N := N__law_rows) (sc := defScope s__law_rows) (by decide +kernel)) (fun _ _ _ _ _ c => (evg_name c.nd)) (fun _ _ _ _ _ c => evts_nil) (fun _ _ _ _ _ c => (ev_call c i__law_row (eva_cons (ev_call c i__law_mixed (eva_cons (ev_var 0) (eva_cons (ev_op op_add4 os_add ev_int (ev_var 5)) eva_nil))) (eva_cons (ev_var 1) (eva_cons (ev_var 2) (eva_cons (ev_var 3) eva_nil))))))) eva_nil))))
      evss_nil)

/-! _law_looped -/
abbrev s__law_looped : Stmt := topS 36
abbrev N__law_looped : List Str := ["_law_program_here", "_law_cell_here", "_law_name", "_law_names_here", "_law_rows_here", "_law_result", "_law_k"]
def fb__law_looped_0 (T : Tbl) : SM :=
      (sCons (sSet 4 (eTup (aCons (eTup (aCons (eC (.str "when")) (aCons (eTup (aCons (eC (.str "num")) (aCons (eBin vAdd (eC (.int 1)) (eVar 6)) aNil))) (aCons (eVar 4) aNil)))) aNil)))
      sNil)
def b__law_looped (T : Tbl) : SM :=
      (sCons (sIf (eOr (eBin (vEqF false) (eBin vMod (eVar 1) (eC (.int 2))) (eC (.int 0))) (eBin (vEqF false) (eBin vIx (eBin vIx (eVar 0) (eUn vNeg (eC (.int 1)))) (eC (.int 2))) (eTup aNil)))
      (sCons (sRet (eVar 0))
      sNil)
      sNil)
      (sCons (sAsg (gTup 4 (gsCons (gName 2) (gsCons (gName 3) (gsCons (gName 4) (gsCons (gName 5) gsNil))))) (eBin vIx (eVar 0) (eUn vNeg (eC (.int 1)))))
      (sCons (sIf (eBin (vEqF false) (eBin vMod (eBin vFdv (eVar 1) (eC (.int 4))) (eC (.int 4))) (eC (.int 1)))
      (sCons (sFor (iRng1' (eC (.int 6))) (gName 6) (fb__law_looped_0 T))
      sNil)
      sNil)
      (sCons (sRet (eBin vAdd (eSl (eVar 0) oNone (oSome (eUn vNeg (eC (.int 1))))) (eTup (aCons (eTup (aCons (eVar 2) (aCons (eVar 3) (aCons (eTup (aCons (eTup (aCons (eC (.str "again")) (aCons (eBin vAdd (eC (.int 2)) (eBin vMod (eBin vFdv (eVar 1) (eC (.int 2))) (eC (.int 2)))) (aCons (eVar 4) aNil)))) aNil)) (aCons (eVar 5) aNil))))) aNil))))
      sNil))))
def q__law_looped_0 (T : Tbl) : SM :=
      (sIf (eOr (eBin (vEqF false) (eBin vMod (eVar 1) (eC (.int 2))) (eC (.int 0))) (eBin (vEqF false) (eBin vIx (eBin vIx (eVar 0) (eUn vNeg (eC (.int 1)))) (eC (.int 2))) (eTup aNil)))
      (sCons (sRet (eVar 0))
      sNil)
      sNil)
def q__law_looped_1 (T : Tbl) : SM :=
      (sAsg (gTup 4 (gsCons (gName 2) (gsCons (gName 3) (gsCons (gName 4) (gsCons (gName 5) gsNil))))) (eBin vIx (eVar 0) (eUn vNeg (eC (.int 1)))))
def q__law_looped_2 (T : Tbl) : SM :=
      (sIf (eBin (vEqF false) (eBin vMod (eBin vFdv (eVar 1) (eC (.int 4))) (eC (.int 4))) (eC (.int 1)))
      (sCons (sFor (iRng1' (eC (.int 6))) (gName 6) (fb__law_looped_0 T))
      sNil)
      sNil)
def q__law_looped_3 (T : Tbl) : SM :=
      (sRet (eBin vAdd (eSl (eVar 0) oNone (oSome (eUn vNeg (eC (.int 1))))) (eTup (aCons (eTup (aCons (eVar 2) (aCons (eVar 3) (aCons (eTup (aCons (eTup (aCons (eC (.str "again")) (aCons (eBin vAdd (eC (.int 2)) (eBin vMod (eBin vFdv (eVar 1) (eC (.int 2))) (eC (.int 2)))) (aCons (eVar 4) aNil)))) aNil)) (aCons (eVar 5) aNil))))) aNil))))
theorem b__law_looped_q (T : Tbl) : b__law_looped T = (sCons (q__law_looped_0 T) (sCons (q__law_looped_1 T) (sCons (q__law_looped_2 T) (sCons (q__law_looped_3 T) sNil)))) := rfl
abbrev d__law_looped : FnD := ⟨2, 7, false, b__law_looped⟩
theorem sc__law_looped : FnScope N__law_looped ["_law_program_here", "_law_cell_here"] (defScope s__law_looped) := ⟨rfl, rfl, rfl, by decide +kernel, rfl, by decide +kernel, by decide +kernel⟩
theorem ok__law_looped {P : Program} {w : World} {K : PySem.W.Frag} {mg : Str → Option Value} {base : Heap} {f : Addr} {fd : FuncData} {n : Nat} {T : Tbl} {C : Nat → Addr} (F : Fun K "_law_looped" "_law_looped" s__law_looped f fd) (hB : ∀ x ∈ bs, mg x = none) (hC : ∀ p ∈ cs, ∃ u, mg p.1 = some u ∧ RelV (.int p.2) u)
    (hX : ∀ p ∈ pr.xs, ExF K mg p.1 (C p.2)) (hF : FnAt P w K mg base C pr T n) : FnOk P w K mg base (L2N.CX P w) (n + 1) f fd ["_law_program_here", "_law_cell_here"] (spI P w K C (pr.fr 24) (callI d__law_looped T)) :=
  fn_ok F sc__law_looped rfl rfl fun cdv A outer s H E hr => by
    have c : Cok (cxOf (L2N.CX P w) P w K mg base N__law_looped "_law_looped" (defScope s__law_looped) f cdv A outer s H E) ⟨C, E⟩ pr T n bs cs := ⟨rfl, sc__law_looped.nd, hr, hF, hB, hC, L2N.takes_of rfl rfl rfl rfl, L2.passes_of rfl, hX⟩
    show EvSs _ _ _ _ (b__law_looped T)
    unfold b__law_looped fb__law_looped_0
    exact (evss_cons (evs_if (evw_pt (evw_or (evt_cmp (op_eq3 c.u) (OpSem.weak os_eq) (ev_op op_mod os_mod (ev_var 1) ev_int) ev_int) (evw_or1 (evt_cmp (op_eq3 c.u) (OpSem.weak os_eq) (ev_ix (ix_4 c.u) os_ix (ev_ix (ix_4 c.u) os_ix (ev_var 0) (ev_un un_neg us_neg ev_int)) ev_int) (ev_tup eva_nil)))))
      (evss_cons (evs_ret (Ev.weak (ev_var 0)))
      evss_nil)
      evss_nil)
      (evss_cons (evs_asg (vs := [2, 3, 4, 5]) (ev_ix (ix_4 c.u) os_ix (ev_var 0) (ev_un un_neg us_neg ev_int)) (evg_tup c.calm (evgs_cons (evg_name c.nd) (evgs_cons (evg_name c.nd) (evgs_cons (evg_name c.nd) (evgs_cons (evg_name c.nd) evgs_nil))))))
      (evss_cons (evs_if (evt_cmp (op_eq3 c.u) (OpSem.weak os_eq) (ev_op op_mod os_mod (ev_op op_fdivW os_fdv (ev_var 1) ev_int) ev_int) ev_int)
      (evss_cons (evs_for (vs := [6]) c.po c.calm (evi_rng1 ev_int (c.blt "range" (List.mem_of_getElem? (i := 6) rfl))) (evg_name c.nd)
      (evss_cons (evs_set c.nd (ev_tup (eva_cons (ev_tup (eva_cons ev_str (eva_cons (ev_tup (eva_cons ev_str (eva_cons (ev_op op_add4 os_add ev_int (ev_var 6)) eva_nil))) (eva_cons (ev_var 4) eva_nil)))) eva_nil)))
      evss_nil))
      evss_nil)
      evss_nil)
      (evss_cons (evs_ret (Ev.weak (ev_op op_add4 os_add (ev_sl (ev_var 0) evo_none (evo_some (ev_un un_neg us_neg ev_int))) (ev_tup (eva_cons (ev_tup (eva_cons (ev_var 2) (eva_cons (ev_var 3) (eva_cons (ev_tup (eva_cons (ev_tup (eva_cons ev_str (eva_cons (ev_op op_add4 os_add ev_int (ev_op op_mod os_mod (ev_op op_fdivW os_fdv (ev_var 1) ev_int) ev_int)) (eva_cons (ev_var 4) eva_nil)))) eva_nil)) (eva_cons (ev_var 5) eva_nil))))) eva_nil)))))
      evss_nil))))

/-! _law_function -/
abbrev s__law_function : Stmt := topS 37
abbrev N__law_function : List Str := ["_law_cell_here", "_law_name", "_law_words_here", "_law_heads", "_law_first", "_law_names_here", "_law_many", "_law_rows_here", "_law_k"]
def b__law_function (T : Tbl) : SM :=
      (sCons (sSet 4 (eBin vMod (eBin vFdv (eVar 0) (eC (.int 6))) (eApp vLen (aCons (eVar 2) aNil))))
      (sCons (sSet 5 (eApp vTuple (aCons (eComp (iRng1' (eBin vIx (eLst (aCons (eC (.int 0)) (aCons (eC (.int 1)) (aCons (eC (.int 2)) (aCons (eC (.int 2)) (aCons (eC (.int 3)) (aCons (eC (.int 4)) aNil))))))) (eBin vMod (eVar 0) (eC (.int 6))))) (gName 8) tTrue (eBin vIx (eVar 2) (eBin vMod (eBin vAdd (eVar 4) (eBin vMul (eC (.int 2)) (eVar 8))) (eApp vLen (aCons (eVar 2) aNil)))) [8]) aNil)))
      (sCons (sSet 6 (eBin vIx (eLst (aCons (eC (.int 3)) (aCons (eC (.int 4)) (aCons (eC (.int 2)) (aCons (eC (.int 5)) (aCons (eC (.int 0)) (aCons (eC (.int 6)) aNil))))))) (eBin vMod (eBin vFdv (eVar 0) (eC (.int 30))) (eC (.int 6)))))
      (sCons (sIf (eBin (vEqF false) (eBin vMod (eBin vFdv (eVar 0) (eC (.int 180))) (eC (.int 12))) (eC (.int 1)))
      (sCons (sSet 6 (eBin vMod (eBin vFdv (eVar 0) (eC (.int 2160))) (eC (.int 30))))
      sNil)
      sNil)
      (sCons (sIf (eBin vGt (eVar 6) (eC (.int 6)))
      (sCons (sSet 3 (eLst aNil))
      sNil)
      sNil)
      (sCons (sSet 7 (eApp (T i__law_rows) (aCons (eApp (T i__law_mixed) (aCons (eVar 0) (aCons (eC (.int 5)) aNil))) (aCons (eVar 2) (aCons (eVar 3) (aCons (eBin vSub (eC (.int 2)) (eApp vInt (aCons (eBin vGt (eVar 6) (eC (.int 6))) aNil))) (aCons (eVar 6) aNil)))))))
      (sCons (sRet (eTup (aCons (eVar 1) (aCons (eVar 5) (aCons (eVar 7) (aCons (eApp (T i__law_term) (aCons (eApp (T i__law_mixed) (aCons (eVar 0) (aCons (eC (.int 6)) aNil))) (aCons (eVar 2) (aCons (eC (.int 1)) aNil)))) aNil))))))
      sNil)))))))
def q__law_function_0 (T : Tbl) : SM :=
      (sSet 4 (eBin vMod (eBin vFdv (eVar 0) (eC (.int 6))) (eApp vLen (aCons (eVar 2) aNil))))
def q__law_function_1 (T : Tbl) : SM :=
      (sSet 5 (eApp vTuple (aCons (eComp (iRng1' (eBin vIx (eLst (aCons (eC (.int 0)) (aCons (eC (.int 1)) (aCons (eC (.int 2)) (aCons (eC (.int 2)) (aCons (eC (.int 3)) (aCons (eC (.int 4)) aNil))))))) (eBin vMod (eVar 0) (eC (.int 6))))) (gName 8) tTrue (eBin vIx (eVar 2) (eBin vMod (eBin vAdd (eVar 4) (eBin vMul (eC (.int 2)) (eVar 8))) (eApp vLen (aCons (eVar 2) aNil)))) [8]) aNil)))
def q__law_function_2 (T : Tbl) : SM :=
      (sSet 6 (eBin vIx (eLst (aCons (eC (.int 3)) (aCons (eC (.int 4)) (aCons (eC (.int 2)) (aCons (eC (.int 5)) (aCons (eC (.int 0)) (aCons (eC (.int 6)) aNil))))))) (eBin vMod (eBin vFdv (eVar 0) (eC (.int 30))) (eC (.int 6)))))
def q__law_function_3 (T : Tbl) : SM :=
      (sIf (eBin (vEqF false) (eBin vMod (eBin vFdv (eVar 0) (eC (.int 180))) (eC (.int 12))) (eC (.int 1)))
      (sCons (sSet 6 (eBin vMod (eBin vFdv (eVar 0) (eC (.int 2160))) (eC (.int 30))))
      sNil)
      sNil)
def q__law_function_4 (T : Tbl) : SM :=
      (sIf (eBin vGt (eVar 6) (eC (.int 6)))
      (sCons (sSet 3 (eLst aNil))
      sNil)
      sNil)
def q__law_function_5 (T : Tbl) : SM :=
      (sSet 7 (eApp (T i__law_rows) (aCons (eApp (T i__law_mixed) (aCons (eVar 0) (aCons (eC (.int 5)) aNil))) (aCons (eVar 2) (aCons (eVar 3) (aCons (eBin vSub (eC (.int 2)) (eApp vInt (aCons (eBin vGt (eVar 6) (eC (.int 6))) aNil))) (aCons (eVar 6) aNil)))))))
def q__law_function_6 (T : Tbl) : SM :=
      (sRet (eTup (aCons (eVar 1) (aCons (eVar 5) (aCons (eVar 7) (aCons (eApp (T i__law_term) (aCons (eApp (T i__law_mixed) (aCons (eVar 0) (aCons (eC (.int 6)) aNil))) (aCons (eVar 2) (aCons (eC (.int 1)) aNil)))) aNil))))))
theorem b__law_function_q (T : Tbl) : b__law_function T = (sCons (q__law_function_0 T) (sCons (q__law_function_1 T) (sCons (q__law_function_2 T) (sCons (q__law_function_3 T) (sCons (q__law_function_4 T) (sCons (q__law_function_5 T) (sCons (q__law_function_6 T) sNil))))))) := rfl
abbrev d__law_function : FnD := ⟨4, 9, false, b__law_function⟩
theorem sc__law_function : FnScope N__law_function ["_law_cell_here", "_law_name", "_law_words_here", "_law_heads"] (defScope s__law_function) := ⟨rfl, rfl, rfl, by decide +kernel, rfl, by decide +kernel, by decide +kernel⟩
theorem ok__law_function {P : Program} {w : World} {K : PySem.W.Frag} {mg : Str → Option Value} {base : Heap} {f : Addr} {fd : FuncData} {n : Nat} {T : Tbl} {C : Nat → Addr} (F : Fun K "_law_function" "_law_function" s__law_function f fd) (hB : ∀ x ∈ bs, mg x = none) (hC : ∀ p ∈ cs, ∃ u, mg p.1 = some u ∧ RelV (.int p.2) u)
    (hX : ∀ p ∈ pr.xs, ExF K mg p.1 (C p.2)) (hF : FnAt P w K mg base C pr T n) : FnOk P w K mg base (L2N.CX P w) (n + 1) f fd ["_law_cell_here", "_law_name", "_law_words_here", "_law_heads"] (spI P w K C (pr.fr 25) (callI d__law_function T)) :=
  fn_ok F sc__law_function rfl rfl fun cdv A outer s H E hr => by
    have c : Cok (cxOf (L2N.CX P w) P w K mg base N__law_function "_law_function" (defScope s__law_function) f cdv A outer s H E) ⟨C, E⟩ pr T n bs cs := ⟨rfl, sc__law_function.nd, hr, hF, hB, hC, L2N.takes_of rfl rfl rfl rfl, L2.passes_of rfl, hX⟩
    show EvSs _ _ _ _ (b__law_function T)
    unfold b__law_function
    exact (evss_cons (evs_set c.nd (ev_op op_mod os_mod (ev_op op_fdivW os_fdv (ev_var 0) ev_int) (ev_callB call_len2 cs_len (c.blt "len" (List.mem_of_getElem? (i := 4) rfl)) PySem.boot_len (eva_cons (ev_var 2) eva_nil))))
      (evss_cons (evs_set c.nd (ev_callTy call_tuple_of cs_tuple (c.blt "tuple" (List.mem_of_getElem? (i := 10) rfl)) boot_tuple (eva_cons (ev_compC [("_law_k", 8)] c (evi_rng1 (ev_ix (ix_4 c.u) os_ix (ev_lst (eva_cons ev_int (eva_cons ev_int (eva_cons ev_int (eva_cons ev_int (eva_cons ev_int (eva_cons ev_int eva_nil))))))) (ev_op op_mod os_mod (ev_var 0) ev_int)) (c.blt "range" (List.mem_of_getElem? (i := 6) rfl))) (blkOk_by (own := [("_law_k", 8)]) (N := N__law_function) (sc := defScope s__law_function) (by decide +kernel)) (fun _ _ _ _ _ c => (evg_name c.nd)) (fun _ _ _ _ _ c => evts_nil) (fun _ _ _ _ _ c => (ev_ix (ix_4 c.u) os_ix (ev_var 2) (ev_op op_mod os_mod (ev_op op_add4 os_add (ev_var 4) (ev_op op_mul2 os_mul ev_int (ev_var 8))) (ev_callB call_len2 cs_len (c.blt "len" (List.mem_of_getElem? (i := 4) rfl)) PySem.boot_len (eva_cons (ev_var 2) eva_nil)))))) eva_nil)))
      (evss_cons (evs_set c.nd (ev_ix (ix_4 c.u) os_ix (ev_lst (eva_cons ev_int (eva_cons ev_int (eva_cons ev_int (eva_cons ev_int (eva_cons ev_int (eva_cons ev_int eva_nil))))))) (ev_op op_mod os_mod (ev_op op_fdivW os_fdv (ev_var 0) ev_int) ev_int)))
      (evss_cons (evs_if (evt_cmp (op_eq3 c.u) (OpSem.weak os_eq) (ev_op op_mod os_mod (ev_op op_fdivW os_fdv (ev_var 0) ev_int) ev_int) ev_int)
      (evss_cons (evs_set c.nd (ev_op op_mod os_mod (ev_op op_fdivW os_fdv (ev_var 0) ev_int) ev_int))
      evss_nil)
      evss_nil)
      (evss_cons (evs_if (evt_cmp op_gt (OpSem.weak os_cmp) (ev_var 6) ev_int)
      (evss_cons (evs_set c.nd (ev_lst eva_nil))
      evss_nil)
      evss_nil)
      (evss_cons (evs_set c.nd (ev_call c i__law_rows (eva_cons (ev_call c i__law_mixed (eva_cons (ev_var 0) (eva_cons ev_int eva_nil))) (eva_cons (ev_var 2) (eva_cons (ev_var 3) (eva_cons (ev_op op_sub os_sub ev_int (ev_callTy call_int1 cs_int (c.blt "int" (List.mem_of_getElem? (i := 2) rfl)) boot_int (eva_cons (ev_cmp op_gt os_cmp (ev_var 6) ev_int) eva_nil))) (eva_cons (ev_var 6) eva_nil)))))))
      (evss_cons (evs_ret (Ev.weak (ev_tup (eva_cons (ev_var 1) (eva_cons (ev_var 5) (eva_cons (ev_var 7) (eva_cons (ev_call c i__law_term (eva_cons (ev_call c i__law_mixed (eva_cons (ev_var 0) (eva_cons ev_int eva_nil))) (eva_cons (ev_var 2) (eva_cons ev_int eva_nil)))) eva_nil)))))))
      evss_nil)))))))

/-! _law_variables -/
abbrev s__law_variables : Stmt := topS 38
abbrev N__law_variables : List Str := ["_law_script", "_law_at"]
def b__law_variables (T : Tbl) : SM :=
      (sCons (sRet (eApp (T i__law_words) (aCons (eApp (T i__law_cell) (aCons (eVar 0) (aCons (eVar 1) aNil))) (aCons (eBin vAdd (eC (.int 5)) (eBin vMul (eC (.int 2)) (eApp vInt (aCons (eBin (vEqF false) (eBin vMod (eBin vFdv (eApp (T i__law_cell) (aCons (eVar 0) (aCons (eBin vAdd (eVar 1) (eC (.int 2))) aNil))) (eC (.int 512))) (eC (.int 8))) (eC (.int 1))) aNil)))) aNil))))
      sNil)
def q__law_variables_0 (T : Tbl) : SM :=
      (sRet (eApp (T i__law_words) (aCons (eApp (T i__law_cell) (aCons (eVar 0) (aCons (eVar 1) aNil))) (aCons (eBin vAdd (eC (.int 5)) (eBin vMul (eC (.int 2)) (eApp vInt (aCons (eBin (vEqF false) (eBin vMod (eBin vFdv (eApp (T i__law_cell) (aCons (eVar 0) (aCons (eBin vAdd (eVar 1) (eC (.int 2))) aNil))) (eC (.int 512))) (eC (.int 8))) (eC (.int 1))) aNil)))) aNil))))
theorem b__law_variables_q (T : Tbl) : b__law_variables T = (sCons (q__law_variables_0 T) sNil) := rfl
abbrev d__law_variables : FnD := ⟨2, 2, false, b__law_variables⟩
theorem sc__law_variables : FnScope N__law_variables ["_law_script", "_law_at"] (defScope s__law_variables) := ⟨rfl, rfl, rfl, by decide +kernel, rfl, by decide +kernel, by decide +kernel⟩
theorem ok__law_variables {P : Program} {w : World} {K : PySem.W.Frag} {mg : Str → Option Value} {base : Heap} {f : Addr} {fd : FuncData} {n : Nat} {T : Tbl} {C : Nat → Addr} (F : Fun K "_law_variables" "_law_variables" s__law_variables f fd) (hB : ∀ x ∈ bs, mg x = none) (hC : ∀ p ∈ cs, ∃ u, mg p.1 = some u ∧ RelV (.int p.2) u)
    (hX : ∀ p ∈ pr.xs, ExF K mg p.1 (C p.2)) (hF : FnAt P w K mg base C pr T n) : FnOk P w K mg base (L2N.CX P w) (n + 1) f fd ["_law_script", "_law_at"] (spI P w K C (pr.fr 26) (callI d__law_variables T)) :=
  fn_ok F sc__law_variables rfl rfl fun cdv A outer s H E hr => by
    have c : Cok (cxOf (L2N.CX P w) P w K mg base N__law_variables "_law_variables" (defScope s__law_variables) f cdv A outer s H E) ⟨C, E⟩ pr T n bs cs := ⟨rfl, sc__law_variables.nd, hr, hF, hB, hC, L2N.takes_of rfl rfl rfl rfl, L2.passes_of rfl, hX⟩
    show EvSs _ _ _ _ (b__law_variables T)
    unfold b__law_variables
    exact (evss_cons (evs_ret (Ev.weak (ev_call c i__law_words (eva_cons (ev_call c i__law_cell (eva_cons (ev_var 0) (eva_cons (ev_var 1) eva_nil))) (eva_cons (ev_op op_add4 os_add ev_int (ev_op op_mul2 os_mul ev_int (ev_callTy call_int1 cs_int (c.blt "int" (List.mem_of_getElem? (i := 2) rfl)) boot_int (eva_cons (ev_cmp (op_eq3 c.u) os_eq (ev_op op_mod os_mod (ev_op op_fdivW os_fdv (ev_call c i__law_cell (eva_cons (ev_var 0) (eva_cons (ev_op op_add4 os_add (ev_var 1) ev_int) eva_nil))) ev_int) ev_int) ev_int) eva_nil)))) eva_nil)))))
      evss_nil)

/-! _law_program -/
abbrev s__law_program : Stmt := topS 39
abbrev N__law_program : List Str := ["_law_script", "_law_at", "_law_words_here", "_law_names_here", "_law_program_here", "_law_count", "_law_k", "_law_function_here"]
def fb__law_program_0 (T : Tbl) : SM :=
      (sCons (sSet 7 (eApp (T i__law_function) (aCons (eApp (T i__law_cell) (aCons (eVar 0) (aCons (eBin vAdd (eBin vAdd (eVar 1) (eC (.int 3))) (eVar 6)) aNil))) (aCons (eBin vIx (eVar 3) (eVar 6)) (aCons (eVar 2) (aCons (eApp vListA (aCons (eSl (eVar 4) oNone (oSome (eC (.int 3)))) aNil)) aNil))))))
      (sCons (sIf (eAnd (eBin (vEqF false) (eVar 6) (eC (.int 0))) (eBin (vEqF false) (eBin vMod (eBin vFdv (eApp (T i__law_cell) (aCons (eVar 0) (aCons (eBin vAdd (eVar 1) (eC (.int 2))) aNil))) (eC (.int 4096))) (eC (.int 8))) (eC (.int 1))))
      (sCons (sSet 7 (eTup (aCons (eBin vIx (eVar 3) (eC (.int 0))) (aCons (eTup aNil) (aCons (eTup aNil) (aCons (eBin vIx (eVar 7) (eC (.int 3))) aNil))))))
      sNil)
      sNil)
      (sCons (sSet 4 (eBin vAdd (eVar 4) (eTup (aCons (eVar 7) aNil))))
      sNil)))
def b__law_program (T : Tbl) : SM :=
      (sCons (sSet 2 (eApp (T i__law_variables) (aCons (eVar 0) (aCons (eVar 1) aNil))))
      (sCons (sSet 3 (eApp (T i__law_words) (aCons (eApp (T i__law_cell) (aCons (eVar 0) (aCons (eBin vSub (eBin vAdd (eVar 1) (eC (.int 1))) (eApp vInt (aCons (eBin (vEqF false) (eBin vMod (eApp (T i__law_cell) (aCons (eVar 0) (aCons (eBin vAdd (eVar 1) (eC (.int 1))) aNil))) (eC (.int 8))) (eC (.int 3))) aNil))) aNil))) (aCons (eC (.int 8)) aNil))))
      (sCons (sSet 4 (eTup aNil))
      (sCons (sSet 5 (eBin vAdd (eC (.int 1)) (eBin vMod (eBin vAdd (eApp (T i__law_cell) (aCons (eVar 0) (aCons (eBin vAdd (eVar 1) (eC (.int 2))) aNil))) (eC (.int 2))) (eC (.int 4)))))
      (sCons (sIf (eBin (vEqF false) (eBin vMod (eBin vFdv (eApp (T i__law_cell) (aCons (eVar 0) (aCons (eBin vAdd (eVar 1) (eC (.int 2))) aNil))) (eC (.int 64))) (eC (.int 8))) (eC (.int 1)))
      (sCons (sSet 5 (eBin vAdd (eVar 5) (eC (.int 4))))
      sNil)
      sNil)
      (sCons (sFor (iRng1' (eVar 5)) (gName 6) (fb__law_program_0 T))
      (sCons (sRet (eApp (T i__law_looped) (aCons (eVar 4) (aCons (eBin vFdv (eApp (T i__law_cell) (aCons (eVar 0) (aCons (eBin vAdd (eVar 1) (eC (.int 2))) aNil))) (eC (.int 4))) aNil))))
      sNil)))))))
def q__law_program_0 (T : Tbl) : SM :=
      (sSet 2 (eApp (T i__law_variables) (aCons (eVar 0) (aCons (eVar 1) aNil))))
def q__law_program_1 (T : Tbl) : SM :=
      (sSet 3 (eApp (T i__law_words) (aCons (eApp (T i__law_cell) (aCons (eVar 0) (aCons (eBin vSub (eBin vAdd (eVar 1) (eC (.int 1))) (eApp vInt (aCons (eBin (vEqF false) (eBin vMod (eApp (T i__law_cell) (aCons (eVar 0) (aCons (eBin vAdd (eVar 1) (eC (.int 1))) aNil))) (eC (.int 8))) (eC (.int 3))) aNil))) aNil))) (aCons (eC (.int 8)) aNil))))
def q__law_program_2 (T : Tbl) : SM :=
      (sSet 4 (eTup aNil))
def q__law_program_3 (T : Tbl) : SM :=
      (sSet 5 (eBin vAdd (eC (.int 1)) (eBin vMod (eBin vAdd (eApp (T i__law_cell) (aCons (eVar 0) (aCons (eBin vAdd (eVar 1) (eC (.int 2))) aNil))) (eC (.int 2))) (eC (.int 4)))))
def q__law_program_4 (T : Tbl) : SM :=
      (sIf (eBin (vEqF false) (eBin vMod (eBin vFdv (eApp (T i__law_cell) (aCons (eVar 0) (aCons (eBin vAdd (eVar 1) (eC (.int 2))) aNil))) (eC (.int 64))) (eC (.int 8))) (eC (.int 1)))
      (sCons (sSet 5 (eBin vAdd (eVar 5) (eC (.int 4))))
      sNil)
      sNil)
def q__law_program_5 (T : Tbl) : SM :=
      (sFor (iRng1' (eVar 5)) (gName 6) (fb__law_program_0 T))
def q__law_program_6 (T : Tbl) : SM :=
      (sRet (eApp (T i__law_looped) (aCons (eVar 4) (aCons (eBin vFdv (eApp (T i__law_cell) (aCons (eVar 0) (aCons (eBin vAdd (eVar 1) (eC (.int 2))) aNil))) (eC (.int 4))) aNil))))
theorem b__law_program_q (T : Tbl) : b__law_program T = (sCons (q__law_program_0 T) (sCons (q__law_program_1 T) (sCons (q__law_program_2 T) (sCons (q__law_program_3 T) (sCons (q__law_program_4 T) (sCons (q__law_program_5 T) (sCons (q__law_program_6 T) sNil))))))) := rfl
abbrev d__law_program : FnD := ⟨2, 8, false, b__law_program⟩
theorem sc__law_program : FnScope N__law_program ["_law_script", "_law_at"] (defScope s__law_program) := ⟨rfl, rfl, rfl, by decide +kernel, rfl, by decide +kernel, by decide +kernel⟩
theorem ok__law_program {P : Program} {w : World} {K : PySem.W.Frag} {mg : Str → Option Value} {base : Heap} {f : Addr} {fd : FuncData} {n : Nat} {T : Tbl} {C : Nat → Addr} (F : Fun K "_law_program" "_law_program" s__law_program f fd) (hB : ∀ x ∈ bs, mg x = none) (hC : ∀ p ∈ cs, ∃ u, mg p.1 = some u ∧ RelV (.int p.2) u)
    (hX : ∀ p ∈ pr.xs, ExF K mg p.1 (C p.2)) (hF : FnAt P w K mg base C pr T n) : FnOk P w K mg base (L2N.CX P w) (n + 1) f fd ["_law_script", "_law_at"] (spI P w K C (pr.fr 27) (callI d__law_program T)) :=
  fn_ok F sc__law_program rfl rfl fun cdv A outer s H E hr => by
    have c : Cok (cxOf (L2N.CX P w) P w K mg base N__law_program "_law_program" (defScope s__law_program) f cdv A outer s H E) ⟨C, E⟩ pr T n bs cs := ⟨rfl, sc__law_program.nd, hr, hF, hB, hC, L2N.takes_of rfl rfl rfl rfl, L2.passes_of rfl, hX⟩
    show EvSs _ _ _ _ (b__law_program T)
    unfold b__law_program fb__law_program_0
    exact (evss_cons (evs_set c.nd (ev_call c i__law_variables (eva_cons (ev_var 0) (eva_cons (ev_var 1) eva_nil))))
      (evss_cons (evs_set c.nd (ev_call c i__law_words (eva_cons (ev_call c i__law_cell (eva_cons (ev_var 0) (eva_cons (ev_op op_sub os_sub (ev_op op_add4 os_add (ev_var 1) ev_int) (ev_callTy call_int1 cs_int (c.blt "int" (List.mem_of_getElem? (i := 2) rfl)) boot_int (eva_cons (ev_cmp (op_eq3 c.u) os_eq (ev_op op_mod os_mod (ev_call c i__law_cell (eva_cons (ev_var 0) (eva_cons (ev_op op_add4 os_add (ev_var 1) ev_int) eva_nil))) ev_int) ev_int) eva_nil))) eva_nil))) (eva_cons ev_int eva_nil))))
      (evss_cons (evs_set c.nd (ev_tup eva_nil))
      (evss_cons (evs_set c.nd (ev_op op_add4 os_add ev_int (ev_op op_mod os_mod (ev_op op_add4 os_add (ev_call c i__law_cell (eva_cons (ev_var 0) (eva_cons (ev_op op_add4 os_add (ev_var 1) ev_int) eva_nil))) ev_int) ev_int)))
      (evss_cons (evs_if (evt_cmp (op_eq3 c.u) (OpSem.weak os_eq) (ev_op op_mod os_mod (ev_op op_fdivW os_fdv (ev_call c i__law_cell (eva_cons (ev_var 0) (eva_cons (ev_op op_add4 os_add (ev_var 1) ev_int) eva_nil))) ev_int) ev_int) ev_int)
      (evss_cons (evs_set c.nd (ev_op op_add4 os_add (ev_var 5) ev_int))
      evss_nil)
      evss_nil)
      (evss_cons (evs_for (vs := [6]) c.po c.calm (evi_rng1 (ev_var 5) (c.blt "range" (List.mem_of_getElem? (i := 6) rfl))) (evg_name c.nd)
      (evss_cons (evs_set c.nd (ev_call c i__law_function (eva_cons (ev_call c i__law_cell (eva_cons (ev_var 0) (eva_cons (ev_op op_add4 os_add (ev_op op_add4 os_add (ev_var 1) ev_int) (ev_var 6)) eva_nil))) (eva_cons (ev_ix (ix_4 c.u) os_ix (ev_var 3) (ev_var 6)) (eva_cons (ev_var 2) (eva_cons (ev_callTy (call_listA c.calm) cs_listA (c.blt "list" (List.mem_of_getElem? (i := 5) rfl)) boot_list (eva_cons (ev_sl (ev_var 4) evo_none (evo_some ev_int)) eva_nil)) eva_nil))))))
      (evss_cons (evs_if (evw_pt (evw_and (evt_cmp (op_eq3 c.u) (OpSem.weak os_eq) (ev_var 6) ev_int) (evw_and1 (evt_cmp (op_eq3 c.u) (OpSem.weak os_eq) (ev_op op_mod os_mod (ev_op op_fdivW os_fdv (ev_call c i__law_cell (eva_cons (ev_var 0) (eva_cons (ev_op op_add4 os_add (ev_var 1) ev_int) eva_nil))) ev_int) ev_int) ev_int))))
      (evss_cons (evs_set c.nd (ev_tup (eva_cons (ev_ix (ix_4 c.u) os_ix (ev_var 3) ev_int) (eva_cons (ev_tup eva_nil) (eva_cons (ev_tup eva_nil) (eva_cons (ev_ix (ix_4 c.u) os_ix (ev_var 7) ev_int) eva_nil))))))
      evss_nil)
      evss_nil)
      (evss_cons (evs_set c.nd (ev_op op_add4 os_add (ev_var 4) (ev_tup (eva_cons (ev_var 7) eva_nil))))
      evss_nil))))
      (evss_cons (evs_ret (Ev.weak (ev_call c i__law_looped (eva_cons (ev_var 4) (eva_cons (ev_op op_fdivW os_fdv (ev_call c i__law_cell (eva_cons (ev_var 0) (eva_cons (ev_op op_add4 os_add (ev_var 1) ev_int) eva_nil))) ev_int) eva_nil)))))
      evss_nil)))))))

/-! _law_block -/
abbrev s__law_block : Stmt := topS 43
abbrev N__law_block : List Str := ["_law_row_here"]
def b__law_block (T : Tbl) : SM :=
      (sCons (sIf (eOr (eBin (vEqF false) (eBin vIx (eVar 0) (eC (.int 0))) (eC (.str "when"))) (eBin (vEqF false) (eBin vIx (eVar 0) (eC (.int 0))) (eC (.str "again"))))
      (sCons (sRet (eBin vIx (eVar 0) (eC (.int 2))))
      sNil)
      sNil)
      (sCons (sRet (eTup aNil))
      sNil))
def q__law_block_0 (T : Tbl) : SM :=
      (sIf (eOr (eBin (vEqF false) (eBin vIx (eVar 0) (eC (.int 0))) (eC (.str "when"))) (eBin (vEqF false) (eBin vIx (eVar 0) (eC (.int 0))) (eC (.str "again"))))
      (sCons (sRet (eBin vIx (eVar 0) (eC (.int 2))))
      sNil)
      sNil)
def q__law_block_1 (T : Tbl) : SM :=
      (sRet (eTup aNil))
theorem b__law_block_q (T : Tbl) : b__law_block T = (sCons (q__law_block_0 T) (sCons (q__law_block_1 T) sNil)) := rfl
abbrev d__law_block : FnD := ⟨1, 1, false, b__law_block⟩
theorem sc__law_block : FnScope N__law_block ["_law_row_here"] (defScope s__law_block) := ⟨rfl, rfl, rfl, by decide +kernel, rfl, by decide +kernel, by decide +kernel⟩
theorem ok__law_block {P : Program} {w : World} {K : PySem.W.Frag} {mg : Str → Option Value} {base : Heap} {f : Addr} {fd : FuncData} {n : Nat} {T : Tbl} {C : Nat → Addr} (F : Fun K "_law_block" "_law_block" s__law_block f fd) (hB : ∀ x ∈ bs, mg x = none) (hC : ∀ p ∈ cs, ∃ u, mg p.1 = some u ∧ RelV (.int p.2) u)
    (hX : ∀ p ∈ pr.xs, ExF K mg p.1 (C p.2)) (hF : FnAt P w K mg base C pr T n) : FnOk P w K mg base (L2N.CX P w) (n + 1) f fd ["_law_row_here"] (spI P w K C (pr.fr 28) (callI d__law_block T)) :=
  fn_ok F sc__law_block rfl rfl fun cdv A outer s H E hr => by
    have c : Cok (cxOf (L2N.CX P w) P w K mg base N__law_block "_law_block" (defScope s__law_block) f cdv A outer s H E) ⟨C, E⟩ pr T n bs cs := ⟨rfl, sc__law_block.nd, hr, hF, hB, hC, L2N.takes_of rfl rfl rfl rfl, L2.passes_of rfl, hX⟩
    show EvSs _ _ _ _ (b__law_block T)
    unfold b__law_block
    exact (evss_cons (evs_if (evw_pt (evw_or (evt_cmp (op_eq3 c.u) (OpSem.weak os_eq) (ev_ix (ix_4 c.u) os_ix (ev_var 0) ev_int) ev_str) (evw_or1 (evt_cmp (op_eq3 c.u) (OpSem.weak os_eq) (ev_ix (ix_4 c.u) os_ix (ev_var 0) ev_int) ev_str))))
      (evss_cons (evs_ret (Ev.weak (ev_ix (ix_4 c.u) os_ix (ev_var 0) ev_int)))
      evss_nil)
      evss_nil)
      (evss_cons (evs_ret (Ev.weak (ev_tup eva_nil)))
      evss_nil))

/-! _law_places -/
abbrev s__law_places : Stmt := topS 44
abbrev N__law_places : List Str := ["_law_place", "_law_rows_here", "_law_found", "_law_at"]
def fb__law_places_0 (T : Tbl) : SM :=
      (sCons (sApp (eVar 2) (eTup (aCons (eBin vAdd (eVar 0) (eTup (aCons (eVar 3) aNil))) (aCons (eBin vIx (eVar 1) (eVar 3)) aNil))))
      (sCons (sSet 2 (eBox (eBin vCat (eVar 2) (eApp (T i__law_places) (aCons (eBin vAdd (eVar 0) (eTup (aCons (eVar 3) aNil))) (aCons (eApp (T i__law_block) (aCons (eBin vIx (eVar 1) (eVar 3)) aNil)) aNil))))))
      sNil))
def b__law_places (T : Tbl) : SM :=
      (sCons (sSet 2 (eBox (eLst aNil)))
      (sCons (sFor (iRng1' (eApp vLen (aCons (eVar 1) aNil))) (gName 3) (fb__law_places_0 T))
      (sCons (sRet (eVar 2))
      sNil)))
def q__law_places_0 (T : Tbl) : SM :=
      (sSet 2 (eBox (eLst aNil)))
def q__law_places_1 (T : Tbl) : SM :=
      (sFor (iRng1' (eApp vLen (aCons (eVar 1) aNil))) (gName 3) (fb__law_places_0 T))
def q__law_places_2 (T : Tbl) : SM :=
      (sRet (eVar 2))
theorem b__law_places_q (T : Tbl) : b__law_places T = (sCons (q__law_places_0 T) (sCons (q__law_places_1 T) (sCons (q__law_places_2 T) sNil))) := rfl
abbrev d__law_places : FnD := ⟨2, 4, false, b__law_places⟩
theorem sc__law_places : FnScope N__law_places ["_law_place", "_law_rows_here"] (defScope s__law_places) := ⟨rfl, rfl, rfl, by decide +kernel, rfl, by decide +kernel, by decide +kernel⟩
theorem ok__law_places {P : Program} {w : World} {K : PySem.W.Frag} {mg : Str → Option Value} {base : Heap} {f : Addr} {fd : FuncData} {n : Nat} {T : Tbl} {C : Nat → Addr} (F : Fun K "_law_places" "_law_places" s__law_places f fd) (hB : ∀ x ∈ bs, mg x = none) (hC : ∀ p ∈ cs, ∃ u, mg p.1 = some u ∧ RelV (.int p.2) u)
    (hX : ∀ p ∈ pr.xs, ExF K mg p.1 (C p.2)) (hF : FnAt P w K mg base C pr T n) : FnOk P w K mg base (L2N.CX P w) (n + 1) f fd ["_law_place", "_law_rows_here"] (spI P w K C (pr.fr 29) (callI d__law_places T)) :=
  fn_ok F sc__law_places rfl rfl fun cdv A outer s H E hr => by
    have c : Cok (cxOf (L2N.CX P w) P w K mg base N__law_places "_law_places" (defScope s__law_places) f cdv A outer s H E) ⟨C, E⟩ pr T n bs cs := ⟨rfl, sc__law_places.nd, hr, hF, hB, hC, L2N.takes_of rfl rfl rfl rfl, L2.passes_of rfl, hX⟩
    show EvSs _ _ _ _ (b__law_places T)
    unfold b__law_places fb__law_places_0
    exact (evss_cons (evs_set c.nd (ev_box (ev_lst eva_nil)))
      (evss_cons (evs_for (vs := [3]) c.po c.calm (evi_rng1 (ev_callB call_len2 cs_len (c.blt "len" (List.mem_of_getElem? (i := 4) rfl)) PySem.boot_len (eva_cons (ev_var 1) eva_nil)) (c.blt "range" (List.mem_of_getElem? (i := 6) rfl))) (evg_name c.nd)
      (evss_cons (evs_app (ev_var 2) (ev_tup (eva_cons (ev_op op_add4 os_add (ev_var 0) (ev_tup (eva_cons (ev_var 3) eva_nil))) (eva_cons (ev_ix (ix_4 c.u) os_ix (ev_var 1) (ev_var 3)) eva_nil))))
      (evss_cons (evs_set c.nd (ev_box (ev_op op_cat os_cat (ev_var 2) (ev_call c i__law_places (eva_cons (ev_op op_add4 os_add (ev_var 0) (ev_tup (eva_cons (ev_var 3) eva_nil))) (eva_cons (ev_call c i__law_block (eva_cons (ev_ix (ix_4 c.u) os_ix (ev_var 1) (ev_var 3)) eva_nil)) eva_nil))))))
      evss_nil)))
      (evss_cons (evs_ret (Ev.weak (ev_var 2)))
      evss_nil)))

/-! _law_all -/
abbrev s__law_all : Stmt := topS 45
abbrev N__law_all : List Str := ["_law_program_here", "_law_found", "_law_number"]
def fb__law_all_0 (T : Tbl) : SM :=
      (sCons (sSet 1 (eBin vAdd (eVar 1) (eApp (T i__law_places) (aCons (eTup (aCons (eVar 2) aNil)) (aCons (eBin vIx (eBin vIx (eVar 0) (eVar 2)) (eC (.int 2))) aNil)))))
      sNil)
def b__law_all (T : Tbl) : SM :=
      (sCons (sSet 1 (eLst aNil))
      (sCons (sFor (iRng1' (eApp vLen (aCons (eVar 0) aNil))) (gName 2) (fb__law_all_0 T))
      (sCons (sRet (eVar 1))
      sNil)))
def q__law_all_0 (T : Tbl) : SM :=
      (sSet 1 (eLst aNil))
def q__law_all_1 (T : Tbl) : SM :=
      (sFor (iRng1' (eApp vLen (aCons (eVar 0) aNil))) (gName 2) (fb__law_all_0 T))
def q__law_all_2 (T : Tbl) : SM :=
      (sRet (eVar 1))
theorem b__law_all_q (T : Tbl) : b__law_all T = (sCons (q__law_all_0 T) (sCons (q__law_all_1 T) (sCons (q__law_all_2 T) sNil))) := rfl
abbrev d__law_all : FnD := ⟨1, 3, false, b__law_all⟩
theorem sc__law_all : FnScope N__law_all ["_law_program_here"] (defScope s__law_all) := ⟨rfl, rfl, rfl, by decide +kernel, rfl, by decide +kernel, by decide +kernel⟩
theorem ok__law_all {P : Program} {w : World} {K : PySem.W.Frag} {mg : Str → Option Value} {base : Heap} {f : Addr} {fd : FuncData} {n : Nat} {T : Tbl} {C : Nat → Addr} (F : Fun K "_law_all" "_law_all" s__law_all f fd) (hB : ∀ x ∈ bs, mg x = none) (hC : ∀ p ∈ cs, ∃ u, mg p.1 = some u ∧ RelV (.int p.2) u)
    (hX : ∀ p ∈ pr.xs, ExF K mg p.1 (C p.2)) (hF : FnAt P w K mg base C pr T n) : FnOk P w K mg base (L2N.CX P w) (n + 1) f fd ["_law_program_here"] (spI P w K C (pr.fr 30) (callI d__law_all T)) :=
  fn_ok F sc__law_all rfl rfl fun cdv A outer s H E hr => by
    have c : Cok (cxOf (L2N.CX P w) P w K mg base N__law_all "_law_all" (defScope s__law_all) f cdv A outer s H E) ⟨C, E⟩ pr T n bs cs := ⟨rfl, sc__law_all.nd, hr, hF, hB, hC, L2N.takes_of rfl rfl rfl rfl, L2.passes_of rfl, hX⟩
    show EvSs _ _ _ _ (b__law_all T)
    unfold b__law_all fb__law_all_0
    exact (evss_cons (evs_set c.nd (ev_lst eva_nil))
      (evss_cons (evs_for (vs := [2]) c.po c.calm (evi_rng1 (ev_callB call_len2 cs_len (c.blt "len" (List.mem_of_getElem? (i := 4) rfl)) PySem.boot_len (eva_cons (ev_var 0) eva_nil)) (c.blt "range" (List.mem_of_getElem? (i := 6) rfl))) (evg_name c.nd)
      (evss_cons (evs_set c.nd (ev_op op_add4 os_add (ev_var 1) (ev_call c i__law_places (eva_cons (ev_tup (eva_cons (ev_var 2) eva_nil)) (eva_cons (ev_ix (ix_4 c.u) os_ix (ev_ix (ix_4 c.u) os_ix (ev_var 0) (ev_var 2)) ev_int) eva_nil)))))
      evss_nil))
      (evss_cons (evs_ret (Ev.weak (ev_var 1)))
      evss_nil)))

/-! _law_alike -/
abbrev s__law_alike : Stmt := topS 47
abbrev N__law_alike : List Str := ["_law_found", "_law_due", "_law_k"]
def b__law_alike (T : Tbl) : SM :=
      (sCons (sIf (eApp (vIsa "tuple") (aCons (eVar 1) aNil))
      (sCons (sIf (eOr (eNot (eApp (vIsa "tuple") (aCons (eVar 0) aNil))) (eBin (vEqF true) (eApp vLen (aCons (eVar 0) aNil)) (eApp vLen (aCons (eVar 1) aNil))))
      (sCons (sRet (eC (.bl false)))
      sNil)
      sNil)
      (sCons (sRet (eNotL (eComp (iRng1' (eApp vLen (aCons (eVar 1) aNil))) (gName 2) (eNot (eApp (T i__law_alike) (aCons (eBin vIx (eVar 0) (eVar 2)) (aCons (eBin vIx (eVar 1) (eVar 2)) aNil)))) (eVar 2) [2])))
      sNil))
      sNil)
      (sCons (sIf (eOr (eBin (vIsN false) (eVar 1) (eC .non)) (eApp (vIsa "str") (aCons (eVar 1) aNil)))
      (sCons (sRet (eAnd (eBin (vEqF false) (eVar 0) (eVar 1)) (eBin (vEqF false) (eApp (vIsa "str") (aCons (eVar 0) aNil)) (eApp (vIsa "str") (aCons (eVar 1) aNil)))))
      sNil)
      sNil)
      (sCons (sRet (eAnd (eApp (vIsa "int") (aCons (eVar 0) aNil)) (eAnd (eNot (eApp (vIsa "bool") (aCons (eVar 0) aNil))) (eBin (vEqF false) (eVar 0) (eVar 1)))))
      sNil)))
def q__law_alike_0 (T : Tbl) : SM :=
      (sIf (eApp (vIsa "tuple") (aCons (eVar 1) aNil))
      (sCons (sIf (eOr (eNot (eApp (vIsa "tuple") (aCons (eVar 0) aNil))) (eBin (vEqF true) (eApp vLen (aCons (eVar 0) aNil)) (eApp vLen (aCons (eVar 1) aNil))))
      (sCons (sRet (eC (.bl false)))
      sNil)
      sNil)
      (sCons (sRet (eNotL (eComp (iRng1' (eApp vLen (aCons (eVar 1) aNil))) (gName 2) (eNot (eApp (T i__law_alike) (aCons (eBin vIx (eVar 0) (eVar 2)) (aCons (eBin vIx (eVar 1) (eVar 2)) aNil)))) (eVar 2) [2])))
      sNil))
      sNil)
def q__law_alike_1 (T : Tbl) : SM :=
      (sIf (eOr (eBin (vIsN false) (eVar 1) (eC .non)) (eApp (vIsa "str") (aCons (eVar 1) aNil)))
      (sCons (sRet (eAnd (eBin (vEqF false) (eVar 0) (eVar 1)) (eBin (vEqF false) (eApp (vIsa "str") (aCons (eVar 0) aNil)) (eApp (vIsa "str") (aCons (eVar 1) aNil)))))
      sNil)
      sNil)
def q__law_alike_2 (T : Tbl) : SM :=
      (sRet (eAnd (eApp (vIsa "int") (aCons (eVar 0) aNil)) (eAnd (eNot (eApp (vIsa "bool") (aCons (eVar 0) aNil))) (eBin (vEqF false) (eVar 0) (eVar 1)))))
theorem b__law_alike_q (T : Tbl) : b__law_alike T = (sCons (q__law_alike_0 T) (sCons (q__law_alike_1 T) (sCons (q__law_alike_2 T) sNil))) := rfl
abbrev d__law_alike : FnD := ⟨2, 3, false, b__law_alike⟩
theorem sc__law_alike : FnScope N__law_alike ["_law_found", "_law_due"] (defScope s__law_alike) := ⟨rfl, rfl, rfl, by decide +kernel, rfl, by decide +kernel, by decide +kernel⟩
theorem ok__law_alike {P : Program} {w : World} {K : PySem.W.Frag} {mg : Str → Option Value} {base : Heap} {f : Addr} {fd : FuncData} {n : Nat} {T : Tbl} {C : Nat → Addr} (F : Fun K "_law_alike" "_law_alike" s__law_alike f fd) (hB : ∀ x ∈ bs, mg x = none) (hC : ∀ p ∈ cs, ∃ u, mg p.1 = some u ∧ RelV (.int p.2) u)
    (hX : ∀ p ∈ pr.xs, ExF K mg p.1 (C p.2)) (hF : FnAt P w K mg base C pr T n) : FnOk P w K mg base (L2N.CX P w) (n + 1) f fd ["_law_found", "_law_due"] (spI P w K C (pr.fr 31) (callI d__law_alike T)) :=
  fn_ok F sc__law_alike rfl rfl fun cdv A outer s H E hr => by
    have c : Cok (cxOf (L2N.CX P w) P w K mg base N__law_alike "_law_alike" (defScope s__law_alike) f cdv A outer s H E) ⟨C, E⟩ pr T n bs cs := ⟨rfl, sc__law_alike.nd, hr, hF, hB, hC, L2N.takes_of rfl rfl rfl rfl, L2.passes_of rfl, hX⟩
    show EvSs _ _ _ _ (b__law_alike T)
    unfold b__law_alike
    exact (evss_cons (evs_if (evt_val (ev_isa (ev_var 1) (c.blt "isinstance" (List.mem_of_getElem? (i := 3) rfl)) (c.blt "tuple" (List.mem_of_getElem? (i := 10) rfl)) boot_tuple))
      (evss_cons (evs_if (evw_pt (evw_or (evt_not (evt_val (ev_isa (ev_var 0) (c.blt "isinstance" (List.mem_of_getElem? (i := 3) rfl)) (c.blt "tuple" (List.mem_of_getElem? (i := 10) rfl)) boot_tuple))) (evw_or1 (evt_cmp (op_ne3 c.u) (OpSem.weak os_eq) (ev_callB call_len2 cs_len (c.blt "len" (List.mem_of_getElem? (i := 4) rfl)) PySem.boot_len (eva_cons (ev_var 0) eva_nil)) (ev_callB call_len2 cs_len (c.blt "len" (List.mem_of_getElem? (i := 4) rfl)) PySem.boot_len (eva_cons (ev_var 1) eva_nil))))))
      (evss_cons (evs_ret (Ev.weak ev_bl))
      evss_nil)
      evss_nil)
      (evss_cons (evs_ret (Ev.weak (ev_notL (ev_compC [("_law_k", 2)] c (evi_rng1 (ev_callB call_len2 cs_len (c.blt "len" (List.mem_of_getElem? (i := 4) rfl)) PySem.boot_len (eva_cons (ev_var 1) eva_nil)) (c.blt "range" (List.mem_of_getElem? (i := 6) rfl))) (blkOk_by (own := [("_law_k", 2)]) (N := N__law_alike) (sc := defScope s__law_alike) (by decide +kernel)) (fun _ _ _ _ _ c => (evg_name c.nd)) (fun _ _ _ _ _ c => (evts_one (evt_not (evt_val (ev_call c i__law_alike (eva_cons (ev_ix (ix_4 c.u) os_ix (ev_var 0) (ev_var 2)) (eva_cons (ev_ix (ix_4 c.u) os_ix (ev_var 1) (ev_var 2)) eva_nil))))))) (fun _ _ _ _ _ c => (ev_var 2))))))
      evss_nil))
      evss_nil)
      (evss_cons (evs_if (evw_pt (evw_or (evt_cmp op_isN (OpSem.weak os_isN) (ev_var 1) ev_non) (evw_or1 (evt_val (ev_isa (ev_var 1) (c.blt "isinstance" (List.mem_of_getElem? (i := 3) rfl)) (c.blt "str" (List.mem_of_getElem? (i := 9) rfl)) boot_str)))))
      (evss_cons (evs_ret (Ev.weak (ev_and (ev_cmp (op_eq3 c.u) os_eq (ev_var 0) (ev_var 1)) (ev_one (ev_cmp (op_eq3 c.u) os_eq (ev_isa (ev_var 0) (c.blt "isinstance" (List.mem_of_getElem? (i := 3) rfl)) (c.blt "str" (List.mem_of_getElem? (i := 9) rfl)) boot_str) (ev_isa (ev_var 1) (c.blt "isinstance" (List.mem_of_getElem? (i := 3) rfl)) (c.blt "str" (List.mem_of_getElem? (i := 9) rfl)) boot_str))))))
      evss_nil)
      evss_nil)
      (evss_cons (evs_ret (Ev.weak (ev_and (ev_isa (ev_var 0) (c.blt "isinstance" (List.mem_of_getElem? (i := 3) rfl)) (c.blt "int" (List.mem_of_getElem? (i := 2) rfl)) boot_int) (ev_and (ev_not (ev_isa (ev_var 0) (c.blt "isinstance" (List.mem_of_getElem? (i := 3) rfl)) (c.blt "bool" (List.mem_of_getElem? (i := 1) rfl)) boot_bool)) (ev_one (ev_cmp (op_eq3 c.u) os_eq (ev_var 0) (ev_var 1)))))))
      evss_nil)))

/-! _law_told -/
abbrev s__law_told : Stmt := topS 48
abbrev N__law_told : List Str := ["_law_which", "_law_program_here", "_law_place", "_law_error"]
def b__law_told (T : Tbl) : SM :=
      (sCons (sTry (sCons (sIf (eBin (vEqF false) (eVar 0) (eC (.int 0)))
      (sCons (sRet (eLst (aCons (eApp (T i_row_at) (aCons (eVar 1) (aCons (eVar 2) aNil))) aNil)))
      sNil)
      sNil)
      (sCons (sExpr (eApp (T i_needed) (aCons (eVar 1) (aCons (eVar 2) aNil))))
      sNil)) hk_told)
      (sCons (sRet (eLst aNil))
      sNil))
def q__law_told_0 (T : Tbl) : SM :=
      (sTry (sCons (sIf (eBin (vEqF false) (eVar 0) (eC (.int 0)))
      (sCons (sRet (eLst (aCons (eApp (T i_row_at) (aCons (eVar 1) (aCons (eVar 2) aNil))) aNil)))
      sNil)
      sNil)
      (sCons (sExpr (eApp (T i_needed) (aCons (eVar 1) (aCons (eVar 2) aNil))))
      sNil)) hk_told)
def q__law_told_1 (T : Tbl) : SM :=
      (sRet (eLst aNil))
theorem b__law_told_q (T : Tbl) : b__law_told T = (sCons (q__law_told_0 T) (sCons (q__law_told_1 T) sNil)) := rfl
abbrev d__law_told : FnD := ⟨3, 4, false, b__law_told⟩
theorem sc__law_told : FnScope N__law_told ["_law_which", "_law_program_here", "_law_place"] (defScope s__law_told) := ⟨rfl, rfl, rfl, by decide +kernel, rfl, by decide +kernel, by decide +kernel⟩
theorem ok__law_told {P : Program} {w : World} {K : PySem.W.Frag} {mg : Str → Option Value} {base : Heap} {f : Addr} {fd : FuncData} {n : Nat} {T : Tbl} {C : Nat → Addr} (F : Fun K "_law_told" "_law_told" s__law_told f fd) (hB : ∀ x ∈ bs, mg x = none) (hC : ∀ p ∈ cs, ∃ u, mg p.1 = some u ∧ RelV (.int p.2) u)
    (hX : ∀ p ∈ pr.xs, ExF K mg p.1 (C p.2)) (hK : KAll K mg C) (hF : FnAt P w K mg base C pr T n) : FnOk P w K mg base (L2N.CX P w) (n + 1) f fd ["_law_which", "_law_program_here", "_law_place"] (spI P w K C (pr.fr 32) (callI d__law_told T)) :=
  fn_ok F sc__law_told rfl rfl fun cdv A outer s H E hr => by
    have c : Cok (cxOf (L2N.CX P w) P w K mg base N__law_told "_law_told" (defScope s__law_told) f cdv A outer s H E) ⟨C, E⟩ pr T n bs cs := ⟨rfl, sc__law_told.nd, hr, hF, hB, hC, L2N.takes_of rfl rfl rfl rfl, L2.passes_of rfl, hX⟩
    show EvSs _ _ _ _ (b__law_told T)
    unfold b__law_told
    obtain ⟨Tt, fk, fdk, gT, gk, kk, bk, Fk, kf⟩ := hK.ex
    exact (evss_cons (evs_try (i := 3) (cv := .ref Tt) c rfl rfl rfl rfl ⟨rfl, by decide, .inl gT⟩ (hk_exm kf) hk_nx (fun W1 pn xe c hC => (evss_cons (evs_if (evt_cmp (op_eq3 c.u) (OpSem.weak os_eq) (ev_var 0) ev_int)
      (evss_cons (evs_ret (Ev.weak (ev_lst (eva_cons (ev_call c i_row_at (eva_cons (ev_var 1) (eva_cons (ev_var 2) eva_nil))) eva_nil))))
      evss_nil)
      evss_nil)
      (evss_cons (evs_expr (ev_call c i_needed (eva_cons (ev_var 1) (eva_cons (ev_var 2) eva_nil))))
      evss_nil))) (fun a oe cls d pn hz hf => hsu_of kks rfl hk_bad hk_nx (kind_inj kf (by decide)) (fun k hk e1 e2 => ⟨_, ev_callP (p := (a, oe)) ⟨rfl, hot_of hz hf⟩ List.mem_cons_self takes0N (ok_kind Fk (kf k hk) (hB "isinstance" (by simp)) (hB "ValueError" (by simp)) (hz.1.trans e1) (hz.2.1.trans e2) hf (T := fun _ _ _ => .bad)) (rm_of c.room) gk kk bk (eva_cons (ev_var 3) eva_nil), fun env st h => hk_eq h hk⟩)))
      (evss_cons (evs_ret (Ev.weak (ev_lst eva_nil)))
      evss_nil))

/-! _law_none -/
abbrev s__law_none : Stmt := topS 49
abbrev N__law_none : List Str := ["_law_program_here", "_law_cell_here", "_law_number", "_law_rows_here", "_law_far", "_law_some", "_law_leaves", "_law_pair"]
def b__law_none (T : Tbl) : SM :=
      (sCons (sSet 2 (eBin vMod (eBin vFdv (eVar 1) (eC (.int 6))) (eApp vLen (aCons (eVar 0) aNil))))
      (sCons (sSet 3 (eBin vIx (eBin vIx (eVar 0) (eVar 2)) (eC (.int 2))))
      (sCons (sSet 4 (eBin vMod (eBin vFdv (eVar 1) (eC (.int 30))) (eBin vPow (eC (.int 10)) (eC (.int 20)))))
      (sCons (sSet 5 (eLst (aCons (eTup (aCons (eVar 2) (aCons (eUn vNeg (eC (.int 1))) aNil))) (aCons (eTup (aCons (eVar 2) (aCons (eApp vLen (aCons (eVar 3) aNil)) aNil))) (aCons (eTup (aCons (eBin vAdd (eApp vLen (aCons (eVar 0) aNil)) (eVar 4)) (aCons (eC (.int 0)) aNil))) (aCons (eTup (aCons (eBin vSub (eUn vNeg (eC (.int 1))) (eVar 4)) (aCons (eC (.int 0)) aNil))) (aCons (eTup (aCons (eVar 2) aNil)) (aCons (eTup aNil) aNil))))))))
      (sCons (sSet 5 (eBin vAdd (eVar 5) (eLst (aCons (eTup (aCons (eVar 2) (aCons (eBin vAdd (eApp vLen (aCons (eVar 3) aNil)) (eVar 4)) aNil))) (aCons (eTup (aCons (eVar 2) (aCons (eC (.int 0)) (aCons (eBin vSub (eUn vNeg (eC (.int 1))) (eVar 4)) aNil)))) (aCons (eTup (aCons (eVar 2) (aCons (eApp vLen (aCons (eVar 3) aNil)) (aCons (eC (.int 0)) aNil)))) aNil))))))
      (sCons (sSet 6 (eComp (iSeq (eApp (T i__law_places) (aCons (eTup (aCons (eVar 2) aNil)) (aCons (eVar 3) aNil)))) (gName 7) (eBin (vEqF false) (eApp (T i__law_block) (aCons (eBin vIx (eVar 7) (eC (.int 1))) aNil)) (eTup aNil)) (eBin vAdd (eBin vIx (eVar 7) (eC (.int 0))) (eTup (aCons (eBin vMod (eVar 4) (eC (.int 2))) aNil))) [7]))
      (sCons (sRet (eBin vIx (eBin vAdd (eVar 5) (eVar 6)) (eBin vMod (eVar 1) (eBin vAdd (eC (.int 9)) (eApp vLen (aCons (eVar 6) aNil))))))
      sNil)))))))
def q__law_none_0 (T : Tbl) : SM :=
      (sSet 2 (eBin vMod (eBin vFdv (eVar 1) (eC (.int 6))) (eApp vLen (aCons (eVar 0) aNil))))
def q__law_none_1 (T : Tbl) : SM :=
      (sSet 3 (eBin vIx (eBin vIx (eVar 0) (eVar 2)) (eC (.int 2))))
def q__law_none_2 (T : Tbl) : SM :=
      (sSet 4 (eBin vMod (eBin vFdv (eVar 1) (eC (.int 30))) (eBin vPow (eC (.int 10)) (eC (.int 20)))))
def q__law_none_3 (T : Tbl) : SM :=
      (sSet 5 (eLst (aCons (eTup (aCons (eVar 2) (aCons (eUn vNeg (eC (.int 1))) aNil))) (aCons (eTup (aCons (eVar 2) (aCons (eApp vLen (aCons (eVar 3) aNil)) aNil))) (aCons (eTup (aCons (eBin vAdd (eApp vLen (aCons (eVar 0) aNil)) (eVar 4)) (aCons (eC (.int 0)) aNil))) (aCons (eTup (aCons (eBin vSub (eUn vNeg (eC (.int 1))) (eVar 4)) (aCons (eC (.int 0)) aNil))) (aCons (eTup (aCons (eVar 2) aNil)) (aCons (eTup aNil) aNil))))))))
def q__law_none_4 (T : Tbl) : SM :=
      (sSet 5 (eBin vAdd (eVar 5) (eLst (aCons (eTup (aCons (eVar 2) (aCons (eBin vAdd (eApp vLen (aCons (eVar 3) aNil)) (eVar 4)) aNil))) (aCons (eTup (aCons (eVar 2) (aCons (eC (.int 0)) (aCons (eBin vSub (eUn vNeg (eC (.int 1))) (eVar 4)) aNil)))) (aCons (eTup (aCons (eVar 2) (aCons (eApp vLen (aCons (eVar 3) aNil)) (aCons (eC (.int 0)) aNil)))) aNil))))))
def q__law_none_5 (T : Tbl) : SM :=
      (sSet 6 (eComp (iSeq (eApp (T i__law_places) (aCons (eTup (aCons (eVar 2) aNil)) (aCons (eVar 3) aNil)))) (gName 7) (eBin (vEqF false) (eApp (T i__law_block) (aCons (eBin vIx (eVar 7) (eC (.int 1))) aNil)) (eTup aNil)) (eBin vAdd (eBin vIx (eVar 7) (eC (.int 0))) (eTup (aCons (eBin vMod (eVar 4) (eC (.int 2))) aNil))) [7]))
def q__law_none_6 (T : Tbl) : SM :=
      (sRet (eBin vIx (eBin vAdd (eVar 5) (eVar 6)) (eBin vMod (eVar 1) (eBin vAdd (eC (.int 9)) (eApp vLen (aCons (eVar 6) aNil))))))
theorem b__law_none_q (T : Tbl) : b__law_none T = (sCons (q__law_none_0 T) (sCons (q__law_none_1 T) (sCons (q__law_none_2 T) (sCons (q__law_none_3 T) (sCons (q__law_none_4 T) (sCons (q__law_none_5 T) (sCons (q__law_none_6 T) sNil))))))) := rfl
abbrev d__law_none : FnD := ⟨2, 8, false, b__law_none⟩
theorem sc__law_none : FnScope N__law_none ["_law_program_here", "_law_cell_here"] (defScope s__law_none) := ⟨rfl, rfl, rfl, by decide +kernel, rfl, by decide +kernel, by decide +kernel⟩
theorem ok__law_none {P : Program} {w : World} {K : PySem.W.Frag} {mg : Str → Option Value} {base : Heap} {f : Addr} {fd : FuncData} {n : Nat} {T : Tbl} {C : Nat → Addr} (F : Fun K "_law_none" "_law_none" s__law_none f fd) (hB : ∀ x ∈ bs, mg x = none) (hC : ∀ p ∈ cs, ∃ u, mg p.1 = some u ∧ RelV (.int p.2) u)
    (hX : ∀ p ∈ pr.xs, ExF K mg p.1 (C p.2)) (hF : FnAt P w K mg base C pr T n) : FnOk P w K mg base (L2N.CX P w) (n + 1) f fd ["_law_program_here", "_law_cell_here"] (spI P w K C (pr.fr 33) (callI d__law_none T)) :=
  fn_ok F sc__law_none rfl rfl fun cdv A outer s H E hr => by
    have c : Cok (cxOf (L2N.CX P w) P w K mg base N__law_none "_law_none" (defScope s__law_none) f cdv A outer s H E) ⟨C, E⟩ pr T n bs cs := ⟨rfl, sc__law_none.nd, hr, hF, hB, hC, L2N.takes_of rfl rfl rfl rfl, L2.passes_of rfl, hX⟩
    show EvSs _ _ _ _ (b__law_none T)
    unfold b__law_none
    exact (evss_cons (evs_set c.nd (ev_op op_mod os_mod (ev_op op_fdivW os_fdv (ev_var 1) ev_int) (ev_callB call_len2 cs_len (c.blt "len" (List.mem_of_getElem? (i := 4) rfl)) PySem.boot_len (eva_cons (ev_var 0) eva_nil))))
      (evss_cons (evs_set c.nd (ev_ix (ix_4 c.u) os_ix (ev_ix (ix_4 c.u) os_ix (ev_var 0) (ev_var 2)) ev_int))
      (evss_cons (evs_set c.nd (ev_op op_mod os_mod (ev_op op_fdivW os_fdv (ev_var 1) ev_int) (ev_op op_pow os_pow ev_int ev_int)))
      (evss_cons (evs_set c.nd (ev_lst (eva_cons (ev_tup (eva_cons (ev_var 2) (eva_cons (ev_un un_neg us_neg ev_int) eva_nil))) (eva_cons (ev_tup (eva_cons (ev_var 2) (eva_cons (ev_callB call_len2 cs_len (c.blt "len" (List.mem_of_getElem? (i := 4) rfl)) PySem.boot_len (eva_cons (ev_var 3) eva_nil)) eva_nil))) (eva_cons (ev_tup (eva_cons (ev_op op_add4 os_add (ev_callB call_len2 cs_len (c.blt "len" (List.mem_of_getElem? (i := 4) rfl)) PySem.boot_len (eva_cons (ev_var 0) eva_nil)) (ev_var 4)) (eva_cons ev_int eva_nil))) (eva_cons (ev_tup (eva_cons (ev_op op_sub os_sub (ev_un un_neg us_neg ev_int) (ev_var 4)) (eva_cons ev_int eva_nil))) (eva_cons (ev_tup (eva_cons (ev_var 2) eva_nil)) (eva_cons (ev_tup eva_nil) eva_nil))))))))
      (evss_cons (evs_set c.nd (ev_op op_add4 os_add (ev_var 5) (ev_lst (eva_cons (ev_tup (eva_cons (ev_var 2) (eva_cons (ev_op op_add4 os_add (ev_callB call_len2 cs_len (c.blt "len" (List.mem_of_getElem? (i := 4) rfl)) PySem.boot_len (eva_cons (ev_var 3) eva_nil)) (ev_var 4)) eva_nil))) (eva_cons (ev_tup (eva_cons (ev_var 2) (eva_cons ev_int (eva_cons (ev_op op_sub os_sub (ev_un un_neg us_neg ev_int) (ev_var 4)) eva_nil)))) (eva_cons (ev_tup (eva_cons (ev_var 2) (eva_cons (ev_callB call_len2 cs_len (c.blt "len" (List.mem_of_getElem? (i := 4) rfl)) PySem.boot_len (eva_cons (ev_var 3) eva_nil)) (eva_cons ev_int eva_nil)))) eva_nil))))))
      (evss_cons (evs_setLcC [("_law_pair", 7)] c lc_plain (evi_seq (ev_call c i__law_places (eva_cons (ev_tup (eva_cons (ev_var 2) eva_nil)) (eva_cons (ev_var 3) eva_nil)))) (blkOk_by (own := [("_law_pair", 7)]) (N := N__law_none) (sc := defScope s__law_none) (by decide +kernel)) (fun _ _ _ _ _ c => (evg_name c.nd)) (fun _ _ _ _ _ c => (evts_one (evt_cmp (op_eq3 c.u) (OpSem.weak os_eq) (ev_call c i__law_block (eva_cons (ev_ix (ix_4 c.u) os_ix (ev_var 7) ev_int) eva_nil)) (ev_tup eva_nil)))) (fun _ _ _ _ _ c => (ev_op op_add4 os_add (ev_ix (ix_4 c.u) os_ix (ev_var 7) ev_int) (ev_tup (eva_cons (ev_op op_mod os_mod (ev_var 4) ev_int) eva_nil)))))
      (evss_cons (evs_ret (Ev.weak (ev_ix (ix_4 c.u) os_ix (ev_op op_add4 os_add (ev_var 5) (ev_var 6)) (ev_op op_mod os_mod (ev_var 1) (ev_op op_add4 os_add ev_int (ev_callB call_len2 cs_len (c.blt "len" (List.mem_of_getElem? (i := 4) rfl)) PySem.boot_len (eva_cons (ev_var 6) eva_nil)))))))
      evss_nil)))))))

/-! law -/
abbrev s_law : Stmt := topS 50
abbrev N_law : List Str := ["_law_script", "_law_program_here", "_law_pairs", "_law_found", "_law_place", "_law_row_here"]
def b_law (T : Tbl) : SM :=
      (sCons (sSet 1 (eApp (T i__law_program) (aCons (eVar 0) (aCons (eC (.int 2)) aNil))))
      (sCons (sSet 2 (eApp (T i__law_all) (aCons (eVar 1) aNil)))
      (sCons (sIf (eOr (eBin (vEqF false) (eBin vMod (eApp (T i__law_cell) (aCons (eVar 0) (aCons (eC (.int 0)) aNil))) (eC (.int 3))) (eC (.int 0))) (eBin (vEqF false) (eVar 2) (eLst aNil)))
      (sCons (sSet 4 (eApp (T i__law_none) (aCons (eVar 1) (aCons (eApp (T i__law_cell) (aCons (eVar 0) (aCons (eC (.int 1)) aNil))) aNil))))
      (sCons (sRet (eAnd (eBin (vEqF false) (eApp (T i__law_told) (aCons (eC (.int 0)) (aCons (eVar 1) (aCons (eVar 4) aNil)))) (eC (.str "place"))) (eBin (vEqF false) (eApp (T i__law_told) (aCons (eC (.int 1)) (aCons (eVar 1) (aCons (eVar 4) aNil)))) (eC (.str "place")))))
      sNil))
      sNil)
      (sCons (sAsg (gTup 2 (gsCons (gName 4) (gsCons (gName 5) gsNil))) (eBin vIx (eVar 2) (eBin vMod (eApp (T i__law_cell) (aCons (eVar 0) (aCons (eC (.int 1)) aNil))) (eApp vLen (aCons (eVar 2) aNil)))))
      (sCons (sSet 3 (eApp (T i__law_told) (aCons (eC (.int 0)) (aCons (eVar 1) (aCons (eVar 4) aNil)))))
      (sCons (sRet (eAnd (eApp (vIsa "list") (aCons (eVar 3) aNil)) (eApp (T i__law_alike) (aCons (eApp vTuple (aCons (eVar 3) aNil)) (aCons (eTup (aCons (eVar 5) aNil)) aNil)))))
      sNil))))))
def q_law_0 (T : Tbl) : SM :=
      (sSet 1 (eApp (T i__law_program) (aCons (eVar 0) (aCons (eC (.int 2)) aNil))))
def q_law_1 (T : Tbl) : SM :=
      (sSet 2 (eApp (T i__law_all) (aCons (eVar 1) aNil)))
def q_law_2 (T : Tbl) : SM :=
      (sIf (eOr (eBin (vEqF false) (eBin vMod (eApp (T i__law_cell) (aCons (eVar 0) (aCons (eC (.int 0)) aNil))) (eC (.int 3))) (eC (.int 0))) (eBin (vEqF false) (eVar 2) (eLst aNil)))
      (sCons (sSet 4 (eApp (T i__law_none) (aCons (eVar 1) (aCons (eApp (T i__law_cell) (aCons (eVar 0) (aCons (eC (.int 1)) aNil))) aNil))))
      (sCons (sRet (eAnd (eBin (vEqF false) (eApp (T i__law_told) (aCons (eC (.int 0)) (aCons (eVar 1) (aCons (eVar 4) aNil)))) (eC (.str "place"))) (eBin (vEqF false) (eApp (T i__law_told) (aCons (eC (.int 1)) (aCons (eVar 1) (aCons (eVar 4) aNil)))) (eC (.str "place")))))
      sNil))
      sNil)
def q_law_3 (T : Tbl) : SM :=
      (sAsg (gTup 2 (gsCons (gName 4) (gsCons (gName 5) gsNil))) (eBin vIx (eVar 2) (eBin vMod (eApp (T i__law_cell) (aCons (eVar 0) (aCons (eC (.int 1)) aNil))) (eApp vLen (aCons (eVar 2) aNil)))))
def q_law_4 (T : Tbl) : SM :=
      (sSet 3 (eApp (T i__law_told) (aCons (eC (.int 0)) (aCons (eVar 1) (aCons (eVar 4) aNil)))))
def q_law_5 (T : Tbl) : SM :=
      (sRet (eAnd (eApp (vIsa "list") (aCons (eVar 3) aNil)) (eApp (T i__law_alike) (aCons (eApp vTuple (aCons (eVar 3) aNil)) (aCons (eTup (aCons (eVar 5) aNil)) aNil)))))
theorem b_law_q (T : Tbl) : b_law T = (sCons (q_law_0 T) (sCons (q_law_1 T) (sCons (q_law_2 T) (sCons (q_law_3 T) (sCons (q_law_4 T) (sCons (q_law_5 T) sNil)))))) := rfl
abbrev d_law : FnD := ⟨1, 6, false, b_law⟩
theorem sc_law : FnScope N_law ["_law_script"] (defScope s_law) := ⟨rfl, rfl, rfl, by decide +kernel, rfl, by decide +kernel, by decide +kernel⟩
theorem ok_law {P : Program} {w : World} {K : PySem.W.Frag} {mg : Str → Option Value} {base : Heap} {f : Addr} {fd : FuncData} {n : Nat} {T : Tbl} {C : Nat → Addr} (F : Fun K "law" "law" s_law f fd) (hB : ∀ x ∈ bs, mg x = none) (hC : ∀ p ∈ cs, ∃ u, mg p.1 = some u ∧ RelV (.int p.2) u)
    (hX : ∀ p ∈ pr.xs, ExF K mg p.1 (C p.2)) (hF : FnAt P w K mg base C pr T n) : FnOk P w K mg base (L2N.CX P w) (n + 1) f fd ["_law_script"] (spI P w K C (pr.fr 34) (callI d_law T)) :=
  fn_ok F sc_law rfl rfl fun cdv A outer s H E hr => by
    have c : Cok (cxOf (L2N.CX P w) P w K mg base N_law "law" (defScope s_law) f cdv A outer s H E) ⟨C, E⟩ pr T n bs cs := ⟨rfl, sc_law.nd, hr, hF, hB, hC, L2N.takes_of rfl rfl rfl rfl, L2.passes_of rfl, hX⟩
    show EvSs _ _ _ _ (b_law T)
    unfold b_law
    exact (evss_cons (evs_set c.nd (ev_call c i__law_program (eva_cons (ev_var 0) (eva_cons ev_int eva_nil))))
      (evss_cons (evs_set c.nd (ev_call c i__law_all (eva_cons (ev_var 1) eva_nil)))
      (evss_cons (evs_if (evw_pt (evw_or (evt_cmp (op_eq3 c.u) (OpSem.weak os_eq) (ev_op op_mod os_mod (ev_call c i__law_cell (eva_cons (ev_var 0) (eva_cons ev_int eva_nil))) ev_int) ev_int) (evw_or1 (evt_cmp (op_eq3 c.u) (OpSem.weak os_eq) (ev_var 2) (ev_lst eva_nil)))))
      (evss_cons (evs_set c.nd (ev_call c i__law_none (eva_cons (ev_var 1) (eva_cons (ev_call c i__law_cell (eva_cons (ev_var 0) (eva_cons ev_int eva_nil))) eva_nil))))
      (evss_cons (evs_ret (Ev.weak (ev_and (ev_cmp (op_eq3 c.u) os_eq (ev_call c i__law_told (eva_cons ev_int (eva_cons (ev_var 1) (eva_cons (ev_var 4) eva_nil)))) ev_str) (ev_one (ev_cmp (op_eq3 c.u) os_eq (ev_call c i__law_told (eva_cons ev_int (eva_cons (ev_var 1) (eva_cons (ev_var 4) eva_nil)))) ev_str)))))
      evss_nil))
      evss_nil)
      (evss_cons (evs_asg (vs := [4, 5]) (ev_ix (ix_4 c.u) os_ix (ev_var 2) (ev_op op_mod os_mod (ev_call c i__law_cell (eva_cons (ev_var 0) (eva_cons ev_int eva_nil))) (ev_callB call_len2 cs_len (c.blt "len" (List.mem_of_getElem? (i := 4) rfl)) PySem.boot_len (eva_cons (ev_var 2) eva_nil)))) (evg_tup c.calm (evgs_cons (evg_name c.nd) (evgs_cons (evg_name c.nd) evgs_nil))))
      (evss_cons (evs_set c.nd (ev_call c i__law_told (eva_cons ev_int (eva_cons (ev_var 1) (eva_cons (ev_var 4) eva_nil)))))
      (evss_cons (evs_ret (Ev.weak (ev_and (ev_isa (ev_var 3) (c.blt "isinstance" (List.mem_of_getElem? (i := 3) rfl)) (c.blt "list" (List.mem_of_getElem? (i := 5) rfl)) boot_list) (ev_one (ev_call c i__law_alike (eva_cons (ev_callTy call_tuple_of cs_tuple (c.blt "tuple" (List.mem_of_getElem? (i := 10) rfl)) boot_tuple (eva_cons (ev_var 3) eva_nil)) (eva_cons (ev_tup (eva_cons (ev_var 5) eva_nil)) eva_nil)))))))
      evss_nil))))))
def D : Nat → FnD
  | 0 => d_names_in
  | 1 => d__note_names
  | 2 => d_own_terms
  | 3 => d_own_names
  | 4 => d_own_set
  | 5 => d_has_rows
  | 6 => d_rows_within
  | 7 => d_surely_set
  | 8 => d__surely_set_by
  | 9 => d_first_read
  | 10 => d__first_read_by
  | 11 => d_row_at
  | 12 => d_rows_from
  | 13 => d__rows_around
  | 14 => d_needed
  | 15 => d__needed_ahead
  | 16 => d__law_cell
  | 17 => d__law_mixed
  | 18 => d__law_words
  | 19 => d__law_term
  | 20 => d__law_given
  | 21 => d__law_call
  | 22 => d__law_row
  | 23 => d__law_rows
  | 24 => d__law_looped
  | 25 => d__law_function
  | 26 => d__law_variables
  | 27 => d__law_program
  | 28 => d__law_block
  | 29 => d__law_places
  | 30 => d__law_all
  | 31 => d__law_alike
  | 32 => d__law_told
  | 33 => d__law_none
  | 34 => d_law
  | _ => ⟨0, 0, false, fun _ _ _ => .bad⟩
theorem c_names_in (n : Nat) (a0 : PV) (st : VSt) : Fm D (n + 1) i_names_in [a0] st = endI false st.length (b_names_in (Fm D n) [some a0, none] st) := rfl
theorem c__note_names (n : Nat) (a0 a1 : PV) (st : VSt) : Fm D (n + 1) i__note_names [a0, a1] st = endI false st.length (b__note_names (Fm D n) [some a0, some a1, none] st) := rfl
theorem c_own_terms (n : Nat) (a0 : PV) (st : VSt) : Fm D (n + 1) i_own_terms [a0] st = endI false st.length (b_own_terms (Fm D n) [some a0, none] st) := rfl
theorem c_own_names (n : Nat) (a0 : PV) (st : VSt) : Fm D (n + 1) i_own_names [a0] st = endI true st.length (b_own_names (Fm D n) [some a0, none, none] st) := rfl
theorem c_own_set (n : Nat) (a0 : PV) (st : VSt) : Fm D (n + 1) i_own_set [a0] st = endI false st.length (b_own_set (Fm D n) [some a0] st) := rfl
theorem c_has_rows (n : Nat) (a0 : PV) (st : VSt) : Fm D (n + 1) i_has_rows [a0] st = endI false st.length (b_has_rows (Fm D n) [some a0] st) := rfl
theorem c_rows_within (n : Nat) (a0 : PV) (st : VSt) : Fm D (n + 1) i_rows_within [a0] st = endI false st.length (b_rows_within (Fm D n) [some a0] st) := rfl
theorem c_surely_set (n : Nat) (a0 : PV) (st : VSt) : Fm D (n + 1) i_surely_set [a0] st = endI false st.length (b_surely_set (Fm D n) [some a0, none, none] st) := rfl
theorem c__surely_set_by (n : Nat) (a0 : PV) (st : VSt) : Fm D (n + 1) i__surely_set_by [a0] st = endI false st.length (b__surely_set_by (Fm D n) [some a0, none] st) := rfl
theorem c_first_read (n : Nat) (a0 : PV) (st : VSt) : Fm D (n + 1) i_first_read [a0] st = endI false st.length (b_first_read (Fm D n) [some a0, none, none, none, none] st) := rfl
theorem c__first_read_by (n : Nat) (a0 : PV) (st : VSt) : Fm D (n + 1) i__first_read_by [a0] st = endI false st.length (b__first_read_by (Fm D n) [some a0, none] st) := rfl
theorem c_row_at (n : Nat) (a0 a1 : PV) (st : VSt) : Fm D (n + 1) i_row_at [a0, a1] st = endI false st.length (b_row_at (Fm D n) [some a0, some a1] st) := rfl
theorem c_rows_from (n : Nat) (a0 a1 a2 : PV) (st : VSt) : Fm D (n + 1) i_rows_from [a0, a1, a2] st = endI false st.length (b_rows_from (Fm D n) [some a0, some a1, some a2, none, none] st) := rfl
theorem c__rows_around (n : Nat) (a0 a1 : PV) (st : VSt) : Fm D (n + 1) i__rows_around [a0, a1] st = endI false st.length (b__rows_around (Fm D n) [some a0, some a1, none, none] st) := rfl
theorem c_needed (n : Nat) (a0 a1 : PV) (st : VSt) : Fm D (n + 1) i_needed [a0, a1] st = endI false st.length (b_needed (Fm D n) [some a0, some a1, none, none, none, none, none] st) := rfl
theorem c__needed_ahead (n : Nat) (a0 a1 : PV) (st : VSt) : Fm D (n + 1) i__needed_ahead [a0, a1] st = endI false st.length (b__needed_ahead (Fm D n) [some a0, some a1, none, none] st) := rfl
theorem c__law_cell (n : Nat) (a0 a1 : PV) (st : VSt) : Fm D (n + 1) i__law_cell [a0, a1] st = endI false st.length (b__law_cell (Fm D n) [some a0, some a1, none, none] st) := rfl
theorem c__law_mixed (n : Nat) (a0 a1 : PV) (st : VSt) : Fm D (n + 1) i__law_mixed [a0, a1] st = endI false st.length (b__law_mixed (Fm D n) [some a0, some a1, none] st) := rfl
theorem c__law_words (n : Nat) (a0 a1 : PV) (st : VSt) : Fm D (n + 1) i__law_words [a0, a1] st = endI false st.length (b__law_words (Fm D n) [some a0, some a1, none, none, none, none] st) := rfl
theorem c__law_term (n : Nat) (a0 a1 a2 : PV) (st : VSt) : Fm D (n + 1) i__law_term [a0, a1, a2] st = endI false st.length (b__law_term (Fm D n) [some a0, some a1, some a2, none, none] st) := rfl
theorem c__law_given (n : Nat) (a0 a1 a2 : PV) (st : VSt) : Fm D (n + 1) i__law_given [a0, a1, a2] st = endI false st.length (b__law_given (Fm D n) [some a0, some a1, some a2] st) := rfl
theorem c__law_call (n : Nat) (a0 a1 a2 : PV) (st : VSt) : Fm D (n + 1) i__law_call [a0, a1, a2] st = endI false st.length (b__law_call (Fm D n) [some a0, some a1, some a2, none, none, none, none] st) := rfl
theorem c__law_row (n : Nat) (a0 a1 a2 a3 : PV) (st : VSt) : Fm D (n + 1) i__law_row [a0, a1, a2, a3] st = endI false st.length (b__law_row (Fm D n) [some a0, some a1, some a2, some a3, none, none, none, none, none, none] st) := rfl
theorem c__law_rows (n : Nat) (a0 a1 a2 a3 a4 : PV) (st : VSt) : Fm D (n + 1) i__law_rows [a0, a1, a2, a3, a4] st = endI false st.length (b__law_rows (Fm D n) [some a0, some a1, some a2, some a3, some a4, none] st) := rfl
theorem c__law_looped (n : Nat) (a0 a1 : PV) (st : VSt) : Fm D (n + 1) i__law_looped [a0, a1] st = endI false st.length (b__law_looped (Fm D n) [some a0, some a1, none, none, none, none, none] st) := rfl
theorem c__law_function (n : Nat) (a0 a1 a2 a3 : PV) (st : VSt) : Fm D (n + 1) i__law_function [a0, a1, a2, a3] st = endI false st.length (b__law_function (Fm D n) [some a0, some a1, some a2, some a3, none, none, none, none, none] st) := rfl
theorem c__law_variables (n : Nat) (a0 a1 : PV) (st : VSt) : Fm D (n + 1) i__law_variables [a0, a1] st = endI false st.length (b__law_variables (Fm D n) [some a0, some a1] st) := rfl
theorem c__law_program (n : Nat) (a0 a1 : PV) (st : VSt) : Fm D (n + 1) i__law_program [a0, a1] st = endI false st.length (b__law_program (Fm D n) [some a0, some a1, none, none, none, none, none, none] st) := rfl
theorem c__law_block (n : Nat) (a0 : PV) (st : VSt) : Fm D (n + 1) i__law_block [a0] st = endI false st.length (b__law_block (Fm D n) [some a0] st) := rfl
theorem c__law_places (n : Nat) (a0 a1 : PV) (st : VSt) : Fm D (n + 1) i__law_places [a0, a1] st = endI false st.length (b__law_places (Fm D n) [some a0, some a1, none, none] st) := rfl
theorem c__law_all (n : Nat) (a0 : PV) (st : VSt) : Fm D (n + 1) i__law_all [a0] st = endI false st.length (b__law_all (Fm D n) [some a0, none, none] st) := rfl
theorem c__law_alike (n : Nat) (a0 a1 : PV) (st : VSt) : Fm D (n + 1) i__law_alike [a0, a1] st = endI false st.length (b__law_alike (Fm D n) [some a0, some a1, none] st) := rfl
theorem c__law_told (n : Nat) (a0 a1 a2 : PV) (st : VSt) : Fm D (n + 1) i__law_told [a0, a1, a2] st = endI false st.length (b__law_told (Fm D n) [some a0, some a1, some a2, none] st) := rfl
theorem c__law_none (n : Nat) (a0 a1 : PV) (st : VSt) : Fm D (n + 1) i__law_none [a0, a1] st = endI false st.length (b__law_none (Fm D n) [some a0, some a1, none, none, none, none, none, none] st) := rfl
theorem c_law (n : Nat) (a0 : PV) (st : VSt) : Fm D (n + 1) i_law [a0] st = endI false st.length (b_law (Fm D n) [some a0, none, none, none, none, none] st) := rfl
end Lk

namespace Lk
open PySem L2 Vm
/-! ## what is drawn: cells, mixed numbers, words, terms -/
def mixedF (a k : Int) : Int := (a * 48271 + (k + 1) * 1299721) % 2147483647 * ((a * 48271 + (k + 1) * 1299721) % 2147483647 / 7 % 65536 + 3) % 2147483647
theorem F_mixed (n : Nat) (a k : Int) (st : VSt) : Fm D (n + 1) i__law_mixed [.int a, .int k] st = .ok (.int (mixedF a k)) st := by
  rw [c__law_mixed]
  unfold b__law_mixed
  simp -implicitDefEqProofs (disch := omega) only [x_raise, x_notL, end_ex, bind_ok, nox_ok, bind_ex, s_ex, sb_ex, s_ok, sb_nx, sb_rt, sb_ct, sb_bk, onB_bl, onBS_bl, x_var, x_c, x_bin, x_un, x_nil, x_cons, x_tup, x_lst, x_app, x_and, x_or, x_not, x_if, x_box, x_get, x_sl, x_onone, x_osome, x_snil, x_scons, x_set, x_expr, x_ret, x_retB, x_sif, x_bk, x_ct, x_aug, x_asg, x_gname, x_gnil, x_gcons, x_gtup, mkt0, mkl0, mkt1, mkl1, mkt2, mkl2, mkt3, mkl3, mkt4, mkl4, mkt5, mkl5, mkt6, mkl6, mkt7, mkl7, v_il0, v_it0, v_il1, v_it1, v_il2, v_it2, v_il3, v_it3, v_il4, v_it4, v_il5, v_it5, v_add, v_addI, v_sub, v_neg, v_mul, v_fdv, v_mod, v_cmp, v_eqs, v_nes, v_eqi, v_nei, v_eqb, v_ixc, opt_some, v_lenl, v_lent, v_lenc, v_tupt, v_tupl, v_intb, v_inti, v_max, v_isn, v_isnn, end_rt, end_nx, fz_int, fz_str, fz_bl, fz_non, List.getElem?_cons_zero, List.getElem?_cons_succ, List.set_cons_zero, List.set_cons_succ, List.length_cons, List.length_nil, List.take_length, Option.map_some, oldLoc, Bool.false_and, Bool.and_false, Bool.true_and, Bool.and_true, Bool.not_true, Bool.not_false, Bool.false_eq_true, decide_true, decide_false, decide_eq_true_eq, if_true, if_false, ↓reduceIte, Nat.reduceAdd, Nat.reduceLeDiff, mixedF]
theorem mixedF_range (a k : Int) : 0 ≤ mixedF a k ∧ mixedF a k < 2147483647 := by
  unfold mixedF
  omega
def mkA (c k : Int) : Int := (c % 2147483629 + 7919 * (k + 1)) * 48271 % 2147483647
def mkB (m : Int) : Int := m * m % 2147483629 * 69621 % 2147483647
def mkC (c m : Int) : Int := (c / 2147483629 * 2147483647 + m) * 2147483629 + m * m % 2147483629
def cellV (c k : Int) : Int := mkC c (mkB (mkA c k))
def cellF (ns : List Int) (k : Nat) : Int := cellV ((ns[k]?).getD 0) k
theorem mkA_r (c k : Int) : 0 ≤ mkA c k ∧ mkA c k < 2147483647 := by unfold mkA; omega
theorem mkB_r (m : Int) : 0 ≤ mkB m ∧ mkB m < 2147483647 := by unfold mkB; omega
theorem F_cell (n : Nat) (ns : List Int) (k : Nat) (st : VSt) : Fm D (n + 1) i__law_cell [.scr ns, .int (k : Int)] st = .ok (.int (cellF ns k)) st := by
  rw [c__law_cell]
  unfold b__law_cell
  have key : ∀ c : Int, (eIf (eBin vLt (eVar 1) (eApp vLen (aCons (eVar 0) aNil))) (eBin vIx (eVar 0) (eVar 1)) (eC (.int 0))) [some (.scr ns), some (.int (k : Int)), none, none] st = .ok (.int c) st → 
      endI false st.length ((sCons (sSet 2 (eIf (eBin vLt (eVar 1) (eApp vLen (aCons (eVar 0) aNil))) (eBin vIx (eVar 0) (eVar 1)) (eC (.int 0)))) 
        (sCons (sSet 3 (eBin vMod (eBin vMul (eBin vAdd (eBin vMod (eVar 2) (eC (.int 2147483629))) (eBin vMul (eC (.int 7919)) (eBin vAdd (eVar 1) (eC (.int 1))))) (eC (.int 48271))) (eC (.int 2147483647))))
        (sCons (sSet 3 (eBin vMod (eBin vMul (eBin vMod (eBin vMul (eVar 3) (eVar 3)) (eC (.int 2147483629))) (eC (.int 69621))) (eC (.int 2147483647))))
        (sCons (sRet (eBin vAdd (eBin vMul (eBin vAdd (eBin vMul (eBin vFdv (eVar 2) (eC (.int 2147483629))) (eC (.int 2147483647))) (eVar 3)) (eC (.int 2147483629))) (eBin vMod (eBin vMul (eVar 3) (eVar 3)) (eC (.int 2147483629))))) sNil)))) [some (.scr ns), some (.int (k : Int)), none, none] st) = .ok (.int (cellV c k)) st := by
    intro c h
    have hA := mkA_r c k
    have hB := mkB_r (mkA c k)
    have eA : (c % 2147483629 + 7919 * ((k : Int) + 1)) * 48271 % 2147483647 = mkA c k := rfl
    have eB : mkA c k * mkA c k % 2147483629 * 69621 % 2147483647 = mkB (mkA c k) := rfl
    rw [x_scons, x_set, h]
    simp -implicitDefEqProofs (disch := omega) only [x_raise, x_notL, end_ex, bind_ok, nox_ok, bind_ex, s_ex, sb_ex, s_ok, sb_nx, sb_rt, sb_ct, sb_bk, onB_bl, onBS_bl, x_var, x_c, x_bin, x_un, x_nil, x_cons, x_tup, x_lst, x_app, x_and, x_or, x_not, x_if, x_box, x_get, x_sl, x_onone, x_osome, x_snil, x_scons, x_set, x_expr, x_ret, x_retB, x_sif, x_bk, x_ct, x_aug, x_asg, x_gname, x_gnil, x_gcons, x_gtup, mkt0, mkl0, mkt1, mkl1, mkt2, mkl2, mkt3, mkl3, mkt4, mkl4, mkt5, mkl5, mkt6, mkl6, mkt7, mkl7, v_il0, v_it0, v_il1, v_it1, v_il2, v_it2, v_il3, v_it3, v_il4, v_it4, v_il5, v_it5, v_add, v_addI, v_sub, v_neg, v_mul, v_fdv, v_mod, v_cmp, v_eqs, v_nes, v_eqi, v_nei, v_eqb, v_ixc, opt_some, v_lenl, v_lent, v_lenc, v_tupt, v_tupl, v_intb, v_inti, v_max, v_isn, v_isnn, end_rt, end_nx, fz_int, fz_str, fz_bl, fz_non, List.getElem?_cons_zero, List.getElem?_cons_succ, List.set_cons_zero, List.set_cons_succ, List.length_cons, List.length_nil, List.take_length, Option.map_some, oldLoc, Bool.false_and, Bool.and_false, Bool.true_and, Bool.and_true, Bool.not_true, Bool.not_false, Bool.false_eq_true, decide_true, decide_false, decide_eq_true_eq, if_true, if_false, ↓reduceIte, Nat.reduceAdd, Nat.reduceLeDiff, eA, eB]
    rfl
  by_cases h : k < ns.length
  · have e : atI ns (k : Int) = some ns[k] := atI_nat (List.getElem?_eq_getElem h)
    have h2 : ((k : Int) < (ns.length : Int)) = True := by simp; omega
    have h3 : (ns[k]?).getD 0 = ns[k] := by rw [List.getElem?_eq_getElem h]; rfl
    unfold cellF
    rw [h3]
    exact key _ (by simp -implicitDefEqProofs (disch := omega) only [x_raise, x_notL, end_ex, bind_ok, nox_ok, bind_ex, s_ex, sb_ex, s_ok, sb_nx, sb_rt, sb_ct, sb_bk, onB_bl, onBS_bl, x_var, x_c, x_bin, x_un, x_nil, x_cons, x_tup, x_lst, x_app, x_and, x_or, x_not, x_if, x_box, x_get, x_sl, x_onone, x_osome, x_snil, x_scons, x_set, x_expr, x_ret, x_retB, x_sif, x_bk, x_ct, x_aug, x_asg, x_gname, x_gnil, x_gcons, x_gtup, mkt0, mkl0, mkt1, mkl1, mkt2, mkl2, mkt3, mkl3, mkt4, mkl4, mkt5, mkl5, mkt6, mkl6, mkt7, mkl7, v_il0, v_it0, v_il1, v_it1, v_il2, v_it2, v_il3, v_it3, v_il4, v_it4, v_il5, v_it5, v_add, v_addI, v_sub, v_neg, v_mul, v_fdv, v_mod, v_cmp, v_eqs, v_nes, v_eqi, v_nei, v_eqb, v_ixc, opt_some, v_lenl, v_lent, v_lenc, v_tupt, v_tupl, v_intb, v_inti, v_max, v_isn, v_isnn, end_rt, end_nx, fz_int, fz_str, fz_bl, fz_non, List.getElem?_cons_zero, List.getElem?_cons_succ, List.set_cons_zero, List.set_cons_succ, List.length_cons, List.length_nil, List.take_length, Option.map_some, oldLoc, Bool.false_and, Bool.and_false, Bool.true_and, Bool.and_true, Bool.not_true, Bool.not_false, Bool.false_eq_true, decide_true, decide_false, decide_eq_true_eq, if_true, if_false, ↓reduceIte, Nat.reduceAdd, Nat.reduceLeDiff, h2, e])
  · have h2 : ((k : Int) < (ns.length : Int)) = False := by simp; omega
    have h3 : (ns[k]?).getD 0 = 0 := by rw [List.getElem?_eq_none (by omega)]; rfl
    unfold cellF
    rw [h3]
    exact key _ (by simp -implicitDefEqProofs (disch := omega) only [x_raise, x_notL, end_ex, bind_ok, nox_ok, bind_ex, s_ex, sb_ex, s_ok, sb_nx, sb_rt, sb_ct, sb_bk, onB_bl, onBS_bl, x_var, x_c, x_bin, x_un, x_nil, x_cons, x_tup, x_lst, x_app, x_and, x_or, x_not, x_if, x_box, x_get, x_sl, x_onone, x_osome, x_snil, x_scons, x_set, x_expr, x_ret, x_retB, x_sif, x_bk, x_ct, x_aug, x_asg, x_gname, x_gnil, x_gcons, x_gtup, mkt0, mkl0, mkt1, mkl1, mkt2, mkl2, mkt3, mkl3, mkt4, mkl4, mkt5, mkl5, mkt6, mkl6, mkt7, mkl7, v_il0, v_it0, v_il1, v_it1, v_il2, v_it2, v_il3, v_it3, v_il4, v_it4, v_il5, v_it5, v_add, v_addI, v_sub, v_neg, v_mul, v_fdv, v_mod, v_cmp, v_eqs, v_nes, v_eqi, v_nei, v_eqb, v_ixc, opt_some, v_lenl, v_lent, v_lenc, v_tupt, v_tupl, v_intb, v_inti, v_max, v_isn, v_isnn, end_rt, end_nx, fz_int, fz_str, fz_bl, fz_non, List.getElem?_cons_zero, List.getElem?_cons_succ, List.set_cons_zero, List.set_cons_succ, List.length_cons, List.length_nil, List.take_length, Option.map_some, oldLoc, Bool.false_and, Bool.and_false, Bool.true_and, Bool.and_true, Bool.not_true, Bool.not_false, Bool.false_eq_true, decide_true, decide_false, decide_eq_true_eq, if_true, if_false, ↓reduceIte, Nat.reduceAdd, Nat.reduceLeDiff, h2])
end Lk


namespace Lk
open PySem L2 Vm
def Ls : Str := "abcdefghijklmnopqrstuvwxyz"
theorem Ls_codes : Ls.cps.toList = (List.range 26).map (97 + ·) := by decide +kernel
theorem Ls_len : Ls.length = 26 := by decide +kernel
def ltr (i : Int) : Str := ⟨#[97 + i.toNat]⟩
theorem v_ltr {i : Int} {st : VSt} (h0 : 0 ≤ i) (h1 : i < 26) : vIx (.str Ls) (.int i) st = .ok (.str (ltr i)) st := by
  rw [v_ixs (by rw [Ls_len]; decide), Ls_codes]
  have e : i = ((i.toNat : Nat) : Int) := by omega
  have h : atI ((List.range 26).map (97 + ·)) i = some (97 + i.toNat) := by
    rw [e]
    refine atI_nat ?_
    have : i.toNat < 26 := by omega
    rw [List.getElem?_map, List.getElem?_range this]; rfl
  rw [h]; rfl
theorem len_repS (x : Str) (n : Nat) : (repS x n).length = n * x.length := by
  unfold repS Str.length
  simp [List.length_flatten]
theorem len_ltr (i : Int) : (ltr i).length = 1 := rfl
def wBase (c : Int) : Str := repS (ltr (c % 26)) (1 + c / 26 % 8).toNat
theorem len_base (c : Int) : ((wBase c).length : Int) = 1 + c / 26 % 8 := by
  unfold wBase
  rw [len_repS, len_ltr, Nat.mul_one]
  omega
def wAt (c : Int) : Int := c / 208 % ((wBase c).length : Int)
def wA (c : Int) (k : Nat) : Str := repS (ltr (c % 26)) (1 + (k : Int)).toNat
def wB (c : Int) (k : Nat) : Str := cutS (wBase c) none (some (wAt c)) ++ ltr ((c / 4992 + 5 * (k : Int)) % 26) ++ cutS (wBase c) (some (wAt c + 1)) none
def wordF (c : Int) (k : Nat) : Str := if c / 1664 % 3 = 1 then wA c k else wB c k
def wordsF (c : Int) (m : Nat) : List Str := (List.range m).map (wordF c)
theorem len_app (a b : Str) : (a ++ b).length = a.length + b.length := by
  show (a.cps ++ b.cps).size = _
  rw [Array.size_append]; rfl
theorem F_words (n : Nat) (c : Int) (m : Nat) (hm : m ≤ 100) (st : VSt) : Fm D (n + 1) i__law_words [.int c, .int (m : Int)] st = .ok (.lst ((wordsF c m).map PV.str)) st := by
  rw [c__law_words]
  unfold b__law_words
  have hb := len_base c
  have hat : 0 ≤ wAt c := Int.emod_nonneg _ (by omega)
  have e0 : ("abcdefghijklmnopqrstuvwxyz" : Str) = Ls := rfl
  have e1 : repS (ltr (c % 26)) (1 + c / 26 % 8).toNat = wBase c := rfl
  have e2 : c / 208 % ((wBase c).length : Int) = wAt c := rfl
  have l1 := len_ltr (c % 26)
  have hp : pures ((wordsF c m).map PV.str) = true := pures_strs _
  by_cases ht : c / 1664 % 3 = 1
  · simp -implicitDefEqProofs (disch := omega) only [x_raise, x_notL, end_ex, bind_ok, nox_ok, bind_ex, s_ex, sb_ex, s_ok, sb_nx, sb_rt, sb_ct, sb_bk, onB_bl, onBS_bl, x_var, x_c, x_bin, x_un, x_nil, x_cons, x_tup, x_lst, x_app, x_and, x_or, x_not, x_if, x_box, x_get, x_sl, x_onone, x_osome, x_snil, x_scons, x_set, x_expr, x_ret, x_retB, x_sif, x_bk, x_ct, x_aug, x_asg, x_gname, x_gnil, x_gcons, x_gtup, mkt0, mkl0, mkt1, mkl1, mkt2, mkl2, mkt3, mkl3, mkt4, mkl4, mkt5, mkl5, mkt6, mkl6, mkt7, mkl7, v_il0, v_it0, v_il1, v_it1, v_il2, v_it2, v_il3, v_it3, v_il4, v_it4, v_il5, v_it5, v_add, v_addI, v_sub, v_neg, v_mul, v_fdv, v_mod, v_cmp, v_eqs, v_nes, v_eqi, v_nei, v_eqb, v_ixc, opt_some, v_lenl, v_lent, v_lenc, v_tupt, v_tupl, v_intb, v_inti, v_max, v_isn, v_isnn, end_rt, end_nx, fz_int, fz_str, fz_bl, fz_non, List.getElem?_cons_zero, List.getElem?_cons_succ, List.set_cons_zero, List.set_cons_succ, List.length_cons, List.length_nil, List.take_length, Option.map_some, oldLoc, Bool.false_and, Bool.and_false, Bool.true_and, Bool.and_true, Bool.not_true, Bool.not_false, Bool.false_eq_true, decide_true, decide_false, decide_eq_true_eq, if_true, if_false, ↓reduceIte, Nat.reduceAdd, Nat.reduceLeDiff, e0, v_ltr, v_muls, e1, v_lens, e2, ht]
    rw [comp_rng (m := (m : Int)) (f := fun k => .str (wordF c k)) rfl (by omega) (by omega) (fun k hk => by
      simp -implicitDefEqProofs (disch := omega) only [x_raise, x_notL, end_ex, bind_ok, nox_ok, bind_ex, s_ex, sb_ex, s_ok, sb_nx, sb_rt, sb_ct, sb_bk, onB_bl, onBS_bl, x_var, x_c, x_bin, x_un, x_nil, x_cons, x_tup, x_lst, x_app, x_and, x_or, x_not, x_if, x_box, x_get, x_sl, x_onone, x_osome, x_snil, x_scons, x_set, x_expr, x_ret, x_retB, x_sif, x_bk, x_ct, x_aug, x_asg, x_gname, x_gnil, x_gcons, x_gtup, mkt0, mkl0, mkt1, mkl1, mkt2, mkl2, mkt3, mkl3, mkt4, mkl4, mkt5, mkl5, mkt6, mkl6, mkt7, mkl7, v_il0, v_it0, v_il1, v_it1, v_il2, v_it2, v_il3, v_it3, v_il4, v_it4, v_il5, v_it5, v_add, v_addI, v_sub, v_neg, v_mul, v_fdv, v_mod, v_cmp, v_eqs, v_nes, v_eqi, v_nei, v_eqb, v_ixc, opt_some, v_lenl, v_lent, v_lenc, v_tupt, v_tupl, v_intb, v_inti, v_max, v_isn, v_isnn, end_rt, end_nx, fz_int, fz_str, fz_bl, fz_non, List.getElem?_cons_zero, List.getElem?_cons_succ, List.set_cons_zero, List.set_cons_succ, List.length_cons, List.length_nil, List.take_length, Option.map_some, oldLoc, Bool.false_and, Bool.and_false, Bool.true_and, Bool.and_true, Bool.not_true, Bool.not_false, Bool.false_eq_true, decide_true, decide_false, decide_eq_true_eq, if_true, if_false, ↓reduceIte, Nat.reduceAdd, Nat.reduceLeDiff, v_ltr, v_muls]
      simp only [wordF, ht, if_true, wA])]
    simp only [s_ok, sb_rt, end_rt, Bool.false_and, Bool.false_eq_true, if_false, List.take_length]
    have e3 : (List.range (m : Int).toNat).map (fun k => PV.str (wordF c k)) = (wordsF c m).map PV.str := by
      rw [Int.toNat_natCast]; unfold wordsF; rw [List.map_map]; rfl
    rw [e3, fz_lst hp]
  · have ht' : decide (c / 1664 % 3 = 1) = false := decide_eq_false ht
    simp -implicitDefEqProofs (disch := omega) only [x_raise, x_notL, end_ex, bind_ok, nox_ok, bind_ex, s_ex, sb_ex, s_ok, sb_nx, sb_rt, sb_ct, sb_bk, onB_bl, onBS_bl, x_var, x_c, x_bin, x_un, x_nil, x_cons, x_tup, x_lst, x_app, x_and, x_or, x_not, x_if, x_box, x_get, x_sl, x_onone, x_osome, x_snil, x_scons, x_set, x_expr, x_ret, x_retB, x_sif, x_bk, x_ct, x_aug, x_asg, x_gname, x_gnil, x_gcons, x_gtup, mkt0, mkl0, mkt1, mkl1, mkt2, mkl2, mkt3, mkl3, mkt4, mkl4, mkt5, mkl5, mkt6, mkl6, mkt7, mkl7, v_il0, v_it0, v_il1, v_it1, v_il2, v_it2, v_il3, v_it3, v_il4, v_it4, v_il5, v_it5, v_add, v_addI, v_sub, v_neg, v_mul, v_fdv, v_mod, v_cmp, v_eqs, v_nes, v_eqi, v_nei, v_eqb, v_ixc, opt_some, v_lenl, v_lent, v_lenc, v_tupt, v_tupl, v_intb, v_inti, v_max, v_isn, v_isnn, end_rt, end_nx, fz_int, fz_str, fz_bl, fz_non, List.getElem?_cons_zero, List.getElem?_cons_succ, List.set_cons_zero, List.set_cons_succ, List.length_cons, List.length_nil, List.take_length, Option.map_some, oldLoc, Bool.false_and, Bool.and_false, Bool.true_and, Bool.and_true, Bool.not_true, Bool.not_false, Bool.false_eq_true, decide_true, decide_false, decide_eq_true_eq, if_true, if_false, ↓reduceIte, Nat.reduceAdd, Nat.reduceLeDiff, e0, v_ltr, v_muls, e1, v_lens, e2, ht']
    rw [comp_rng (m := (m : Int)) (f := fun k => .str (wordF c k)) rfl (by omega) (by omega) (fun k hk => by
      have l2 := len_ltr ((c / 4992 + 5 * (k : Int)) % 26)
      have l3 := cutS_length (wBase c) none (some (wAt c))
      have l4 := cutS_length (wBase c) (some (wAt c + 1)) none
      have l5 := len_app (cutS (wBase c) none (some (wAt c))) (ltr ((c / 4992 + 5 * (k : Int)) % 26))
      simp -implicitDefEqProofs (disch := omega) only [x_raise, x_notL, end_ex, bind_ok, nox_ok, bind_ex, s_ex, sb_ex, s_ok, sb_nx, sb_rt, sb_ct, sb_bk, onB_bl, onBS_bl, x_var, x_c, x_bin, x_un, x_nil, x_cons, x_tup, x_lst, x_app, x_and, x_or, x_not, x_if, x_box, x_get, x_sl, x_onone, x_osome, x_snil, x_scons, x_set, x_expr, x_ret, x_retB, x_sif, x_bk, x_ct, x_aug, x_asg, x_gname, x_gnil, x_gcons, x_gtup, mkt0, mkl0, mkt1, mkl1, mkt2, mkl2, mkt3, mkl3, mkt4, mkl4, mkt5, mkl5, mkt6, mkl6, mkt7, mkl7, v_il0, v_it0, v_il1, v_it1, v_il2, v_it2, v_il3, v_it3, v_il4, v_it4, v_il5, v_it5, v_add, v_addI, v_sub, v_neg, v_mul, v_fdv, v_mod, v_cmp, v_eqs, v_nes, v_eqi, v_nei, v_eqb, v_ixc, opt_some, v_lenl, v_lent, v_lenc, v_tupt, v_tupl, v_intb, v_inti, v_max, v_isn, v_isnn, end_rt, end_nx, fz_int, fz_str, fz_bl, fz_non, List.getElem?_cons_zero, List.getElem?_cons_succ, List.set_cons_zero, List.set_cons_succ, List.length_cons, List.length_nil, List.take_length, Option.map_some, oldLoc, Bool.false_and, Bool.and_false, Bool.true_and, Bool.and_true, Bool.not_true, Bool.not_false, Bool.false_eq_true, decide_true, decide_false, decide_eq_true_eq, if_true, if_false, ↓reduceIte, Nat.reduceAdd, Nat.reduceLeDiff, v_ltr, v_muls, v_sls, v_adds]
      simp only [wordF, ht, if_false, wB])]
    simp only [s_ok, sb_rt, end_rt, Bool.false_and, Bool.false_eq_true, if_false, List.take_length]
    have e3 : (List.range (m : Int).toNat).map (fun k => PV.str (wordF c k)) = (wordsF c m).map PV.str := by
      rw [Int.toNat_natCast]; unfold wordsF; rw [List.map_map]; rfl
    rw [e3, fz_lst hp]
theorem len_words (c : Int) (m : Nat) : (wordsF c m).length = m := by simp [wordsF]
end Lk


namespace Lk
open PySem L2 Vm
/-! ## terms -/
inductive Trm where
  | num (n : Int)
  | name (x : Str)
  | bin (k : Nat) (a b : Trm)
def opS : Nat → Str
  | 0 => "sum"
  | 1 => "less"
  | _ => "times"
def Trm.pv : Trm → PV
  | .num n => .tup [.str "num", .int n]
  | .name x => .tup [.str "name", .str x]
  | .bin k a b => .tup [.str (opS k), a.pv, b.pv]
theorem Trm.pure : ∀ t : Trm, pureP t.pv = true
  | .num n => rfl
  | .name x => rfl
  | .bin k a b => by
    show pures [.str (opS k), a.pv, b.pv] = true
    simp [pures, pureP, a.pure, b.pure]
theorem fz_tm {s : VSt} {k : Nat} (t : Trm) : freeze s k t.pv = t.pv := freeze_pure _ t.pure
theorem fz_tup {s : VSt} {k : Nat} {xs : List PV} : freeze s k (.tup xs) = .tup (freezes s k xs) := by unfold freeze; exact Eq.trans rfl rfl
theorem fzs_nil {s : VSt} {k : Nat} : freezes s k [] = [] := by unfold freezes; exact Eq.trans rfl rfl
theorem fzs_cons {s : VSt} {k : Nat} {x : PV} {xs : List PV} : freezes s k (x :: xs) = freeze s k x :: freezes s k xs := by rw [freezes]
def Trm.size : Trm → Nat
  | .bin _ a b => a.size + b.size + 1
  | _ => 1
def Trm.depth : Trm → Nat
  | .bin _ a b => max a.depth b.depth + 1
  | _ => 0
/-- numbers in their range, names of the words -/
def Trm.Good (ok : Str → Prop) : Trm → Prop
  | .num n => 0 ≤ n ∧ n < 1000003
  | .name x => ok x
  | .bin k a b => k < 3 ∧ a.Good ok ∧ b.Good ok
def leafF (ws : List Str) (c : Int) : Trm :=
  if c % 6 = 0 then .num (c / 6 % 3) else if c % 6 = 1 then .num (c / 6 % 1000003) else .name (ws.getD (c / 6 % (ws.length : Int)).toNat "")
def termF (ws : List Str) : Nat → Int → Trm
  | 0, c => leafF ws c
  | d + 1, c => if c % 6 < 4 then leafF ws c else .bin (c / 6 % 3).toNat (termF ws d (mixedF c 1)) (termF ws d (mixedF c 2))
theorem v_word {ws : List Str} {i : Int} {st : VSt} (h0 : 0 ≤ i) (h1 : i < (ws.length : Int)) : vIx (.lst (ws.map PV.str)) (.int i) st = .ok (.str (ws.getD i.toNat "")) st := by
  rw [v_ixl, at_in h0 (by rw [List.length_map]; exact h1)]
  have : i.toNat < ws.length := by omega
  rw [List.getElem_map, List.getD_eq_getElem?_getD, List.getElem?_eq_getElem this]
  rfl
theorem v_ops {i : Int} {st : VSt} (h0 : 0 ≤ i) (h1 : i < 3) : vIx (.lst [.str "sum", .str "less", .str "times"]) (.int i) st = .ok (.str (opS i.toNat)) st := by
  have : i = 0 ∨ i = 1 ∨ i = 2 := by omega
  rcases this with rfl | rfl | rfl
  · rw [v_ixl, at_0]; exact Eq.trans rfl rfl
  · rw [v_ixl, at_1]; exact Eq.trans rfl rfl
  · rw [v_ixl, at_2]; exact Eq.trans rfl rfl
theorem leaf_good {ws : List Str} (c : Int) (hw : 0 < ws.length) : (leafF ws c).Good (· ∈ ws) := by
  unfold leafF
  split
  · show 0 ≤ c / 6 % 3 ∧ c / 6 % 3 < 1000003
    omega
  · split
    · show 0 ≤ c / 6 % 1000003 ∧ c / 6 % 1000003 < 1000003
      omega
    · show ws.getD _ _ ∈ ws
      have h0 : 0 ≤ c / 6 % (ws.length : Int) := Int.emod_nonneg _ (by omega)
      have h1 : c / 6 % (ws.length : Int) < ws.length := Int.emod_lt_of_pos _ (by omega)
      have : (c / 6 % (ws.length : Int)).toNat < ws.length := by omega
      rw [List.getD_eq_getElem?_getD, List.getElem?_eq_getElem this]
      exact List.getElem_mem _
theorem term_good {ws : List Str} (hw : 0 < ws.length) : ∀ (d : Nat) (c : Int), (termF ws d c).Good (· ∈ ws)
  | 0, c => leaf_good c hw
  | d + 1, c => by
    unfold termF
    split
    · exact leaf_good c hw
    · exact ⟨by omega, term_good hw d _, term_good hw d _⟩
theorem leaf_depth (ws : List Str) (c : Int) : (leafF ws c).depth = 0 := by
  unfold leafF
  split
  · rfl
  · split <;> rfl
theorem leaf_size (ws : List Str) (c : Int) : (leafF ws c).size = 1 := by
  unfold leafF
  split
  · rfl
  · split <;> rfl
theorem term_depth (ws : List Str) : ∀ (d : Nat) (c : Int), (termF ws d c).depth ≤ d
  | 0, c => by unfold termF; rw [leaf_depth]; exact Nat.le_refl _
  | d + 1, c => by
    unfold termF
    split
    · rw [leaf_depth]; exact Nat.zero_le _
    · have h1 := term_depth ws d (mixedF c 1)
      have h2 := term_depth ws d (mixedF c 2)
      show max _ _ + 1 ≤ _
      omega
theorem term_size (ws : List Str) : ∀ (d : Nat) (c : Int), (termF ws d c).size < 2 ^ (d + 1)
  | 0, c => by unfold termF; rw [leaf_size]; decide
  | d + 1, c => by
    have h3 : 2 ^ (d + 1 + 1) = 2 * 2 ^ (d + 1) := by rw [Nat.pow_succ]; omega
    have h4 : 0 < 2 ^ (d + 1) := Nat.two_pow_pos _
    unfold termF
    split
    · rw [leaf_size]; omega
    · have h1 := term_size ws d (mixedF c 1)
      have h2 := term_size ws d (mixedF c 2)
      show _ + _ + 1 < _
      omega
theorem F_leaf {n : Nat} {c : Int} {ws : List Str} {d : Nat} {st : VSt} (hw : 0 < ws.length) (hd : c % 6 < 4 ∨ d = 0) : Fm D (n + 1) i__law_term [.int c, .lst (ws.map PV.str), .int (d : Int)] st = .ok (leafF ws c).pv st := by
  rw [c__law_term]
  unfold b__law_term leafF
  have hl : ((ws.map PV.str).length : Int) = (ws.length : Int) := by rw [List.length_map]
  have h0 : 0 ≤ c / 6 % (ws.length : Int) := Int.emod_nonneg _ (by omega)
  have h1 : c / 6 % (ws.length : Int) < ws.length := Int.emod_lt_of_pos _ (by omega)
  by_cases k0 : c % 6 = 0
  · simp -implicitDefEqProofs (disch := omega) only [x_raise, x_notL, end_ex, bind_ok, nox_ok, bind_ex, s_ex, sb_ex, s_ok, sb_nx, sb_rt, sb_ct, sb_bk, onB_bl, onBS_bl, x_var, x_c, x_bin, x_un, x_nil, x_cons, x_tup, x_lst, x_app, x_and, x_or, x_not, x_if, x_box, x_get, x_sl, x_onone, x_osome, x_snil, x_scons, x_set, x_expr, x_ret, x_retB, x_sif, x_bk, x_ct, x_aug, x_asg, x_gname, x_gnil, x_gcons, x_gtup, mkt0, mkl0, mkt1, mkl1, mkt2, mkl2, mkt3, mkl3, mkt4, mkl4, mkt5, mkl5, mkt6, mkl6, mkt7, mkl7, v_il0, v_it0, v_il1, v_it1, v_il2, v_it2, v_il3, v_it3, v_il4, v_it4, v_il5, v_it5, v_add, v_addI, v_sub, v_neg, v_mul, v_fdv, v_mod, v_cmp, v_eqs, v_nes, v_eqi, v_nei, v_eqb, v_ixc, opt_some, v_lenl, v_lent, v_lenc, v_tupt, v_tupl, v_intb, v_inti, v_max, v_isn, v_isnn, end_rt, end_nx, fz_int, fz_str, fz_bl, fz_non, List.getElem?_cons_zero, List.getElem?_cons_succ, List.set_cons_zero, List.set_cons_succ, List.length_cons, List.length_nil, List.take_length, Option.map_some, oldLoc, Bool.false_and, Bool.and_false, Bool.true_and, Bool.and_true, Bool.not_true, Bool.not_false, Bool.false_eq_true, decide_true, decide_false, decide_eq_true_eq, if_true, if_false, ↓reduceIte, Nat.reduceAdd, Nat.reduceLeDiff, k0, fz_tup, fzs_nil, fzs_cons, Trm.pv]
  · have k0' : decide (c % 6 = 0) = false := decide_eq_false k0
    by_cases k1 : c % 6 = 1
    · simp -implicitDefEqProofs (disch := omega) only [x_raise, x_notL, end_ex, bind_ok, nox_ok, bind_ex, s_ex, sb_ex, s_ok, sb_nx, sb_rt, sb_ct, sb_bk, onB_bl, onBS_bl, x_var, x_c, x_bin, x_un, x_nil, x_cons, x_tup, x_lst, x_app, x_and, x_or, x_not, x_if, x_box, x_get, x_sl, x_onone, x_osome, x_snil, x_scons, x_set, x_expr, x_ret, x_retB, x_sif, x_bk, x_ct, x_aug, x_asg, x_gname, x_gnil, x_gcons, x_gtup, mkt0, mkl0, mkt1, mkl1, mkt2, mkl2, mkt3, mkl3, mkt4, mkl4, mkt5, mkl5, mkt6, mkl6, mkt7, mkl7, v_il0, v_it0, v_il1, v_it1, v_il2, v_it2, v_il3, v_it3, v_il4, v_it4, v_il5, v_it5, v_add, v_addI, v_sub, v_neg, v_mul, v_fdv, v_mod, v_cmp, v_eqs, v_nes, v_eqi, v_nei, v_eqb, v_ixc, opt_some, v_lenl, v_lent, v_lenc, v_tupt, v_tupl, v_intb, v_inti, v_max, v_isn, v_isnn, end_rt, end_nx, fz_int, fz_str, fz_bl, fz_non, List.getElem?_cons_zero, List.getElem?_cons_succ, List.set_cons_zero, List.set_cons_succ, List.length_cons, List.length_nil, List.take_length, Option.map_some, oldLoc, Bool.false_and, Bool.and_false, Bool.true_and, Bool.and_true, Bool.not_true, Bool.not_false, Bool.false_eq_true, decide_true, decide_false, decide_eq_true_eq, if_true, if_false, ↓reduceIte, Nat.reduceAdd, Nat.reduceLeDiff, k1, fz_tup, fzs_nil, fzs_cons, Trm.pv, Int.reduceEq]
    · have k1' : decide (c % 6 = 1) = false := decide_eq_false k1
      by_cases k2 : c % 6 < 4
      · have k2' : decide (c % 6 < 4) = true := decide_eq_true k2
        simp -implicitDefEqProofs (disch := omega) only [x_raise, x_notL, end_ex, bind_ok, nox_ok, bind_ex, s_ex, sb_ex, s_ok, sb_nx, sb_rt, sb_ct, sb_bk, onB_bl, onBS_bl, x_var, x_c, x_bin, x_un, x_nil, x_cons, x_tup, x_lst, x_app, x_and, x_or, x_not, x_if, x_box, x_get, x_sl, x_onone, x_osome, x_snil, x_scons, x_set, x_expr, x_ret, x_retB, x_sif, x_bk, x_ct, x_aug, x_asg, x_gname, x_gnil, x_gcons, x_gtup, mkt0, mkl0, mkt1, mkl1, mkt2, mkl2, mkt3, mkl3, mkt4, mkl4, mkt5, mkl5, mkt6, mkl6, mkt7, mkl7, v_il0, v_it0, v_il1, v_it1, v_il2, v_it2, v_il3, v_it3, v_il4, v_it4, v_il5, v_it5, v_add, v_addI, v_sub, v_neg, v_mul, v_fdv, v_mod, v_cmp, v_eqs, v_nes, v_eqi, v_nei, v_eqb, v_ixc, opt_some, v_lenl, v_lent, v_lenc, v_tupt, v_tupl, v_intb, v_inti, v_max, v_isn, v_isnn, end_rt, end_nx, fz_int, fz_str, fz_bl, fz_non, List.getElem?_cons_zero, List.getElem?_cons_succ, List.set_cons_zero, List.set_cons_succ, List.length_cons, List.length_nil, List.take_length, Option.map_some, oldLoc, Bool.false_and, Bool.and_false, Bool.true_and, Bool.and_true, Bool.not_true, Bool.not_false, Bool.false_eq_true, decide_true, decide_false, decide_eq_true_eq, if_true, if_false, ↓reduceIte, Nat.reduceAdd, Nat.reduceLeDiff, k0', k1', k2', k0, k1, fz_tup, fzs_nil, fzs_cons, Trm.pv, hl, v_word]
      · have k2' : decide (c % 6 < 4) = false := decide_eq_false k2
        have k3 : d = 0 := by omega
        have k3' : decide ((d : Int) = 0) = true := by rw [k3]; rfl
        simp -implicitDefEqProofs (disch := omega) only [x_raise, x_notL, end_ex, bind_ok, nox_ok, bind_ex, s_ex, sb_ex, s_ok, sb_nx, sb_rt, sb_ct, sb_bk, onB_bl, onBS_bl, x_var, x_c, x_bin, x_un, x_nil, x_cons, x_tup, x_lst, x_app, x_and, x_or, x_not, x_if, x_box, x_get, x_sl, x_onone, x_osome, x_snil, x_scons, x_set, x_expr, x_ret, x_retB, x_sif, x_bk, x_ct, x_aug, x_asg, x_gname, x_gnil, x_gcons, x_gtup, mkt0, mkl0, mkt1, mkl1, mkt2, mkl2, mkt3, mkl3, mkt4, mkl4, mkt5, mkl5, mkt6, mkl6, mkt7, mkl7, v_il0, v_it0, v_il1, v_it1, v_il2, v_it2, v_il3, v_it3, v_il4, v_it4, v_il5, v_it5, v_add, v_addI, v_sub, v_neg, v_mul, v_fdv, v_mod, v_cmp, v_eqs, v_nes, v_eqi, v_nei, v_eqb, v_ixc, opt_some, v_lenl, v_lent, v_lenc, v_tupt, v_tupl, v_intb, v_inti, v_max, v_isn, v_isnn, end_rt, end_nx, fz_int, fz_str, fz_bl, fz_non, List.getElem?_cons_zero, List.getElem?_cons_succ, List.set_cons_zero, List.set_cons_succ, List.length_cons, List.length_nil, List.take_length, Option.map_some, oldLoc, Bool.false_and, Bool.and_false, Bool.true_and, Bool.and_true, Bool.not_true, Bool.not_false, Bool.false_eq_true, decide_true, decide_false, decide_eq_true_eq, if_true, if_false, ↓reduceIte, Nat.reduceAdd, Nat.reduceLeDiff, k0', k1', k2', k3', k0, k1, fz_tup, fzs_nil, fzs_cons, Trm.pv, hl, v_word]
theorem F_term {ws : List Str} (hw : 0 < ws.length) : ∀ (d n : Nat) (c : Int) (st : VSt), Fm D (n + d + 2) i__law_term [.int c, .lst (ws.map PV.str), .int (d : Int)] st = .ok (termF ws d c).pv st
  | 0, n, c, st => F_leaf hw (.inr rfl)
  | d + 1, n, c, st => by
    unfold termF
    by_cases k2 : c % 6 < 4
    · rw [if_pos k2]
      exact F_leaf hw (.inl k2)
    · rw [if_neg k2]
      have e1 : n + (d + 1) + 2 = (n + d + 2) + 1 := by omega
      rw [e1, c__law_term]
      unfold b__law_term
      have k0' : decide (c % 6 = 0) = false := decide_eq_false (by omega)
      have k1' : decide (c % 6 = 1) = false := decide_eq_false (by omega)
      have k2' : decide (c % 6 < 4) = false := decide_eq_false k2
      have k3' : decide (((d + 1 : Nat) : Int) = 0) = false := decide_eq_false (by omega)
      have e2 : ((d + 1 : Nat) : Int) - 1 = (d : Int) := by omega
      have ih := F_term hw d n
      have fm : ∀ (a k : Int) (s : VSt), Fm D (n + d + 2) i__law_mixed [.int a, .int k] s = .ok (.int (mixedF a k)) s := fun a k s => F_mixed (n + d + 1) a k s
      have m3 : ∀ x : Int, 0 ≤ x % 3 ∧ x % 3 < 3 := fun x => by omega
      simp -implicitDefEqProofs (disch := omega) only [x_raise, x_notL, end_ex, bind_ok, nox_ok, bind_ex, s_ex, sb_ex, s_ok, sb_nx, sb_rt, sb_ct, sb_bk, onB_bl, onBS_bl, x_var, x_c, x_bin, x_un, x_nil, x_cons, x_tup, x_lst, x_app, x_and, x_or, x_not, x_if, x_box, x_get, x_sl, x_onone, x_osome, x_snil, x_scons, x_set, x_expr, x_ret, x_retB, x_sif, x_bk, x_ct, x_aug, x_asg, x_gname, x_gnil, x_gcons, x_gtup, mkt0, mkl0, mkt1, mkl1, mkt2, mkl2, mkt3, mkl3, mkt4, mkl4, mkt5, mkl5, mkt6, mkl6, mkt7, mkl7, v_il0, v_it0, v_il1, v_it1, v_il2, v_it2, v_il3, v_it3, v_il4, v_it4, v_il5, v_it5, v_add, v_addI, v_sub, v_neg, v_mul, v_fdv, v_mod, v_cmp, v_eqs, v_nes, v_eqi, v_nei, v_eqb, v_ixc, opt_some, v_lenl, v_lent, v_lenc, v_tupt, v_tupl, v_intb, v_inti, v_max, v_isn, v_isnn, end_rt, end_nx, fz_int, fz_str, fz_bl, fz_non, List.getElem?_cons_zero, List.getElem?_cons_succ, List.set_cons_zero, List.set_cons_succ, List.length_cons, List.length_nil, List.take_length, Option.map_some, oldLoc, Bool.false_and, Bool.and_false, Bool.true_and, Bool.and_true, Bool.not_true, Bool.not_false, Bool.false_eq_true, decide_true, decide_false, decide_eq_true_eq, if_true, if_false, ↓reduceIte, Nat.reduceAdd, Nat.reduceLeDiff, k0', k1', k2', k3', e2, ih, fm, v_ops, fz_tup, fzs_nil, fzs_cons, fz_tm, Trm.pv]
end Lk


namespace Lk
open PySem L2 Vm
/-! ## names -/
def put (ks : List Str) (x : Str) : List Str := if x ∈ ks then ks else ks ++ [x]
def Trm.names : Trm → List Str
  | .num _ => []
  | .name x => [x]
  | .bin _ a b => a.names ++ b.names
def Trm.once (t : Trm) : List Str := t.names.foldl put []
theorem Trm.names_len : ∀ t : Trm, t.names.length ≤ t.size
  | .num _ => Nat.zero_le _
  | .name _ => Nat.le_refl _
  | .bin k a b => by
    have h1 := a.names_len
    have h2 := b.names_len
    show (a.names ++ b.names).length ≤ a.size + b.size + 1
    rw [List.length_append]; omega
theorem put_len (ks : List Str) (x : Str) : (put ks x).length ≤ ks.length + 1 := by
  unfold put
  split
  · omega
  · rw [List.length_append]; exact Nat.le_refl _
theorem puts_len : ∀ (xs ks : List Str), (xs.foldl put ks).length ≤ ks.length + xs.length
  | [], ks => Nat.le_refl _
  | x :: xs, ks => by
    have h1 := puts_len xs (put ks x)
    have h2 := put_len ks x
    rw [List.foldl_cons, List.length_cons]; omega
theorem mem_put {ks : List Str} {x y : Str} (h : y ∈ put ks x) : y ∈ ks ∨ y = x := by
  unfold put at h
  split at h
  · exact .inl h
  · rcases List.mem_append.mp h with z | z
    · exact .inl z
    · exact .inr (by simpa using z)
theorem mem_puts : ∀ {xs ks : List Str} {y : Str}, y ∈ xs.foldl put ks → y ∈ ks ∨ y ∈ xs
  | [], ks, y, h => .inl h
  | x :: xs, ks, y, h => by
    rcases mem_puts (xs := xs) h with z | z
    · rcases mem_put z with z | z
      · exact .inl z
      · exact .inr (by rw [z]; exact List.mem_cons_self)
    · exact .inr (List.mem_cons_of_mem _ z)
theorem Trm.good_names {ok : Str → Prop} : ∀ {t : Trm}, t.Good ok → ∀ x ∈ t.names, ok x
  | .num _, _, x, h => by cases h
  | .name y, g, x, h => by
    obtain rfl : x = y := by simpa [Trm.names] using h
    exact g
  | .bin k a b, g, x, h => by
    rcases List.mem_append.mp h with z | z
    · exact a.good_names g.2.1 x z
    · exact b.good_names g.2.2 x z
theorem opS_ne (k : Nat) : decide (opS k = "name") = false ∧ decide (opS k = "num") = false := by
  rcases k with _ | _ | k
  · exact ⟨by decide, by decide⟩
  · exact ⟨by decide, by decide⟩
  · show decide (("times" : Str) = "name") = false ∧ decide (("times" : Str) = "num") = false
    exact ⟨by decide, by decide⟩
theorem set_end {s : VSt} {p q : PV} : (s ++ [p]).set s.length q = s ++ [q] := by
  rw [List.set_append_right _ _ (Nat.le_refl _), Nat.sub_self]; rfl
theorem deref_end {s : VSt} {p : PV} : deref (s ++ [p]) (.loc s.length) = p := by
  show (s ++ [p]).getD s.length .non = p
  rw [List.getD_eq_getElem?_getD, List.getElem?_append_right (Nat.le_refl _)]
  simp
theorem flats : ∀ xs : List Str, (xs.map PV.str).all flatP = true
  | [] => rfl
  | x :: xs => by rw [List.map_cons, List.all_cons, flats xs]; rfl
theorem inPs (x : Str) : ∀ xs : List Str, inP (.str x) (xs.map PV.str) = decide (x ∈ xs)
  | [] => rfl
  | y :: ys => by
    have := inPs x ys
    unfold inP at this ⊢
    rw [List.map_cons, List.any_cons, this]
    show ((y == x) || _) = _
    by_cases h : y = x
    · subst h; simp
    · have h2 : ¬ x = y := fun z => h z.symm
      simp [h, h2]
theorem v_ninE {s : VSt} {x : Str} {xs : List Str} : vIn true (.str x) (.loc s.length) (s ++ [.lst (xs.map PV.str)]) = .ok (.bl (!decide (x ∈ xs))) (s ++ [.lst (xs.map PV.str)]) := by
  unfold vIn
  rw [deref_end]
  show (if (flatP (.str x) && (xs.map PV.str).all flatP) = true then Res.ok (PV.bl (if true = true then !inP (.str x) (xs.map PV.str) else inP (.str x) (xs.map PV.str))) _ else .bad) = _
  rw [flats, inPs]; rfl
theorem app_end {l a : EM} {env : VEnv} {st s : VSt} {x : Str} {xs : List Str} (hl : l env st = .ok (.loc s.length) st) (hst : st = s ++ [.lst (xs.map PV.str)]) (ha : a env st = .ok (.str x) st) (hn : xs.length < 1000000) : sApp l a env st = .nx env (s ++ [.lst ((xs ++ [x]).map PV.str)]) := by
  subst hst
  unfold sApp
  rw [hl]
  show (match deref (s ++ [PV.lst (xs.map PV.str)]) (.loc s.length) with
    | .lst _ => (a env (s ++ [PV.lst (xs.map PV.str)])).s _
    | _ => SR.bad) = _
  rw [deref_end]
  show (a env (s ++ [PV.lst (xs.map PV.str)])).s _ = _
  rw [ha]
  show (match deref (s ++ [PV.lst (xs.map PV.str)]) (.loc s.length) with
    | .lst xs' => if xs'.length < 1000000 ∧ pureP (.str x) = true then SR.nx env ((s ++ [PV.lst (xs.map PV.str)]).set s.length (PV.lst (xs' ++ [PV.str x]))) else .bad
    | _ => SR.bad) = _
  rw [deref_end]
  show (if (xs.map PV.str).length < 1000000 ∧ pureP (.str x) = true then SR.nx env ((s ++ [PV.lst (xs.map PV.str)]).set s.length (PV.lst (xs.map PV.str ++ [PV.str x]))) else .bad) = _
  rw [if_pos ⟨by rw [List.length_map]; exact hn, rfl⟩, set_end, List.map_append]; rfl
theorem once_loop (n : Nat) (p : PV) (s : VSt) : ∀ (ys xs : List Str) (z : Option PV), xs.length + ys.length ≤ 1000000 →
    ∃ z', forL (bodyP (gName 2) (sCons (sIf (eBin (vIn true) (eVar 2) (eVar 1)) (sCons (sApp (eVar 1) (eVar 2)) sNil) sNil) sNil)) (ys.map PV.str) [some p, some (.loc s.length), z] (s ++ [.lst (xs.map PV.str)]) = .nx [some p, some (.loc s.length), z'] (s ++ [.lst ((ys.foldl put xs).map PV.str)])
  | [], xs, z, _ => ⟨z, rfl⟩
  | y :: ys, xs, z, h => by
    have h' : xs.length + (ys.length + 1) ≤ 1000000 := h
    have hl := put_len xs y
    obtain ⟨z', e⟩ := once_loop n p s ys (put xs y) (some (.str y)) (by omega)
    refine ⟨z', ?_⟩
    rw [List.map_cons, forL_cons]
    have hb : bodyP (gName 2) (sCons (sIf (eBin (vIn true) (eVar 2) (eVar 1)) (sCons (sApp (eVar 1) (eVar 2)) sNil) sNil) sNil) (.str y) [some p, some (.loc s.length), z] (s ++ [.lst (xs.map PV.str)]) = .nx [some p, some (.loc s.length), some (.str y)] (s ++ [.lst ((put xs y).map PV.str)]) := by
      by_cases hm : y ∈ xs
      · have hm' : decide (y ∈ xs) = true := decide_eq_true hm
        simp -implicitDefEqProofs (disch := omega) only [x_raise, x_notL, end_ex, bind_ok, nox_ok, bind_ex, s_ex, sb_ex, s_ok, sb_nx, sb_rt, sb_ct, sb_bk, onB_bl, onBS_bl, x_var, x_c, x_bin, x_un, x_nil, x_cons, x_tup, x_lst, x_app, x_and, x_or, x_not, x_if, x_box, x_get, x_sl, x_onone, x_osome, x_snil, x_scons, x_set, x_expr, x_ret, x_retB, x_sif, x_bk, x_ct, x_aug, x_asg, x_gname, x_gnil, x_gcons, x_gtup, mkt0, mkl0, mkt1, mkl1, mkt2, mkl2, mkt3, mkl3, mkt4, mkl4, mkt5, mkl5, mkt6, mkl6, mkt7, mkl7, v_il0, v_it0, v_il1, v_it1, v_il2, v_it2, v_il3, v_it3, v_il4, v_it4, v_il5, v_it5, v_add, v_addI, v_sub, v_neg, v_mul, v_fdv, v_mod, v_cmp, v_eqs, v_nes, v_eqi, v_nei, v_eqb, v_ixc, opt_some, v_lenl, v_lent, v_lenc, v_tupt, v_tupl, v_intb, v_inti, v_max, v_isn, v_isnn, end_rt, end_nx, fz_int, fz_str, fz_bl, fz_non, List.getElem?_cons_zero, List.getElem?_cons_succ, List.set_cons_zero, List.set_cons_succ, List.length_cons, List.length_nil, List.take_length, Option.map_some, oldLoc, Bool.false_and, Bool.and_false, Bool.true_and, Bool.and_true, Bool.not_true, Bool.not_false, Bool.false_eq_true, decide_true, decide_false, decide_eq_true_eq, if_true, if_false, ↓reduceIte, Nat.reduceAdd, Nat.reduceLeDiff, x_body, v_ninE, hm', put, hm]
      · have hm' : decide (y ∈ xs) = false := decide_eq_false hm
        have ha := app_end (l := eVar 1) (a := eVar 2) (env := [some p, some (.loc s.length), some (.str y)]) (s := s) (xs := xs) (x := y) rfl rfl rfl (by omega)
        simp -implicitDefEqProofs (disch := omega) only [x_raise, x_notL, end_ex, bind_ok, nox_ok, bind_ex, s_ex, sb_ex, s_ok, sb_nx, sb_rt, sb_ct, sb_bk, onB_bl, onBS_bl, x_var, x_c, x_bin, x_un, x_nil, x_cons, x_tup, x_lst, x_app, x_and, x_or, x_not, x_if, x_box, x_get, x_sl, x_onone, x_osome, x_snil, x_scons, x_set, x_expr, x_ret, x_retB, x_sif, x_bk, x_ct, x_aug, x_asg, x_gname, x_gnil, x_gcons, x_gtup, mkt0, mkl0, mkt1, mkl1, mkt2, mkl2, mkt3, mkl3, mkt4, mkl4, mkt5, mkl5, mkt6, mkl6, mkt7, mkl7, v_il0, v_it0, v_il1, v_it1, v_il2, v_it2, v_il3, v_it3, v_il4, v_it4, v_il5, v_it5, v_add, v_addI, v_sub, v_neg, v_mul, v_fdv, v_mod, v_cmp, v_eqs, v_nes, v_eqi, v_nei, v_eqb, v_ixc, opt_some, v_lenl, v_lent, v_lenc, v_tupt, v_tupl, v_intb, v_inti, v_max, v_isn, v_isnn, end_rt, end_nx, fz_int, fz_str, fz_bl, fz_non, List.getElem?_cons_zero, List.getElem?_cons_succ, List.set_cons_zero, List.set_cons_succ, List.length_cons, List.length_nil, List.take_length, Option.map_some, oldLoc, Bool.false_and, Bool.and_false, Bool.true_and, Bool.and_true, Bool.not_true, Bool.not_false, Bool.false_eq_true, decide_true, decide_false, decide_eq_true_eq, if_true, if_false, ↓reduceIte, Nat.reduceAdd, Nat.reduceLeDiff, x_body, v_ninE, hm', put, hm, ha]
    rw [hb]
    exact e
end Lk


namespace Lk
open PySem L2 Vm
/-! ## names_in -/
def tr (ks : List Str) : PV := .dct (ks.map .inr) (ks.map fun _ => .bl true)
theorem hasK_inr (x : Str) : ∀ ks : List Str, hasK (ks.map .inr) (.inr x) = decide (x ∈ ks)
  | [] => rfl
  | y :: ys => by
    have := hasK_inr x ys
    unfold hasK at this ⊢
    rw [List.map_cons, List.any_cons, this]
    by_cases h : y = x
    · subst h; simp
    · have h2 : ¬ x = y := fun z => h z.symm
      simp [h, h2]
theorem put_tr (ks : List Str) (x : Str) : PV.dct (kPutK (ks.map .inr) (.inr x)) (kPutV (ks.map .inr) (ks.map fun _ => PV.bl true) (.inr x) (.bl true)) = tr (put ks x) := by
  unfold kPutK kPutV put tr
  rw [hasK_inr]
  by_cases h : x ∈ ks
  · rw [if_pos (by simpa using h), if_pos (by simpa using h), if_pos h]
    congr 1
    clear h
    induction ks with
    | nil => rfl
    | cons y ys ih =>
      rw [List.map_cons, List.map_cons, List.zip_cons_cons, List.map_cons, ih]
      congr 1
      split <;> rfl
  · rw [if_neg (by simpa using h), if_neg (by simpa using h), if_neg h, List.map_append, List.map_append]
    rfl
theorem tr_put {d k v : EM} {env : VEnv} {s : VSt} {x : Str} {ks : List Str} (hv : v env (s ++ [tr ks]) = .ok (.bl true) (s ++ [tr ks])) (hd : d env (s ++ [tr ks]) = .ok (.loc s.length) (s ++ [tr ks])) (hk : k env (s ++ [tr ks]) = .ok (.str x) (s ++ [tr ks])) (hn : ks.length < 1000000) : sPut d k v env (s ++ [tr ks]) = .nx env (s ++ [tr (put ks x)]) := by
  unfold sPut
  rw [hv]
  show (d env (s ++ [tr ks])).s _ = _
  rw [hd]
  show (k env (s ++ [tr ks])).s _ = _
  rw [hk]
  show (match deref (s ++ [tr ks]) (.loc s.length), keyP (.str x) with
    | .dct ks' xs, some key => if ks'.length < 1000000 ∧ pureP (.bl true) = true then SR.nx env ((s ++ [tr ks]).set s.length (PV.dct (kPutK ks' key) (kPutV ks' xs key (.bl true)))) else .bad
    | _, _ => SR.bad) = _
  rw [deref_end]
  show (if (ks.map (Sum.inr : Str → Key)).length < 1000000 ∧ pureP (.bl true) = true then SR.nx env ((s ++ [tr ks]).set s.length (PV.dct (kPutK (ks.map .inr) (.inr x)) (kPutV (ks.map .inr) (ks.map fun _ => PV.bl true) (.inr x) (.bl true)))) else .bad) = _
  rw [if_pos ⟨by rw [List.length_map]; exact hn, rfl⟩, put_tr, set_end]
theorem take_end {s : VSt} {p q : PV} : (s ++ [p]).take (s ++ [q]).length = s ++ [p] := by
  rw [List.length_append, List.length_singleton, List.take_of_length_le (by rw [List.length_append]; exact Nat.le_refl _)]
theorem F_note : ∀ (t : Trm) (n : Nat) (s : VSt) (ks : List Str), ks.length + t.size < 1000000 → Fm D (n + t.depth + 1) i__note_names [t.pv, .loc s.length] (s ++ [tr ks]) = .ok .non (s ++ [tr (t.names.foldl put ks)])
  | .num i, n, s, ks, _ => by
    rw [c__note_names]
    unfold b__note_names
    have e : decide (("num" : Str) = "name") = false := by decide
    have e2 : decide (("num" : Str) = "num") = true := by decide
    simp -implicitDefEqProofs (disch := omega) only [x_raise, x_notL, end_ex, bind_ok, nox_ok, bind_ex, s_ex, sb_ex, s_ok, sb_nx, sb_rt, sb_ct, sb_bk, onB_bl, onBS_bl, x_var, x_c, x_bin, x_un, x_nil, x_cons, x_tup, x_lst, x_app, x_and, x_or, x_not, x_if, x_box, x_get, x_sl, x_onone, x_osome, x_snil, x_scons, x_set, x_expr, x_ret, x_retB, x_sif, x_bk, x_ct, x_aug, x_asg, x_gname, x_gnil, x_gcons, x_gtup, mkt0, mkl0, mkt1, mkl1, mkt2, mkl2, mkt3, mkl3, mkt4, mkl4, mkt5, mkl5, mkt6, mkl6, mkt7, mkl7, v_il0, v_it0, v_il1, v_it1, v_il2, v_it2, v_il3, v_it3, v_il4, v_it4, v_il5, v_it5, v_add, v_addI, v_sub, v_neg, v_mul, v_fdv, v_mod, v_cmp, v_eqs, v_nes, v_eqi, v_nei, v_eqb, v_ixc, opt_some, v_lenl, v_lent, v_lenc, v_tupt, v_tupl, v_intb, v_inti, v_max, v_isn, v_isnn, end_rt, end_nx, fz_int, fz_str, fz_bl, fz_non, List.getElem?_cons_zero, List.getElem?_cons_succ, List.set_cons_zero, List.set_cons_succ, List.length_cons, List.length_nil, List.take_length, Option.map_some, oldLoc, Bool.false_and, Bool.and_false, Bool.true_and, Bool.and_true, Bool.not_true, Bool.not_false, Bool.false_eq_true, decide_true, decide_false, decide_eq_true_eq, if_true, if_false, ↓reduceIte, Nat.reduceAdd, Nat.reduceLeDiff, Trm.pv, e, e2, Trm.names, List.foldl_nil]
  | .name x, n, s, ks, h => by
    have h' : ks.length + 1 < 1000000 := h
    rw [c__note_names]
    unfold b__note_names
    have e : decide (("name" : Str) = "name") = true := by decide
    have hk : eBin vIx (eVar 0) (eC (.int 1)) [some (.tup [.str "name", .str x]), some (.loc s.length), some (.str "name")] (s ++ [tr ks]) = .ok (.str x) (s ++ [tr ks]) := by
      simp -implicitDefEqProofs (disch := omega) only [x_raise, x_notL, end_ex, bind_ok, nox_ok, bind_ex, s_ex, sb_ex, s_ok, sb_nx, sb_rt, sb_ct, sb_bk, onB_bl, onBS_bl, x_var, x_c, x_bin, x_un, x_nil, x_cons, x_tup, x_lst, x_app, x_and, x_or, x_not, x_if, x_box, x_get, x_sl, x_onone, x_osome, x_snil, x_scons, x_set, x_expr, x_ret, x_retB, x_sif, x_bk, x_ct, x_aug, x_asg, x_gname, x_gnil, x_gcons, x_gtup, mkt0, mkl0, mkt1, mkl1, mkt2, mkl2, mkt3, mkl3, mkt4, mkl4, mkt5, mkl5, mkt6, mkl6, mkt7, mkl7, v_il0, v_it0, v_il1, v_it1, v_il2, v_it2, v_il3, v_it3, v_il4, v_it4, v_il5, v_it5, v_add, v_addI, v_sub, v_neg, v_mul, v_fdv, v_mod, v_cmp, v_eqs, v_nes, v_eqi, v_nei, v_eqb, v_ixc, opt_some, v_lenl, v_lent, v_lenc, v_tupt, v_tupl, v_intb, v_inti, v_max, v_isn, v_isnn, end_rt, end_nx, fz_int, fz_str, fz_bl, fz_non, List.getElem?_cons_zero, List.getElem?_cons_succ, List.set_cons_zero, List.set_cons_succ, List.length_cons, List.length_nil, List.take_length, Option.map_some, oldLoc, Bool.false_and, Bool.and_false, Bool.true_and, Bool.and_true, Bool.not_true, Bool.not_false, Bool.false_eq_true, decide_true, decide_false, decide_eq_true_eq, if_true, if_false, ↓reduceIte, Nat.reduceAdd, Nat.reduceLeDiff]
    have hp := tr_put (v := eC (.bl true)) (d := eVar 1) rfl rfl hk (by omega)
    simp -implicitDefEqProofs (disch := omega) only [x_raise, x_notL, end_ex, bind_ok, nox_ok, bind_ex, s_ex, sb_ex, s_ok, sb_nx, sb_rt, sb_ct, sb_bk, onB_bl, onBS_bl, x_var, x_c, x_bin, x_un, x_nil, x_cons, x_tup, x_lst, x_app, x_and, x_or, x_not, x_if, x_box, x_get, x_sl, x_onone, x_osome, x_snil, x_scons, x_set, x_expr, x_ret, x_retB, x_sif, x_bk, x_ct, x_aug, x_asg, x_gname, x_gnil, x_gcons, x_gtup, mkt0, mkl0, mkt1, mkl1, mkt2, mkl2, mkt3, mkl3, mkt4, mkl4, mkt5, mkl5, mkt6, mkl6, mkt7, mkl7, v_il0, v_it0, v_il1, v_it1, v_il2, v_it2, v_il3, v_it3, v_il4, v_it4, v_il5, v_it5, v_add, v_addI, v_sub, v_neg, v_mul, v_fdv, v_mod, v_cmp, v_eqs, v_nes, v_eqi, v_nei, v_eqb, v_ixc, opt_some, v_lenl, v_lent, v_lenc, v_tupt, v_tupl, v_intb, v_inti, v_max, v_isn, v_isnn, end_rt, end_nx, fz_int, fz_str, fz_bl, fz_non, List.getElem?_cons_zero, List.getElem?_cons_succ, List.set_cons_zero, List.set_cons_succ, List.length_cons, List.length_nil, List.take_length, Option.map_some, oldLoc, Bool.false_and, Bool.and_false, Bool.true_and, Bool.and_true, Bool.not_true, Bool.not_false, Bool.false_eq_true, decide_true, decide_false, decide_eq_true_eq, if_true, if_false, ↓reduceIte, Nat.reduceAdd, Nat.reduceLeDiff, Trm.pv, e, hp, take_end, Trm.names, List.foldl_nil, List.foldl_cons]
  | .bin k a b, n, s, ks, hs => by
    have hs' : ks.length + (a.size + b.size + 1) < 1000000 := hs
    have l1 := a.names_len
    have l2 := puts_len a.names ks
    have e0 : n + (Trm.bin k a b).depth + 1 = (n + max a.depth b.depth + 1) + 1 := rfl
    have ha : Fm D (n + max a.depth b.depth + 1) i__note_names [a.pv, .loc s.length] (s ++ [tr ks]) = .ok .non (s ++ [tr (a.names.foldl put ks)]) := by
      have := F_note a (n + (max a.depth b.depth - a.depth)) s ks (by omega)
      rwa [show n + (max a.depth b.depth - a.depth) + a.depth + 1 = n + max a.depth b.depth + 1 by omega] at this
    have hb : Fm D (n + max a.depth b.depth + 1) i__note_names [b.pv, .loc s.length] (s ++ [tr (a.names.foldl put ks)]) = .ok .non (s ++ [tr (b.names.foldl put (a.names.foldl put ks))]) := by
      have := F_note b (n + (max a.depth b.depth - b.depth)) s (a.names.foldl put ks) (by omega)
      rwa [show n + (max a.depth b.depth - b.depth) + b.depth + 1 = n + max a.depth b.depth + 1 by omega] at this
    rw [e0, c__note_names]
    unfold b__note_names
    obtain ⟨e1, e2⟩ := opS_ne k
    simp -implicitDefEqProofs (disch := omega) only [x_raise, x_notL, end_ex, bind_ok, nox_ok, bind_ex, s_ex, sb_ex, s_ok, sb_nx, sb_rt, sb_ct, sb_bk, onB_bl, onBS_bl, x_var, x_c, x_bin, x_un, x_nil, x_cons, x_tup, x_lst, x_app, x_and, x_or, x_not, x_if, x_box, x_get, x_sl, x_onone, x_osome, x_snil, x_scons, x_set, x_expr, x_ret, x_retB, x_sif, x_bk, x_ct, x_aug, x_asg, x_gname, x_gnil, x_gcons, x_gtup, mkt0, mkl0, mkt1, mkl1, mkt2, mkl2, mkt3, mkl3, mkt4, mkl4, mkt5, mkl5, mkt6, mkl6, mkt7, mkl7, v_il0, v_it0, v_il1, v_it1, v_il2, v_it2, v_il3, v_it3, v_il4, v_it4, v_il5, v_it5, v_add, v_addI, v_sub, v_neg, v_mul, v_fdv, v_mod, v_cmp, v_eqs, v_nes, v_eqi, v_nei, v_eqb, v_ixc, opt_some, v_lenl, v_lent, v_lenc, v_tupt, v_tupl, v_intb, v_inti, v_max, v_isn, v_isnn, end_rt, end_nx, fz_int, fz_str, fz_bl, fz_non, List.getElem?_cons_zero, List.getElem?_cons_succ, List.set_cons_zero, List.set_cons_succ, List.length_cons, List.length_nil, List.take_length, Option.map_some, oldLoc, Bool.false_and, Bool.and_false, Bool.true_and, Bool.and_true, Bool.not_true, Bool.not_false, Bool.false_eq_true, decide_true, decide_false, decide_eq_true_eq, if_true, if_false, ↓reduceIte, Nat.reduceAdd, Nat.reduceLeDiff, Trm.pv, e1, v_nes, e2, ha, hb, take_end, Trm.names, List.foldl_append]
theorem keyVs (ks : List Str) : (ks.map (Sum.inr : Str → Key)).map keyV = ks.map PV.str := by
  rw [List.map_map]; rfl
theorem v_listd {p : PV} {st : VSt} {ks : List Key} {xs : List PV} (h : deref st p = .dct ks xs) : vListA [p] st = .ok (.lst (ks.map keyV)) st := by
  simp only [vListA, h]
theorem F_names_in (t : Trm) (n : Nat) (st : VSt) (h : t.size < 1000000) : Fm D (n + t.depth + 2) i_names_in [t.pv] st = .ok (.lst (t.once.map PV.str)) st := by
  rw [c_names_in]
  unfold b_names_in
  have hb : boxV (.dct [] []) st = .ok (.loc st.length) (st ++ [tr []]) := x_boxV rfl
  have hn := F_note t n st [] (by simpa using h)
  have hl : vListA [.loc st.length] (st ++ [tr (t.names.foldl put [])]) = .ok (.lst (t.once.map PV.str)) (st ++ [tr (t.names.foldl put [])]) := by
    have e := v_listd (deref_end (s := st) (p := tr (t.names.foldl put [])))
    rw [keyVs] at e
    exact e
  have hp : pures (t.once.map PV.str) = true := pures_strs _
  have ho : oldLoc st.length (.lst (t.once.map PV.str)) = false := rfl
  simp -implicitDefEqProofs (disch := omega) only [x_raise, x_notL, end_ex, bind_ok, nox_ok, bind_ex, s_ex, sb_ex, s_ok, sb_nx, sb_rt, sb_ct, sb_bk, onB_bl, onBS_bl, x_var, x_c, x_bin, x_un, x_nil, x_cons, x_tup, x_lst, x_app, x_and, x_or, x_not, x_if, x_box, x_get, x_sl, x_onone, x_osome, x_snil, x_scons, x_set, x_expr, x_ret, x_retB, x_sif, x_bk, x_ct, x_aug, x_asg, x_gname, x_gnil, x_gcons, x_gtup, mkt0, mkl0, mkt1, mkl1, mkt2, mkl2, mkt3, mkl3, mkt4, mkl4, mkt5, mkl5, mkt6, mkl6, mkt7, mkl7, v_il0, v_it0, v_il1, v_it1, v_il2, v_it2, v_il3, v_it3, v_il4, v_it4, v_il5, v_it5, v_add, v_addI, v_sub, v_neg, v_mul, v_fdv, v_mod, v_cmp, v_eqs, v_nes, v_eqi, v_nei, v_eqb, v_ixc, opt_some, v_lenl, v_lent, v_lenc, v_tupt, v_tupl, v_intb, v_inti, v_max, v_isn, v_isnn, end_rt, end_nx, fz_int, fz_str, fz_bl, fz_non, List.getElem?_cons_zero, List.getElem?_cons_succ, List.set_cons_zero, List.set_cons_succ, List.length_cons, List.length_nil, List.take_length, Option.map_some, oldLoc, Bool.false_and, Bool.and_false, Bool.true_and, Bool.and_true, Bool.not_true, Bool.not_false, Bool.false_eq_true, decide_true, decide_false, decide_eq_true_eq, if_true, if_false, ↓reduceIte, Nat.reduceAdd, Nat.reduceLeDiff, hb, hn, hl, ho, fz_lst hp, take_app]
end Lk


namespace Lk
open PySem L2 Vm
/-! ## rows, functions -/
inductive Row where
  | set (x : Str) (t : Trm)
  | tell (t : Trm)
  | call (x : Option Str) (f : Str) (ts : List Trm)
  | when (t : Trm) (rs : List Row)
  | again (n : Int) (rs : List Row)
def optS : Option Str → PV
  | none => .non
  | some x => .str x
mutual
def Row.pv : Row → PV
  | .set x t => .tup [.str "set", .str x, t.pv]
  | .tell t => .tup [.str "tell", t.pv]
  | .call x f ts => .tup [.str "call", optS x, .str f, .tup (ts.map Trm.pv)]
  | .when t rs => .tup [.str "when", t.pv, .tup (Row.pvs rs)]
  | .again n rs => .tup [.str "again", .int n, .tup (Row.pvs rs)]
def Row.pvs : List Row → List PV
  | [] => []
  | r :: rs => r.pv :: Row.pvs rs
end
theorem pvs_map : ∀ rs : List Row, Row.pvs rs = rs.map Row.pv
  | [] => by unfold Row.pvs; exact Eq.trans rfl rfl
  | r :: rs => by rw [Row.pvs, pvs_map rs, List.map_cons]
theorem trms_pure : ∀ ts : List Trm, pures (ts.map Trm.pv) = true
  | [] => rfl
  | t :: ts => by
    rw [List.map_cons]; unfold pures
    rw [t.pure, trms_pure ts]; rfl
theorem opt_pure (x : Option Str) : pureP (optS x) = true := by cases x <;> rfl
mutual
theorem Row.pure : ∀ r : Row, pureP r.pv = true
  | .set x t => by
    rw [Row.pv]
    simp [pureP, Vm.pures, t.pure]
  | .tell t => by
    rw [Row.pv]
    simp [pureP, Vm.pures, t.pure]
  | .call x f ts => by
    rw [Row.pv]
    simp [pureP, Vm.pures, opt_pure, trms_pure]
  | .when t rs => by
    rw [Row.pv]
    simp [pureP, Vm.pures, t.pure, Row.pures rs]
  | .again n rs => by
    rw [Row.pv]
    simp [pureP, Vm.pures, Row.pures rs]
theorem Row.pures : ∀ rs : List Row, Vm.pures (Row.pvs rs) = true
  | [] => by rw [Row.pvs]; rfl
  | r :: rs => by
    rw [Row.pvs]; unfold Vm.pures
    rw [r.pure, Row.pures rs]; rfl
end
structure Fnc where
  name : Str
  pars : List Str
  rows : List Row
  res : Trm
def Fnc.pv (f : Fnc) : PV := .tup [.str f.name, .tup (f.pars.map PV.str), .tup (Row.pvs f.rows), f.res.pv]
theorem Fnc.pure (f : Fnc) : pureP f.pv = true := by
  unfold Fnc.pv
  simp [pureP, pures, pures_strs, f.res.pure, Row.pures f.rows]
theorem fncs_pure : ∀ fs : List Fnc, pures (fs.map Fnc.pv) = true
  | [] => rfl
  | f :: fs => by
    rw [List.map_cons]; unfold pures
    rw [f.pure, fncs_pure fs]; rfl
/-! the terms of a call -/
def givenF (ws : List Str) (x : Str) (c : Int) : Trm := if c % 2 = 0 then .name x else termF ws 1 (c / 2)
theorem F_given {ws : List Str} (hw : 0 < ws.length) (n : Nat) (c : Int) (x : Str) (st : VSt) : Fm D (n + 4) i__law_given [.int c, .lst (ws.map PV.str), .str x] st = .ok (givenF ws x c).pv st := by
  rw [c__law_given]
  unfold b__law_given givenF
  have ht : ∀ (a : Int) (s : VSt), Fm D (n + 3) i__law_term [.int a, .lst (ws.map PV.str), .int 1] s = .ok (termF ws 1 a).pv s := fun a s => F_term hw 1 n a s
  by_cases k0 : c % 2 = 0
  · have k0' : decide (c % 2 = 0) = true := decide_eq_true k0
    simp -implicitDefEqProofs (disch := omega) only [x_raise, x_notL, end_ex, bind_ok, nox_ok, bind_ex, s_ex, sb_ex, s_ok, sb_nx, sb_rt, sb_ct, sb_bk, onB_bl, onBS_bl, x_var, x_c, x_bin, x_un, x_nil, x_cons, x_tup, x_lst, x_app, x_and, x_or, x_not, x_if, x_box, x_get, x_sl, x_onone, x_osome, x_snil, x_scons, x_set, x_expr, x_ret, x_retB, x_sif, x_bk, x_ct, x_aug, x_asg, x_gname, x_gnil, x_gcons, x_gtup, mkt0, mkl0, mkt1, mkl1, mkt2, mkl2, mkt3, mkl3, mkt4, mkl4, mkt5, mkl5, mkt6, mkl6, mkt7, mkl7, v_il0, v_it0, v_il1, v_it1, v_il2, v_it2, v_il3, v_it3, v_il4, v_it4, v_il5, v_it5, v_add, v_addI, v_sub, v_neg, v_mul, v_fdv, v_mod, v_cmp, v_eqs, v_nes, v_eqi, v_nei, v_eqb, v_ixc, opt_some, v_lenl, v_lent, v_lenc, v_tupt, v_tupl, v_intb, v_inti, v_max, v_isn, v_isnn, end_rt, end_nx, fz_int, fz_str, fz_bl, fz_non, List.getElem?_cons_zero, List.getElem?_cons_succ, List.set_cons_zero, List.set_cons_succ, List.length_cons, List.length_nil, List.take_length, Option.map_some, oldLoc, Bool.false_and, Bool.and_false, Bool.true_and, Bool.and_true, Bool.not_true, Bool.not_false, Bool.false_eq_true, decide_true, decide_false, decide_eq_true_eq, if_true, if_false, ↓reduceIte, Nat.reduceAdd, Nat.reduceLeDiff, k0, fz_tup, fzs_nil, fzs_cons, Trm.pv]
  · have k0' : decide (c % 2 = 0) = false := decide_eq_false k0
    simp -implicitDefEqProofs (disch := omega) only [x_raise, x_notL, end_ex, bind_ok, nox_ok, bind_ex, s_ex, sb_ex, s_ok, sb_nx, sb_rt, sb_ct, sb_bk, onB_bl, onBS_bl, x_var, x_c, x_bin, x_un, x_nil, x_cons, x_tup, x_lst, x_app, x_and, x_or, x_not, x_if, x_box, x_get, x_sl, x_onone, x_osome, x_snil, x_scons, x_set, x_expr, x_ret, x_retB, x_sif, x_bk, x_ct, x_aug, x_asg, x_gname, x_gnil, x_gcons, x_gtup, mkt0, mkl0, mkt1, mkl1, mkt2, mkl2, mkt3, mkl3, mkt4, mkl4, mkt5, mkl5, mkt6, mkl6, mkt7, mkl7, v_il0, v_it0, v_il1, v_it1, v_il2, v_it2, v_il3, v_it3, v_il4, v_it4, v_il5, v_it5, v_add, v_addI, v_sub, v_neg, v_mul, v_fdv, v_mod, v_cmp, v_eqs, v_nes, v_eqi, v_nei, v_eqb, v_ixc, opt_some, v_lenl, v_lent, v_lenc, v_tupt, v_tupl, v_intb, v_inti, v_max, v_isn, v_isnn, end_rt, end_nx, fz_int, fz_str, fz_bl, fz_non, List.getElem?_cons_zero, List.getElem?_cons_succ, List.set_cons_zero, List.set_cons_succ, List.length_cons, List.length_nil, List.take_length, Option.map_some, oldLoc, Bool.false_and, Bool.and_false, Bool.true_and, Bool.and_true, Bool.not_true, Bool.not_false, Bool.false_eq_true, decide_true, decide_false, decide_eq_true_eq, if_true, if_false, ↓reduceIte, Nat.reduceAdd, Nat.reduceLeDiff, k0', k0, ht, fz_tm]

def noFnc : Fnc := ⟨"", [], [], .num 0⟩
theorem v_fnc {hs : List Fnc} {i : Int} {st : VSt} (h0 : 0 ≤ i) (h1 : i < (hs.length : Int)) : vIx (.lst (hs.map Fnc.pv)) (.int i) st = .ok (hs.getD i.toNat noFnc).pv st := by
  rw [v_ixl, at_in h0 (by rw [List.length_map]; exact h1)]
  have : i.toNat < hs.length := by omega
  rw [List.getElem_map, List.getD_eq_getElem?_getD, List.getElem?_eq_getElem this]
  rfl
theorem v_wordt {ws : List Str} {i : Int} {st : VSt} (h0 : 0 ≤ i) (h1 : i < (ws.length : Int)) : vIx (.tup (ws.map PV.str)) (.int i) st = .ok (.str (ws.getD i.toNat "")) st := by
  rw [v_ixt, at_in h0 (by rw [List.length_map]; exact h1)]
  have : i.toNat < ws.length := by omega
  rw [List.getElem_map, List.getD_eq_getElem?_getD, List.getElem?_eq_getElem this]
  rfl
theorem v_f0 {f : Fnc} {st : VSt} : vIx f.pv (.int 0) st = .ok (.str f.name) st := v_it0
theorem v_f1 {f : Fnc} {st : VSt} : vIx f.pv (.int 1) st = .ok (.tup (f.pars.map PV.str)) st := v_it1
theorem v_f2 {f : Fnc} {st : VSt} : vIx f.pv (.int 2) st = .ok (.tup (Row.pvs f.rows)) st := v_it2
def headF (hs : List Fnc) (c : Int) : Fnc := hs.getD (c / 7 % (hs.length : Int)).toNat noFnc
def argF (ws : List Str) (h : Fnc) (c : Int) (k : Nat) : Trm := givenF ws (h.pars.getD k "") (mixedF c (10 + (k : Int)))
def callF (ws : List Str) (hs : List Fnc) (c : Int) : Row :=
  .call (if c % 3 = 0 then none else some (ws.getD (c / 49 % (ws.length : Int)).toNat "")) (headF hs c).name ((List.range (headF hs c).pars.length).map (argF ws (headF hs c) c))
theorem F_call {ws : List Str} {hs : List Fnc} (hw : 0 < ws.length) (hh : 0 < hs.length) (n : Nat) (c : Int) (st : VSt) (hp : (headF hs c).pars.length ≤ 1000) : Fm D (n + 5) i__law_call [.int c, .lst (ws.map PV.str), .lst (hs.map Fnc.pv)] st = .ok (callF ws hs c).pv st := by
  rw [c__law_call]
  unfold b__law_call
  have l1 : ((ws.map PV.str).length : Int) = (ws.length : Int) := by rw [List.length_map]
  have l2 : ((hs.map Fnc.pv).length : Int) = (hs.length : Int) := by rw [List.length_map]
  have l3 : (((headF hs c).pars.map PV.str).length : Int) = ((headF hs c).pars.length : Int) := by rw [List.length_map]
  have g0 : 0 ≤ c / 7 % (hs.length : Int) := Int.emod_nonneg _ (by omega)
  have g1 : c / 7 % (hs.length : Int) < hs.length := Int.emod_lt_of_pos _ (by omega)
  have g2 : 0 ≤ c / 49 % (ws.length : Int) := Int.emod_nonneg _ (by omega)
  have g3 : c / 49 % (ws.length : Int) < ws.length := Int.emod_lt_of_pos _ (by omega)
  have hv : ∀ s, vIx (.lst (hs.map Fnc.pv)) (.int (c / 7 % (hs.length : Int))) s = .ok (headF hs c).pv s := fun s => v_fnc g0 g1
  have hm : ∀ (a k : Int) (s : VSt), Fm D (n + 4) i__law_mixed [.int a, .int k] s = .ok (.int (mixedF a k)) s := fun a k s => F_mixed (n + 3) a k s
  have hg : ∀ (a : Int) (x : Str) (s : VSt), Fm D (n + 4) i__law_given [.int a, .lst (ws.map PV.str), .str x] s = .ok (givenF ws x a).pv s := fun a x s => F_given hw n a x s
  simp -implicitDefEqProofs (disch := omega) only [x_raise, x_notL, end_ex, bind_ok, nox_ok, bind_ex, s_ex, sb_ex, s_ok, sb_nx, sb_rt, sb_ct, sb_bk, onB_bl, onBS_bl, x_var, x_c, x_bin, x_un, x_nil, x_cons, x_tup, x_lst, x_app, x_and, x_or, x_not, x_if, x_box, x_get, x_sl, x_onone, x_osome, x_snil, x_scons, x_set, x_expr, x_ret, x_retB, x_sif, x_bk, x_ct, x_aug, x_asg, x_gname, x_gnil, x_gcons, x_gtup, mkt0, mkl0, mkt1, mkl1, mkt2, mkl2, mkt3, mkl3, mkt4, mkl4, mkt5, mkl5, mkt6, mkl6, mkt7, mkl7, v_il0, v_it0, v_il1, v_it1, v_il2, v_it2, v_il3, v_it3, v_il4, v_it4, v_il5, v_it5, v_add, v_addI, v_sub, v_neg, v_mul, v_fdv, v_mod, v_cmp, v_eqs, v_nes, v_eqi, v_nei, v_eqb, v_ixc, opt_some, v_lenl, v_lent, v_lenc, v_tupt, v_tupl, v_intb, v_inti, v_max, v_isn, v_isnn, end_rt, end_nx, fz_int, fz_str, fz_bl, fz_non, List.getElem?_cons_zero, List.getElem?_cons_succ, List.set_cons_zero, List.set_cons_succ, List.length_cons, List.length_nil, List.take_length, Option.map_some, oldLoc, Bool.false_and, Bool.and_false, Bool.true_and, Bool.and_true, Bool.not_true, Bool.not_false, Bool.false_eq_true, decide_true, decide_false, decide_eq_true_eq, if_true, if_false, ↓reduceIte, Nat.reduceAdd, Nat.reduceLeDiff, l2, hv]
  rw [comp_rng (m := ((headF hs c).pars.length : Int)) (f := fun k => (argF ws (headF hs c) c k).pv) (by
    simp -implicitDefEqProofs (disch := omega) only [x_raise, x_notL, end_ex, bind_ok, nox_ok, bind_ex, s_ex, sb_ex, s_ok, sb_nx, sb_rt, sb_ct, sb_bk, onB_bl, onBS_bl, x_var, x_c, x_bin, x_un, x_nil, x_cons, x_tup, x_lst, x_app, x_and, x_or, x_not, x_if, x_box, x_get, x_sl, x_onone, x_osome, x_snil, x_scons, x_set, x_expr, x_ret, x_retB, x_sif, x_bk, x_ct, x_aug, x_asg, x_gname, x_gnil, x_gcons, x_gtup, mkt0, mkl0, mkt1, mkl1, mkt2, mkl2, mkt3, mkl3, mkt4, mkl4, mkt5, mkl5, mkt6, mkl6, mkt7, mkl7, v_il0, v_it0, v_il1, v_it1, v_il2, v_it2, v_il3, v_it3, v_il4, v_it4, v_il5, v_it5, v_add, v_addI, v_sub, v_neg, v_mul, v_fdv, v_mod, v_cmp, v_eqs, v_nes, v_eqi, v_nei, v_eqb, v_ixc, opt_some, v_lenl, v_lent, v_lenc, v_tupt, v_tupl, v_intb, v_inti, v_max, v_isn, v_isnn, end_rt, end_nx, fz_int, fz_str, fz_bl, fz_non, List.getElem?_cons_zero, List.getElem?_cons_succ, List.set_cons_zero, List.set_cons_succ, List.length_cons, List.length_nil, List.take_length, Option.map_some, oldLoc, Bool.false_and, Bool.and_false, Bool.true_and, Bool.and_true, Bool.not_true, Bool.not_false, Bool.false_eq_true, decide_true, decide_false, decide_eq_true_eq, if_true, if_false, ↓reduceIte, Nat.reduceAdd, Nat.reduceLeDiff, v_f1, l3]) (by omega) (by omega) (fun k hk => by
    have hk2 : ∀ s, vIx (.tup ((headF hs c).pars.map PV.str)) (.int (k : Int)) s = .ok (.str ((headF hs c).pars.getD k "")) s := fun s => v_wordt (by omega) hk
    simp -implicitDefEqProofs (disch := omega) only [x_raise, x_notL, end_ex, bind_ok, nox_ok, bind_ex, s_ex, sb_ex, s_ok, sb_nx, sb_rt, sb_ct, sb_bk, onB_bl, onBS_bl, x_var, x_c, x_bin, x_un, x_nil, x_cons, x_tup, x_lst, x_app, x_and, x_or, x_not, x_if, x_box, x_get, x_sl, x_onone, x_osome, x_snil, x_scons, x_set, x_expr, x_ret, x_retB, x_sif, x_bk, x_ct, x_aug, x_asg, x_gname, x_gnil, x_gcons, x_gtup, mkt0, mkl0, mkt1, mkl1, mkt2, mkl2, mkt3, mkl3, mkt4, mkl4, mkt5, mkl5, mkt6, mkl6, mkt7, mkl7, v_il0, v_it0, v_il1, v_it1, v_il2, v_it2, v_il3, v_it3, v_il4, v_it4, v_il5, v_it5, v_add, v_addI, v_sub, v_neg, v_mul, v_fdv, v_mod, v_cmp, v_eqs, v_nes, v_eqi, v_nei, v_eqb, v_ixc, opt_some, v_lenl, v_lent, v_lenc, v_tupt, v_tupl, v_intb, v_inti, v_max, v_isn, v_isnn, end_rt, end_nx, fz_int, fz_str, fz_bl, fz_non, List.getElem?_cons_zero, List.getElem?_cons_succ, List.set_cons_zero, List.set_cons_succ, List.length_cons, List.length_nil, List.take_length, Option.map_some, oldLoc, Bool.false_and, Bool.and_false, Bool.true_and, Bool.and_true, Bool.not_true, Bool.not_false, Bool.false_eq_true, decide_true, decide_false, decide_eq_true_eq, if_true, if_false, ↓reduceIte, Nat.reduceAdd, Nat.reduceLeDiff, v_f1, hm, hk2, hg, argF])]
  have e1 : (List.range ((headF hs c).pars.length : Int).toNat).map (fun k => (argF ws (headF hs c) c k).pv) = ((List.range (headF hs c).pars.length).map (argF ws (headF hs c) c)).map Trm.pv := by
    rw [Int.toNat_natCast, List.map_map]; rfl
  rw [e1]
  by_cases k0 : c % 3 = 0
  · have e2 : callF ws hs c = .call none (headF hs c).name ((List.range (headF hs c).pars.length).map (argF ws (headF hs c) c)) := by unfold callF; rw [if_pos k0]
    have fp := (callF ws hs c).pure
    rw [e2, Row.pv] at fp
    have fz := freeze_pure (s := st) (k := st.length) _ fp
    simp only [optS] at fz
    rw [e2, Row.pv]
    simp -implicitDefEqProofs (disch := omega) only [x_raise, x_notL, end_ex, bind_ok, nox_ok, bind_ex, s_ex, sb_ex, s_ok, sb_nx, sb_rt, sb_ct, sb_bk, onB_bl, onBS_bl, x_var, x_c, x_bin, x_un, x_nil, x_cons, x_tup, x_lst, x_app, x_and, x_or, x_not, x_if, x_box, x_get, x_sl, x_onone, x_osome, x_snil, x_scons, x_set, x_expr, x_ret, x_retB, x_sif, x_bk, x_ct, x_aug, x_asg, x_gname, x_gnil, x_gcons, x_gtup, mkt0, mkl0, mkt1, mkl1, mkt2, mkl2, mkt3, mkl3, mkt4, mkl4, mkt5, mkl5, mkt6, mkl6, mkt7, mkl7, v_il0, v_it0, v_il1, v_it1, v_il2, v_it2, v_il3, v_it3, v_il4, v_it4, v_il5, v_it5, v_add, v_addI, v_sub, v_neg, v_mul, v_fdv, v_mod, v_cmp, v_eqs, v_nes, v_eqi, v_nei, v_eqb, v_ixc, opt_some, v_lenl, v_lent, v_lenc, v_tupt, v_tupl, v_intb, v_inti, v_max, v_isn, v_isnn, end_rt, end_nx, fz_int, fz_str, fz_bl, fz_non, List.getElem?_cons_zero, List.getElem?_cons_succ, List.set_cons_zero, List.set_cons_succ, List.length_cons, List.length_nil, List.take_length, Option.map_some, oldLoc, Bool.false_and, Bool.and_false, Bool.true_and, Bool.and_true, Bool.not_true, Bool.not_false, Bool.false_eq_true, decide_true, decide_false, decide_eq_true_eq, if_true, if_false, ↓reduceIte, Nat.reduceAdd, Nat.reduceLeDiff, l1, v_word, k0, v_f0, optS, fz]
  · have k0' : decide (c % 3 = 0) = false := decide_eq_false k0
    have e2 : callF ws hs c = .call (some (ws.getD (c / 49 % (ws.length : Int)).toNat "")) (headF hs c).name ((List.range (headF hs c).pars.length).map (argF ws (headF hs c) c)) := by unfold callF; rw [if_neg k0]
    have fp := (callF ws hs c).pure
    rw [e2, Row.pv] at fp
    have fz := freeze_pure (s := st) (k := st.length) _ fp
    simp only [optS] at fz
    rw [e2, Row.pv]
    simp -implicitDefEqProofs (disch := omega) only [x_raise, x_notL, end_ex, bind_ok, nox_ok, bind_ex, s_ex, sb_ex, s_ok, sb_nx, sb_rt, sb_ct, sb_bk, onB_bl, onBS_bl, x_var, x_c, x_bin, x_un, x_nil, x_cons, x_tup, x_lst, x_app, x_and, x_or, x_not, x_if, x_box, x_get, x_sl, x_onone, x_osome, x_snil, x_scons, x_set, x_expr, x_ret, x_retB, x_sif, x_bk, x_ct, x_aug, x_asg, x_gname, x_gnil, x_gcons, x_gtup, mkt0, mkl0, mkt1, mkl1, mkt2, mkl2, mkt3, mkl3, mkt4, mkl4, mkt5, mkl5, mkt6, mkl6, mkt7, mkl7, v_il0, v_it0, v_il1, v_it1, v_il2, v_it2, v_il3, v_it3, v_il4, v_it4, v_il5, v_it5, v_add, v_addI, v_sub, v_neg, v_mul, v_fdv, v_mod, v_cmp, v_eqs, v_nes, v_eqi, v_nei, v_eqb, v_ixc, opt_some, v_lenl, v_lent, v_lenc, v_tupt, v_tupl, v_intb, v_inti, v_max, v_isn, v_isnn, end_rt, end_nx, fz_int, fz_str, fz_bl, fz_non, List.getElem?_cons_zero, List.getElem?_cons_succ, List.set_cons_zero, List.set_cons_succ, List.length_cons, List.length_nil, List.take_length, Option.map_some, oldLoc, Bool.false_and, Bool.and_false, Bool.true_and, Bool.and_true, Bool.not_true, Bool.not_false, Bool.false_eq_true, decide_true, decide_false, decide_eq_true_eq, if_true, if_false, ↓reduceIte, Nat.reduceAdd, Nat.reduceLeDiff, l1, v_word, k0', v_f0, optS, fz]
end Lk


namespace Lk
open PySem L2 Vm
def rowsOf (R : Int → Row) (c m : Int) : List Row := (List.range m.toNat).map fun (k : Nat) => R (mixedF c (20 + (k : Int)))
theorem F_rows {R : Int → Row} {W Hs : PV} {d : Int} {n : Nat} (hR : ∀ (c : Int) (s : VSt), Fm D (n + 1) i__law_row [.int c, W, Hs, .int d] s = .ok (R c).pv s) (c m : Int) (h0 : 0 ≤ m) (h1 : m ≤ 1000) (st : VSt) :
    Fm D (n + 2) i__law_rows [.int c, W, Hs, .int d, .int m] st = .ok (.tup (Row.pvs (rowsOf R c m))) st := by
  rw [c__law_rows]
  unfold b__law_rows
  have hm : ∀ (a k : Int) (s : VSt), Fm D (n + 1) i__law_mixed [.int a, .int k] s = .ok (.int (mixedF a k)) s := fun a k s => F_mixed n a k s
  have fz : freeze st st.length (.tup (Row.pvs (rowsOf R c m))) = .tup (Row.pvs (rowsOf R c m)) := freeze_pure _ (Row.pures _)
  simp -implicitDefEqProofs (disch := omega) only [x_raise, x_notL, end_ex, bind_ok, nox_ok, bind_ex, s_ex, sb_ex, s_ok, sb_nx, sb_rt, sb_ct, sb_bk, onB_bl, onBS_bl, x_var, x_c, x_bin, x_un, x_nil, x_cons, x_tup, x_lst, x_app, x_and, x_or, x_not, x_if, x_box, x_get, x_sl, x_onone, x_osome, x_snil, x_scons, x_set, x_expr, x_ret, x_retB, x_sif, x_bk, x_ct, x_aug, x_asg, x_gname, x_gnil, x_gcons, x_gtup, mkt0, mkl0, mkt1, mkl1, mkt2, mkl2, mkt3, mkl3, mkt4, mkl4, mkt5, mkl5, mkt6, mkl6, mkt7, mkl7, v_il0, v_it0, v_il1, v_it1, v_il2, v_it2, v_il3, v_it3, v_il4, v_it4, v_il5, v_it5, v_add, v_addI, v_sub, v_neg, v_mul, v_fdv, v_mod, v_cmp, v_eqs, v_nes, v_eqi, v_nei, v_eqb, v_ixc, opt_some, v_lenl, v_lent, v_lenc, v_tupt, v_tupl, v_intb, v_inti, v_max, v_isn, v_isnn, end_rt, end_nx, fz_int, fz_str, fz_bl, fz_non, List.getElem?_cons_zero, List.getElem?_cons_succ, List.set_cons_zero, List.set_cons_succ, List.length_cons, List.length_nil, List.take_length, Option.map_some, oldLoc, Bool.false_and, Bool.and_false, Bool.true_and, Bool.and_true, Bool.not_true, Bool.not_false, Bool.false_eq_true, decide_true, decide_false, decide_eq_true_eq, if_true, if_false, ↓reduceIte, Nat.reduceAdd, Nat.reduceLeDiff]
  rw [comp_rng (m := m) (f := fun k => (R (mixedF c (20 + (k : Int)))).pv) rfl h0 (by omega) (fun k hk => by
    simp -implicitDefEqProofs (disch := omega) only [x_raise, x_notL, end_ex, bind_ok, nox_ok, bind_ex, s_ex, sb_ex, s_ok, sb_nx, sb_rt, sb_ct, sb_bk, onB_bl, onBS_bl, x_var, x_c, x_bin, x_un, x_nil, x_cons, x_tup, x_lst, x_app, x_and, x_or, x_not, x_if, x_box, x_get, x_sl, x_onone, x_osome, x_snil, x_scons, x_set, x_expr, x_ret, x_retB, x_sif, x_bk, x_ct, x_aug, x_asg, x_gname, x_gnil, x_gcons, x_gtup, mkt0, mkl0, mkt1, mkl1, mkt2, mkl2, mkt3, mkl3, mkt4, mkl4, mkt5, mkl5, mkt6, mkl6, mkt7, mkl7, v_il0, v_it0, v_il1, v_it1, v_il2, v_it2, v_il3, v_it3, v_il4, v_it4, v_il5, v_it5, v_add, v_addI, v_sub, v_neg, v_mul, v_fdv, v_mod, v_cmp, v_eqs, v_nes, v_eqi, v_nei, v_eqb, v_ixc, opt_some, v_lenl, v_lent, v_lenc, v_tupt, v_tupl, v_intb, v_inti, v_max, v_isn, v_isnn, end_rt, end_nx, fz_int, fz_str, fz_bl, fz_non, List.getElem?_cons_zero, List.getElem?_cons_succ, List.set_cons_zero, List.set_cons_succ, List.length_cons, List.length_nil, List.take_length, Option.map_some, oldLoc, Bool.false_and, Bool.and_false, Bool.true_and, Bool.and_true, Bool.not_true, Bool.not_false, Bool.false_eq_true, decide_true, decide_false, decide_eq_true_eq, if_true, if_false, ↓reduceIte, Nat.reduceAdd, Nat.reduceLeDiff, hm, hR])]
  have e1 : (List.range m.toNat).map (fun (k : Nat) => (R (mixedF c (20 + (k : Int)))).pv) = Row.pvs (rowsOf R c m) := by
    rw [pvs_map]; unfold rowsOf; rw [List.map_map]; rfl
  rw [e1]
  simp -implicitDefEqProofs (disch := omega) only [x_raise, x_notL, end_ex, bind_ok, nox_ok, bind_ex, s_ex, sb_ex, s_ok, sb_nx, sb_rt, sb_ct, sb_bk, onB_bl, onBS_bl, x_var, x_c, x_bin, x_un, x_nil, x_cons, x_tup, x_lst, x_app, x_and, x_or, x_not, x_if, x_box, x_get, x_sl, x_onone, x_osome, x_snil, x_scons, x_set, x_expr, x_ret, x_retB, x_sif, x_bk, x_ct, x_aug, x_asg, x_gname, x_gnil, x_gcons, x_gtup, mkt0, mkl0, mkt1, mkl1, mkt2, mkl2, mkt3, mkl3, mkt4, mkl4, mkt5, mkl5, mkt6, mkl6, mkt7, mkl7, v_il0, v_it0, v_il1, v_it1, v_il2, v_it2, v_il3, v_it3, v_il4, v_it4, v_il5, v_it5, v_add, v_addI, v_sub, v_neg, v_mul, v_fdv, v_mod, v_cmp, v_eqs, v_nes, v_eqi, v_nei, v_eqb, v_ixc, opt_some, v_lenl, v_lent, v_lenc, v_tupt, v_tupl, v_intb, v_inti, v_max, v_isn, v_isnn, end_rt, end_nx, fz_int, fz_str, fz_bl, fz_non, List.getElem?_cons_zero, List.getElem?_cons_succ, List.set_cons_zero, List.set_cons_succ, List.length_cons, List.length_nil, List.take_length, Option.map_some, oldLoc, Bool.false_and, Bool.and_false, Bool.true_and, Bool.and_true, Bool.not_true, Bool.not_false, Bool.false_eq_true, decide_true, decide_false, decide_eq_true_eq, if_true, if_false, ↓reduceIte, Nat.reduceAdd, Nat.reduceLeDiff, fz]
def c4 (i : Int) : Int := if i = 0 then 2 else if i = 1 then 1 else if i = 2 then 2 else 0
def c5 (z i : Int) : Int := if i = 0 then 2 else if i = 1 then 3 else if i = 2 then 1 else if i = 3 then z else 0
theorem v_c4 {i : Int} {st : VSt} (h0 : 0 ≤ i) (h1 : i < 4) : vIx (.lst [.int 2, .int 1, .int 2, .int 0]) (.int i) st = .ok (.int (c4 i)) st := by
  have : i = 0 ∨ i = 1 ∨ i = 2 ∨ i = 3 := by omega
  rcases this with rfl | rfl | rfl | rfl
  · exact v_il0
  · exact v_il1
  · exact v_il2
  · exact v_il3
theorem v_c5 {i z : Int} {st : VSt} (h0 : 0 ≤ i) (h1 : i < 5) : vIx (.lst [.int 2, .int 3, .int 1, .int z, .int 0]) (.int i) st = .ok (.int (c5 z i)) st := by
  have : i = 0 ∨ i = 1 ∨ i = 2 ∨ i = 3 ∨ i = 4 := by omega
  rcases this with rfl | rfl | rfl | rfl | rfl
  · exact v_il0
  · exact v_il1
  · exact v_il2
  · exact v_il3
  · exact v_il4
def fewF (hs : List Fnc) (c : Int) : List Fnc := hs.take (if c / 3645 % 8 = 1 then 2 else 1)
theorem v_few {hs : List Fnc} {c : Int} {st : VSt} : vSl (.lst (hs.map Fnc.pv)) none (some (1 + if decide (c / 3645 % 8 = 1) = true then 1 else 0)) st = .ok (.lst ((fewF hs c).map Fnc.pv)) st := by
  rw [v_sll]
  unfold cutP fewF
  have key : ∀ k : Nat, ((hs.map Fnc.pv).drop (HT.sIx (hs.map Fnc.pv).length 0 none)).take (HT.sIx (hs.map Fnc.pv).length (hs.map Fnc.pv).length (some (k : Int)) - HT.sIx (hs.map Fnc.pv).length 0 none) = (hs.take k).map Fnc.pv := fun k => by
    rw [HT.sIx_none, HT.sIx_nat, List.drop_zero, Nat.sub_zero, List.map_take, List.take_eq_take_iff]
    omega
  by_cases h : c / 3645 % 8 = 1
  · rw [if_pos h, if_pos (decide_eq_true h)]
    have := key 2
    rw [show (1 + 1 : Int) = ((2 : Nat) : Int) from rfl, this]
  · rw [if_neg h, if_neg (by simpa using h)]
    have := key 1
    rw [show (1 + 0 : Int) = ((1 : Nat) : Int) from rfl, this]
def flatF (ws : List Str) (hs : List Fnc) (c : Int) : Row :=
  if c % 9 = 2 ∨ c % 9 = 8 then .tell (termF ws 2 (mixedF c 3))
  else if 2 < c % 9 ∧ c % 9 < 6 ∧ hs.isEmpty = false then callF ws hs (mixedF c 3)
  else .set (ws.getD (c / 9 % (ws.length : Int)).toNat "") (termF ws (1 + c % 9 % 2).toNat (mixedF c 3))
def cntF (hs : List Fnc) (d : Nat) (c : Int) : Int := if hs.isEmpty = true ∧ d = 2 then c5 (c / 135 % 10) (c / 27 % 5) else c4 (c / 27 % 4)
def rowF (ws : List Str) : Nat → List Fnc → Int → Row
  | 0, hs, c => flatF ws hs c
  | d + 1, hs, c =>
    if c % 9 = 6 then .when (termF ws 1 (mixedF c 4)) (rowsOf (rowF ws d (fewF hs c)) (mixedF c 3) (1 + c / 9 % 3))
    else if c % 9 = 7 then .again (cntF hs (d + 1) c) (rowsOf (rowF ws d (fewF hs c)) (mixedF c 3) (1 + c / 9 % 3))
    else flatF ws hs c
end Lk


namespace Lk
open PySem L2 Vm
theorem fz_row {s : VSt} {k : Nat} (r : Row) : freeze s k r.pv = r.pv := freeze_pure _ r.pure
/-- heads that may be compared -/
def HsOk (hs : List Fnc) : Prop := soks (hs.map Fnc.pv) = true ∧ deps (hs.map Fnc.pv) < 64 ∧ ∀ h ∈ hs, h.pars.length ≤ 1000
theorem HsOk.few {hs : List Fnc} (h : HsOk hs) (c : Int) : HsOk (fewF hs c) := by
  have ks : ∀ (n : Nat) (xs : List PV), soks xs = true → soks (xs.take n) = true := by
    intro n
    induction n with
    | zero => intro xs _; rw [List.take_zero]; rfl
    | succ n ih =>
      intro xs h
      cases xs with
      | nil => rfl
      | cons x r =>
        unfold soks at h
        rw [Bool.and_eq_true] at h
        rw [List.take_succ_cons]
        unfold soks
        rw [h.1, ih r h.2]; rfl
  have kd : ∀ (n : Nat) (xs : List PV), deps (xs.take n) ≤ deps xs := by
    intro n
    induction n with
    | zero => intro xs; rw [List.take_zero]; exact Nat.zero_le _
    | succ n ih =>
      intro xs
      cases xs with
      | nil => exact Nat.le_refl _
      | cons x r =>
        have := ih r
        rw [List.take_succ_cons]
        show max (depP x) (deps (r.take n)) ≤ max (depP x) (deps r)
        omega
  unfold fewF
  refine ⟨by rw [List.map_take]; exact ks _ _ h.1, by rw [List.map_take]; exact Nat.lt_of_le_of_lt (kd _ _) h.2.1, fun x hx => h.2.2 x (List.mem_of_mem_take hx)⟩
theorem F_flat {ws : List Str} {hs : List Fnc} (hw : 0 < ws.length) (hh : HsOk hs) (n : Nat) (c d : Int) (st : VSt) (hd : d = 0 ∨ (c % 9 ≠ 6 ∧ c % 9 ≠ 7)) :
    Fm D (n + 8) i__law_row [.int c, .lst (ws.map PV.str), .lst (hs.map Fnc.pv), .int d] st = .ok (flatF ws hs c).pv st := by
  rw [c__law_row]
  unfold b__law_row
  have l1 : ((ws.map PV.str).length : Int) = (ws.length : Int) := by rw [List.length_map]
  have g0 : 0 ≤ c / 9 % (ws.length : Int) := Int.emod_nonneg _ (by omega)
  have g1 : c / 9 % (ws.length : Int) < ws.length := Int.emod_lt_of_pos _ (by omega)
  have hm : ∀ (a k : Int) (s : VSt), Fm D (n + 7) i__law_mixed [.int a, .int k] s = .ok (.int (mixedF a k)) s := fun a k s => F_mixed (n + 6) a k s
  have t2 : ∀ (a : Int) (s : VSt), Fm D (n + 7) i__law_term [.int a, .lst (ws.map PV.str), .int 2] s = .ok (termF ws 2 a).pv s := fun a s => F_term hw 2 (n + 3) a s
  have t1 : ∀ (a : Int) (s : VSt), Fm D (n + 7) i__law_term [.int a, .lst (ws.map PV.str), .int 1] s = .ok (termF ws 1 a).pv s := fun a s => F_term hw 1 (n + 4) a s
  have tc : ∀ (a : Int) (s : VSt), hs.isEmpty = false → Fm D (n + 7) i__law_call [.int a, .lst (ws.map PV.str), .lst (hs.map Fnc.pv)] s = .ok (callF ws hs a).pv s := fun a s he => by
    have hl : 0 < hs.length := by
      cases hs with
      | nil => cases he
      | cons _ _ => exact Nat.succ_pos _
    refine F_call hw hl (n + 2) a s (hh.2.2 _ ?_)
    unfold headF
    have q0 : 0 ≤ a / 7 % (hs.length : Int) := Int.emod_nonneg _ (by omega)
    have q1 : a / 7 % (hs.length : Int) < hs.length := Int.emod_lt_of_pos _ (by omega)
    have q2 : (a / 7 % (hs.length : Int)).toNat < hs.length := by omega
    rw [List.getD_eq_getElem?_getD, List.getElem?_eq_getElem q2]
    exact List.getElem_mem _
  have hn : ∀ s, vEqF true (.lst (hs.map Fnc.pv)) (.lst []) s = .ok (.bl (!hs.isEmpty)) s := fun s => by
    rw [v_nil hh.1 hh.2.1]
    cases hs <;> rfl
  have hd0 : d = 0 → decide (d > 0) = false := fun h => decide_eq_false (by omega)
  have ht : ∀ j, c % 9 = j → (j = 2 ∨ j = 8) → flatF ws hs c = .tell (termF ws 2 (mixedF c 3)) := fun j k h => by
    unfold flatF
    rw [if_pos (by omega)]
  have hset : ¬ (c % 9 = 2 ∨ c % 9 = 8) → ¬ (2 < c % 9 ∧ c % 9 < 6 ∧ hs.isEmpty = false) → flatF ws hs c = .set (ws.getD (c / 9 % (ws.length : Int)).toNat "") (termF ws (1 + c % 9 % 2).toNat (mixedF c 3)) := fun h k => by
    unfold flatF
    rw [if_neg h, if_neg k]
  have kk : c % 9 = 0 ∨ c % 9 = 1 ∨ c % 9 = 2 ∨ c % 9 = 8 ∨ (c % 9 = 3 ∨ c % 9 = 4 ∨ c % 9 = 5) ∨ c % 9 = 6 ∨ c % 9 = 7 := by omega
  rcases kk with k | k | k | k | k3 | k | k
  · rw [hset (by omega) (by omega), Row.pv]
    simp -implicitDefEqProofs (disch := omega) only [x_raise, x_notL, end_ex, bind_ok, nox_ok, bind_ex, s_ex, sb_ex, s_ok, sb_nx, sb_rt, sb_ct, sb_bk, onB_bl, onBS_bl, x_var, x_c, x_bin, x_un, x_nil, x_cons, x_tup, x_lst, x_app, x_and, x_or, x_not, x_if, x_box, x_get, x_sl, x_onone, x_osome, x_snil, x_scons, x_set, x_expr, x_ret, x_retB, x_sif, x_bk, x_ct, x_aug, x_asg, x_gname, x_gnil, x_gcons, x_gtup, mkt0, mkl0, mkt1, mkl1, mkt2, mkl2, mkt3, mkl3, mkt4, mkl4, mkt5, mkl5, mkt6, mkl6, mkt7, mkl7, v_il0, v_it0, v_il1, v_it1, v_il2, v_it2, v_il3, v_it3, v_il4, v_it4, v_il5, v_it5, v_add, v_addI, v_sub, v_neg, v_mul, v_fdv, v_mod, v_cmp, v_eqs, v_nes, v_eqi, v_nei, v_eqb, v_ixc, opt_some, v_lenl, v_lent, v_lenc, v_tupt, v_tupl, v_intb, v_inti, v_max, v_isn, v_isnn, end_rt, end_nx, fz_int, fz_str, fz_bl, fz_non, List.getElem?_cons_zero, List.getElem?_cons_succ, List.set_cons_zero, List.set_cons_succ, List.length_cons, List.length_nil, List.take_length, Option.map_some, oldLoc, Bool.false_and, Bool.and_false, Bool.true_and, Bool.and_true, Bool.not_true, Bool.not_false, Bool.false_eq_true, decide_true, decide_false, decide_eq_true_eq, if_true, if_false, ↓reduceIte, Nat.reduceAdd, Nat.reduceLeDiff, hm, l1, v_word, v_sll, hn, t1, t2, Int.reduceEq, Int.reduceLT, Int.reduceMod, Int.reduceAdd, Int.reduceToNat, fz_tup, fzs_nil, fzs_cons, fz_tm, fz_row, k]
  · rw [hset (by omega) (by omega), Row.pv]
    simp -implicitDefEqProofs (disch := omega) only [x_raise, x_notL, end_ex, bind_ok, nox_ok, bind_ex, s_ex, sb_ex, s_ok, sb_nx, sb_rt, sb_ct, sb_bk, onB_bl, onBS_bl, x_var, x_c, x_bin, x_un, x_nil, x_cons, x_tup, x_lst, x_app, x_and, x_or, x_not, x_if, x_box, x_get, x_sl, x_onone, x_osome, x_snil, x_scons, x_set, x_expr, x_ret, x_retB, x_sif, x_bk, x_ct, x_aug, x_asg, x_gname, x_gnil, x_gcons, x_gtup, mkt0, mkl0, mkt1, mkl1, mkt2, mkl2, mkt3, mkl3, mkt4, mkl4, mkt5, mkl5, mkt6, mkl6, mkt7, mkl7, v_il0, v_it0, v_il1, v_it1, v_il2, v_it2, v_il3, v_it3, v_il4, v_it4, v_il5, v_it5, v_add, v_addI, v_sub, v_neg, v_mul, v_fdv, v_mod, v_cmp, v_eqs, v_nes, v_eqi, v_nei, v_eqb, v_ixc, opt_some, v_lenl, v_lent, v_lenc, v_tupt, v_tupl, v_intb, v_inti, v_max, v_isn, v_isnn, end_rt, end_nx, fz_int, fz_str, fz_bl, fz_non, List.getElem?_cons_zero, List.getElem?_cons_succ, List.set_cons_zero, List.set_cons_succ, List.length_cons, List.length_nil, List.take_length, Option.map_some, oldLoc, Bool.false_and, Bool.and_false, Bool.true_and, Bool.and_true, Bool.not_true, Bool.not_false, Bool.false_eq_true, decide_true, decide_false, decide_eq_true_eq, if_true, if_false, ↓reduceIte, Nat.reduceAdd, Nat.reduceLeDiff, hm, l1, v_word, v_sll, hn, t1, t2, Int.reduceEq, Int.reduceLT, Int.reduceMod, Int.reduceAdd, Int.reduceToNat, fz_tup, fzs_nil, fzs_cons, fz_tm, fz_row, k]
  · rw [ht _ k (by omega), Row.pv]
    simp -implicitDefEqProofs (disch := omega) only [x_raise, x_notL, end_ex, bind_ok, nox_ok, bind_ex, s_ex, sb_ex, s_ok, sb_nx, sb_rt, sb_ct, sb_bk, onB_bl, onBS_bl, x_var, x_c, x_bin, x_un, x_nil, x_cons, x_tup, x_lst, x_app, x_and, x_or, x_not, x_if, x_box, x_get, x_sl, x_onone, x_osome, x_snil, x_scons, x_set, x_expr, x_ret, x_retB, x_sif, x_bk, x_ct, x_aug, x_asg, x_gname, x_gnil, x_gcons, x_gtup, mkt0, mkl0, mkt1, mkl1, mkt2, mkl2, mkt3, mkl3, mkt4, mkl4, mkt5, mkl5, mkt6, mkl6, mkt7, mkl7, v_il0, v_it0, v_il1, v_it1, v_il2, v_it2, v_il3, v_it3, v_il4, v_it4, v_il5, v_it5, v_add, v_addI, v_sub, v_neg, v_mul, v_fdv, v_mod, v_cmp, v_eqs, v_nes, v_eqi, v_nei, v_eqb, v_ixc, opt_some, v_lenl, v_lent, v_lenc, v_tupt, v_tupl, v_intb, v_inti, v_max, v_isn, v_isnn, end_rt, end_nx, fz_int, fz_str, fz_bl, fz_non, List.getElem?_cons_zero, List.getElem?_cons_succ, List.set_cons_zero, List.set_cons_succ, List.length_cons, List.length_nil, List.take_length, Option.map_some, oldLoc, Bool.false_and, Bool.and_false, Bool.true_and, Bool.and_true, Bool.not_true, Bool.not_false, Bool.false_eq_true, decide_true, decide_false, decide_eq_true_eq, if_true, if_false, ↓reduceIte, Nat.reduceAdd, Nat.reduceLeDiff, hm, l1, v_word, v_sll, hn, t1, t2, Int.reduceEq, Int.reduceLT, Int.reduceMod, Int.reduceAdd, Int.reduceToNat, fz_tup, fzs_nil, fzs_cons, fz_tm, fz_row, k]
  · rw [ht _ k (by omega), Row.pv]
    simp -implicitDefEqProofs (disch := omega) only [x_raise, x_notL, end_ex, bind_ok, nox_ok, bind_ex, s_ex, sb_ex, s_ok, sb_nx, sb_rt, sb_ct, sb_bk, onB_bl, onBS_bl, x_var, x_c, x_bin, x_un, x_nil, x_cons, x_tup, x_lst, x_app, x_and, x_or, x_not, x_if, x_box, x_get, x_sl, x_onone, x_osome, x_snil, x_scons, x_set, x_expr, x_ret, x_retB, x_sif, x_bk, x_ct, x_aug, x_asg, x_gname, x_gnil, x_gcons, x_gtup, mkt0, mkl0, mkt1, mkl1, mkt2, mkl2, mkt3, mkl3, mkt4, mkl4, mkt5, mkl5, mkt6, mkl6, mkt7, mkl7, v_il0, v_it0, v_il1, v_it1, v_il2, v_it2, v_il3, v_it3, v_il4, v_it4, v_il5, v_it5, v_add, v_addI, v_sub, v_neg, v_mul, v_fdv, v_mod, v_cmp, v_eqs, v_nes, v_eqi, v_nei, v_eqb, v_ixc, opt_some, v_lenl, v_lent, v_lenc, v_tupt, v_tupl, v_intb, v_inti, v_max, v_isn, v_isnn, end_rt, end_nx, fz_int, fz_str, fz_bl, fz_non, List.getElem?_cons_zero, List.getElem?_cons_succ, List.set_cons_zero, List.set_cons_succ, List.length_cons, List.length_nil, List.take_length, Option.map_some, oldLoc, Bool.false_and, Bool.and_false, Bool.true_and, Bool.and_true, Bool.not_true, Bool.not_false, Bool.false_eq_true, decide_true, decide_false, decide_eq_true_eq, if_true, if_false, ↓reduceIte, Nat.reduceAdd, Nat.reduceLeDiff, hm, l1, v_word, v_sll, hn, t1, t2, Int.reduceEq, Int.reduceLT, Int.reduceMod, Int.reduceAdd, Int.reduceToNat, fz_tup, fzs_nil, fzs_cons, fz_tm, fz_row, k]
  · cases he : hs.isEmpty with
    | false =>
      have e : flatF ws hs c = callF ws hs (mixedF c 3) := by
        unfold flatF
        rw [if_neg (by omega), if_pos ⟨by omega, by omega, he⟩]
      have tc' := fun (a : Int) (s : VSt) => tc a s he
      rw [e]
      rcases k3 with k | k | k
      · simp -implicitDefEqProofs (disch := omega) only [x_raise, x_notL, end_ex, bind_ok, nox_ok, bind_ex, s_ex, sb_ex, s_ok, sb_nx, sb_rt, sb_ct, sb_bk, onB_bl, onBS_bl, x_var, x_c, x_bin, x_un, x_nil, x_cons, x_tup, x_lst, x_app, x_and, x_or, x_not, x_if, x_box, x_get, x_sl, x_onone, x_osome, x_snil, x_scons, x_set, x_expr, x_ret, x_retB, x_sif, x_bk, x_ct, x_aug, x_asg, x_gname, x_gnil, x_gcons, x_gtup, mkt0, mkl0, mkt1, mkl1, mkt2, mkl2, mkt3, mkl3, mkt4, mkl4, mkt5, mkl5, mkt6, mkl6, mkt7, mkl7, v_il0, v_it0, v_il1, v_it1, v_il2, v_it2, v_il3, v_it3, v_il4, v_it4, v_il5, v_it5, v_add, v_addI, v_sub, v_neg, v_mul, v_fdv, v_mod, v_cmp, v_eqs, v_nes, v_eqi, v_nei, v_eqb, v_ixc, opt_some, v_lenl, v_lent, v_lenc, v_tupt, v_tupl, v_intb, v_inti, v_max, v_isn, v_isnn, end_rt, end_nx, fz_int, fz_str, fz_bl, fz_non, List.getElem?_cons_zero, List.getElem?_cons_succ, List.set_cons_zero, List.set_cons_succ, List.length_cons, List.length_nil, List.take_length, Option.map_some, oldLoc, Bool.false_and, Bool.and_false, Bool.true_and, Bool.and_true, Bool.not_true, Bool.not_false, Bool.false_eq_true, decide_true, decide_false, decide_eq_true_eq, if_true, if_false, ↓reduceIte, Nat.reduceAdd, Nat.reduceLeDiff, hm, l1, v_word, v_sll, hn, t1, t2, Int.reduceEq, Int.reduceLT, Int.reduceMod, Int.reduceAdd, Int.reduceToNat, fz_tup, fzs_nil, fzs_cons, fz_tm, fz_row, k, tc', he]
      · simp -implicitDefEqProofs (disch := omega) only [x_raise, x_notL, end_ex, bind_ok, nox_ok, bind_ex, s_ex, sb_ex, s_ok, sb_nx, sb_rt, sb_ct, sb_bk, onB_bl, onBS_bl, x_var, x_c, x_bin, x_un, x_nil, x_cons, x_tup, x_lst, x_app, x_and, x_or, x_not, x_if, x_box, x_get, x_sl, x_onone, x_osome, x_snil, x_scons, x_set, x_expr, x_ret, x_retB, x_sif, x_bk, x_ct, x_aug, x_asg, x_gname, x_gnil, x_gcons, x_gtup, mkt0, mkl0, mkt1, mkl1, mkt2, mkl2, mkt3, mkl3, mkt4, mkl4, mkt5, mkl5, mkt6, mkl6, mkt7, mkl7, v_il0, v_it0, v_il1, v_it1, v_il2, v_it2, v_il3, v_it3, v_il4, v_it4, v_il5, v_it5, v_add, v_addI, v_sub, v_neg, v_mul, v_fdv, v_mod, v_cmp, v_eqs, v_nes, v_eqi, v_nei, v_eqb, v_ixc, opt_some, v_lenl, v_lent, v_lenc, v_tupt, v_tupl, v_intb, v_inti, v_max, v_isn, v_isnn, end_rt, end_nx, fz_int, fz_str, fz_bl, fz_non, List.getElem?_cons_zero, List.getElem?_cons_succ, List.set_cons_zero, List.set_cons_succ, List.length_cons, List.length_nil, List.take_length, Option.map_some, oldLoc, Bool.false_and, Bool.and_false, Bool.true_and, Bool.and_true, Bool.not_true, Bool.not_false, Bool.false_eq_true, decide_true, decide_false, decide_eq_true_eq, if_true, if_false, ↓reduceIte, Nat.reduceAdd, Nat.reduceLeDiff, hm, l1, v_word, v_sll, hn, t1, t2, Int.reduceEq, Int.reduceLT, Int.reduceMod, Int.reduceAdd, Int.reduceToNat, fz_tup, fzs_nil, fzs_cons, fz_tm, fz_row, k, tc', he]
      · simp -implicitDefEqProofs (disch := omega) only [x_raise, x_notL, end_ex, bind_ok, nox_ok, bind_ex, s_ex, sb_ex, s_ok, sb_nx, sb_rt, sb_ct, sb_bk, onB_bl, onBS_bl, x_var, x_c, x_bin, x_un, x_nil, x_cons, x_tup, x_lst, x_app, x_and, x_or, x_not, x_if, x_box, x_get, x_sl, x_onone, x_osome, x_snil, x_scons, x_set, x_expr, x_ret, x_retB, x_sif, x_bk, x_ct, x_aug, x_asg, x_gname, x_gnil, x_gcons, x_gtup, mkt0, mkl0, mkt1, mkl1, mkt2, mkl2, mkt3, mkl3, mkt4, mkl4, mkt5, mkl5, mkt6, mkl6, mkt7, mkl7, v_il0, v_it0, v_il1, v_it1, v_il2, v_it2, v_il3, v_it3, v_il4, v_it4, v_il5, v_it5, v_add, v_addI, v_sub, v_neg, v_mul, v_fdv, v_mod, v_cmp, v_eqs, v_nes, v_eqi, v_nei, v_eqb, v_ixc, opt_some, v_lenl, v_lent, v_lenc, v_tupt, v_tupl, v_intb, v_inti, v_max, v_isn, v_isnn, end_rt, end_nx, fz_int, fz_str, fz_bl, fz_non, List.getElem?_cons_zero, List.getElem?_cons_succ, List.set_cons_zero, List.set_cons_succ, List.length_cons, List.length_nil, List.take_length, Option.map_some, oldLoc, Bool.false_and, Bool.and_false, Bool.true_and, Bool.and_true, Bool.not_true, Bool.not_false, Bool.false_eq_true, decide_true, decide_false, decide_eq_true_eq, if_true, if_false, ↓reduceIte, Nat.reduceAdd, Nat.reduceLeDiff, hm, l1, v_word, v_sll, hn, t1, t2, Int.reduceEq, Int.reduceLT, Int.reduceMod, Int.reduceAdd, Int.reduceToNat, fz_tup, fzs_nil, fzs_cons, fz_tm, fz_row, k, tc', he]
    | true =>
      have e := hset (by omega) (fun z => by rw [he] at z; cases z.2.2)
      rw [e, Row.pv]
      rcases k3 with k | k | k
      · simp -implicitDefEqProofs (disch := omega) only [x_raise, x_notL, end_ex, bind_ok, nox_ok, bind_ex, s_ex, sb_ex, s_ok, sb_nx, sb_rt, sb_ct, sb_bk, onB_bl, onBS_bl, x_var, x_c, x_bin, x_un, x_nil, x_cons, x_tup, x_lst, x_app, x_and, x_or, x_not, x_if, x_box, x_get, x_sl, x_onone, x_osome, x_snil, x_scons, x_set, x_expr, x_ret, x_retB, x_sif, x_bk, x_ct, x_aug, x_asg, x_gname, x_gnil, x_gcons, x_gtup, mkt0, mkl0, mkt1, mkl1, mkt2, mkl2, mkt3, mkl3, mkt4, mkl4, mkt5, mkl5, mkt6, mkl6, mkt7, mkl7, v_il0, v_it0, v_il1, v_it1, v_il2, v_it2, v_il3, v_it3, v_il4, v_it4, v_il5, v_it5, v_add, v_addI, v_sub, v_neg, v_mul, v_fdv, v_mod, v_cmp, v_eqs, v_nes, v_eqi, v_nei, v_eqb, v_ixc, opt_some, v_lenl, v_lent, v_lenc, v_tupt, v_tupl, v_intb, v_inti, v_max, v_isn, v_isnn, end_rt, end_nx, fz_int, fz_str, fz_bl, fz_non, List.getElem?_cons_zero, List.getElem?_cons_succ, List.set_cons_zero, List.set_cons_succ, List.length_cons, List.length_nil, List.take_length, Option.map_some, oldLoc, Bool.false_and, Bool.and_false, Bool.true_and, Bool.and_true, Bool.not_true, Bool.not_false, Bool.false_eq_true, decide_true, decide_false, decide_eq_true_eq, if_true, if_false, ↓reduceIte, Nat.reduceAdd, Nat.reduceLeDiff, hm, l1, v_word, v_sll, hn, t1, t2, Int.reduceEq, Int.reduceLT, Int.reduceMod, Int.reduceAdd, Int.reduceToNat, fz_tup, fzs_nil, fzs_cons, fz_tm, fz_row, k, he]
      · simp -implicitDefEqProofs (disch := omega) only [x_raise, x_notL, end_ex, bind_ok, nox_ok, bind_ex, s_ex, sb_ex, s_ok, sb_nx, sb_rt, sb_ct, sb_bk, onB_bl, onBS_bl, x_var, x_c, x_bin, x_un, x_nil, x_cons, x_tup, x_lst, x_app, x_and, x_or, x_not, x_if, x_box, x_get, x_sl, x_onone, x_osome, x_snil, x_scons, x_set, x_expr, x_ret, x_retB, x_sif, x_bk, x_ct, x_aug, x_asg, x_gname, x_gnil, x_gcons, x_gtup, mkt0, mkl0, mkt1, mkl1, mkt2, mkl2, mkt3, mkl3, mkt4, mkl4, mkt5, mkl5, mkt6, mkl6, mkt7, mkl7, v_il0, v_it0, v_il1, v_it1, v_il2, v_it2, v_il3, v_it3, v_il4, v_it4, v_il5, v_it5, v_add, v_addI, v_sub, v_neg, v_mul, v_fdv, v_mod, v_cmp, v_eqs, v_nes, v_eqi, v_nei, v_eqb, v_ixc, opt_some, v_lenl, v_lent, v_lenc, v_tupt, v_tupl, v_intb, v_inti, v_max, v_isn, v_isnn, end_rt, end_nx, fz_int, fz_str, fz_bl, fz_non, List.getElem?_cons_zero, List.getElem?_cons_succ, List.set_cons_zero, List.set_cons_succ, List.length_cons, List.length_nil, List.take_length, Option.map_some, oldLoc, Bool.false_and, Bool.and_false, Bool.true_and, Bool.and_true, Bool.not_true, Bool.not_false, Bool.false_eq_true, decide_true, decide_false, decide_eq_true_eq, if_true, if_false, ↓reduceIte, Nat.reduceAdd, Nat.reduceLeDiff, hm, l1, v_word, v_sll, hn, t1, t2, Int.reduceEq, Int.reduceLT, Int.reduceMod, Int.reduceAdd, Int.reduceToNat, fz_tup, fzs_nil, fzs_cons, fz_tm, fz_row, k, he]
      · simp -implicitDefEqProofs (disch := omega) only [x_raise, x_notL, end_ex, bind_ok, nox_ok, bind_ex, s_ex, sb_ex, s_ok, sb_nx, sb_rt, sb_ct, sb_bk, onB_bl, onBS_bl, x_var, x_c, x_bin, x_un, x_nil, x_cons, x_tup, x_lst, x_app, x_and, x_or, x_not, x_if, x_box, x_get, x_sl, x_onone, x_osome, x_snil, x_scons, x_set, x_expr, x_ret, x_retB, x_sif, x_bk, x_ct, x_aug, x_asg, x_gname, x_gnil, x_gcons, x_gtup, mkt0, mkl0, mkt1, mkl1, mkt2, mkl2, mkt3, mkl3, mkt4, mkl4, mkt5, mkl5, mkt6, mkl6, mkt7, mkl7, v_il0, v_it0, v_il1, v_it1, v_il2, v_it2, v_il3, v_it3, v_il4, v_it4, v_il5, v_it5, v_add, v_addI, v_sub, v_neg, v_mul, v_fdv, v_mod, v_cmp, v_eqs, v_nes, v_eqi, v_nei, v_eqb, v_ixc, opt_some, v_lenl, v_lent, v_lenc, v_tupt, v_tupl, v_intb, v_inti, v_max, v_isn, v_isnn, end_rt, end_nx, fz_int, fz_str, fz_bl, fz_non, List.getElem?_cons_zero, List.getElem?_cons_succ, List.set_cons_zero, List.set_cons_succ, List.length_cons, List.length_nil, List.take_length, Option.map_some, oldLoc, Bool.false_and, Bool.and_false, Bool.true_and, Bool.and_true, Bool.not_true, Bool.not_false, Bool.false_eq_true, decide_true, decide_false, decide_eq_true_eq, if_true, if_false, ↓reduceIte, Nat.reduceAdd, Nat.reduceLeDiff, hm, l1, v_word, v_sll, hn, t1, t2, Int.reduceEq, Int.reduceLT, Int.reduceMod, Int.reduceAdd, Int.reduceToNat, fz_tup, fzs_nil, fzs_cons, fz_tm, fz_row, k, he]
  · have d0 : d = 0 := by omega
    have d1 := hd0 d0
    rw [hset (by omega) (by omega), Row.pv]
    simp -implicitDefEqProofs (disch := omega) only [x_raise, x_notL, end_ex, bind_ok, nox_ok, bind_ex, s_ex, sb_ex, s_ok, sb_nx, sb_rt, sb_ct, sb_bk, onB_bl, onBS_bl, x_var, x_c, x_bin, x_un, x_nil, x_cons, x_tup, x_lst, x_app, x_and, x_or, x_not, x_if, x_box, x_get, x_sl, x_onone, x_osome, x_snil, x_scons, x_set, x_expr, x_ret, x_retB, x_sif, x_bk, x_ct, x_aug, x_asg, x_gname, x_gnil, x_gcons, x_gtup, mkt0, mkl0, mkt1, mkl1, mkt2, mkl2, mkt3, mkl3, mkt4, mkl4, mkt5, mkl5, mkt6, mkl6, mkt7, mkl7, v_il0, v_it0, v_il1, v_it1, v_il2, v_it2, v_il3, v_it3, v_il4, v_it4, v_il5, v_it5, v_add, v_addI, v_sub, v_neg, v_mul, v_fdv, v_mod, v_cmp, v_eqs, v_nes, v_eqi, v_nei, v_eqb, v_ixc, opt_some, v_lenl, v_lent, v_lenc, v_tupt, v_tupl, v_intb, v_inti, v_max, v_isn, v_isnn, end_rt, end_nx, fz_int, fz_str, fz_bl, fz_non, List.getElem?_cons_zero, List.getElem?_cons_succ, List.set_cons_zero, List.set_cons_succ, List.length_cons, List.length_nil, List.take_length, Option.map_some, oldLoc, Bool.false_and, Bool.and_false, Bool.true_and, Bool.and_true, Bool.not_true, Bool.not_false, Bool.false_eq_true, decide_true, decide_false, decide_eq_true_eq, if_true, if_false, ↓reduceIte, Nat.reduceAdd, Nat.reduceLeDiff, hm, l1, v_word, v_sll, hn, t1, t2, Int.reduceEq, Int.reduceLT, Int.reduceMod, Int.reduceAdd, Int.reduceToNat, fz_tup, fzs_nil, fzs_cons, fz_tm, fz_row, k, d1]
  · have d0 : d = 0 := by omega
    have d1 := hd0 d0
    rw [hset (by omega) (by omega), Row.pv]
    simp -implicitDefEqProofs (disch := omega) only [x_raise, x_notL, end_ex, bind_ok, nox_ok, bind_ex, s_ex, sb_ex, s_ok, sb_nx, sb_rt, sb_ct, sb_bk, onB_bl, onBS_bl, x_var, x_c, x_bin, x_un, x_nil, x_cons, x_tup, x_lst, x_app, x_and, x_or, x_not, x_if, x_box, x_get, x_sl, x_onone, x_osome, x_snil, x_scons, x_set, x_expr, x_ret, x_retB, x_sif, x_bk, x_ct, x_aug, x_asg, x_gname, x_gnil, x_gcons, x_gtup, mkt0, mkl0, mkt1, mkl1, mkt2, mkl2, mkt3, mkl3, mkt4, mkl4, mkt5, mkl5, mkt6, mkl6, mkt7, mkl7, v_il0, v_it0, v_il1, v_it1, v_il2, v_it2, v_il3, v_it3, v_il4, v_it4, v_il5, v_it5, v_add, v_addI, v_sub, v_neg, v_mul, v_fdv, v_mod, v_cmp, v_eqs, v_nes, v_eqi, v_nei, v_eqb, v_ixc, opt_some, v_lenl, v_lent, v_lenc, v_tupt, v_tupl, v_intb, v_inti, v_max, v_isn, v_isnn, end_rt, end_nx, fz_int, fz_str, fz_bl, fz_non, List.getElem?_cons_zero, List.getElem?_cons_succ, List.set_cons_zero, List.set_cons_succ, List.length_cons, List.length_nil, List.take_length, Option.map_some, oldLoc, Bool.false_and, Bool.and_false, Bool.true_and, Bool.and_true, Bool.not_true, Bool.not_false, Bool.false_eq_true, decide_true, decide_false, decide_eq_true_eq, if_true, if_false, ↓reduceIte, Nat.reduceAdd, Nat.reduceLeDiff, hm, l1, v_word, v_sll, hn, t1, t2, Int.reduceEq, Int.reduceLT, Int.reduceMod, Int.reduceAdd, Int.reduceToNat, fz_tup, fzs_nil, fzs_cons, fz_tm, fz_row, k, d1]
end Lk


namespace Lk
open PySem L2 Vm
theorem fz_pvs {s : VSt} {k : Nat} (rs : List Row) : freezes s k (Row.pvs rs) = Row.pvs rs := freezes_pure _ (Row.pures rs)
theorem v_few2 {hs : List Fnc} {c : Int} {st : VSt} : vSl (.lst (hs.map Fnc.pv)) none (some (1 + if c / 3645 % 8 = 1 then 1 else 0)) st = .ok (.lst ((fewF hs c).map Fnc.pv)) st := by
  have := v_few (hs := hs) (c := c) (st := st)
  by_cases h : c / 3645 % 8 = 1
  · rw [if_pos h]
    rw [if_pos (decide_eq_true h)] at this
    exact this
  · rw [if_neg h]
    rw [if_neg (by simpa using h)] at this
    exact this
theorem F_row {ws : List Str} (hw : 0 < ws.length) : ∀ (d n : Nat) (hs : List Fnc) (c : Int) (st : VSt), HsOk hs →
    Fm D (n + 2 * d + 8) i__law_row [.int c, .lst (ws.map PV.str), .lst (hs.map Fnc.pv), .int (d : Int)] st = .ok (rowF ws d hs c).pv st
  | 0, n, hs, c, st, hh => F_flat hw hh n c 0 st (.inl rfl)
  | d + 1, n, hs, c, st, hh => by
    have e0 : n + 2 * (d + 1) + 8 = (n + 2 * d + 2) + 8 := by omega
    by_cases k67 : c % 9 ≠ 6 ∧ c % 9 ≠ 7
    · rw [e0, F_flat hw hh (n + 2 * d + 2) c _ st (.inr k67)]
      unfold rowF
      rw [if_neg k67.1, if_neg k67.2]
    · have e1 : n + 2 * (d + 1) + 8 = (n + 2 * d + 9) + 1 := by omega
      rw [e1, c__law_row]
      unfold b__law_row
      have l1 : ((ws.map PV.str).length : Int) = (ws.length : Int) := by rw [List.length_map]
      have g0 : 0 ≤ c / 9 % (ws.length : Int) := Int.emod_nonneg _ (by omega)
      have g1 : c / 9 % (ws.length : Int) < ws.length := Int.emod_lt_of_pos _ (by omega)
      have hm : ∀ (a k : Int) (s : VSt), Fm D (n + 2 * d + 9) i__law_mixed [.int a, .int k] s = .ok (.int (mixedF a k)) s := fun a k s => F_mixed (n + 2 * d + 8) a k s
      have t1 : ∀ (a : Int) (s : VSt), Fm D (n + 2 * d + 9) i__law_term [.int a, .lst (ws.map PV.str), .int 1] s = .ok (termF ws 1 a).pv s := fun a s => F_term hw 1 (n + 2 * d + 6) a s
      have hr : ∀ (a m : Int) (s : VSt), 0 ≤ m → m ≤ 1000 → Fm D (n + 2 * d + 9) i__law_rows [.int a, .lst (ws.map PV.str), .lst ((fewF hs c).map Fnc.pv), .int (d : Int), .int m] s = .ok (.tup (Row.pvs (rowsOf (rowF ws d (fewF hs c)) a m))) s := fun a m s h0 h1 =>
        F_rows (n := n + 2 * d + 7) (fun c' s' => F_row hw d n (fewF hs c) c' s' (hh.few c)) a m h0 h1 s
      have hr' : ∀ s, Fm D (n + 2 * d + 9) i__law_rows [.int (mixedF c 3), .lst (ws.map PV.str), .lst ((fewF hs c).map Fnc.pv), .int (d : Int), .int (1 + c / 9 % 3)] s = .ok (.tup (Row.pvs (rowsOf (rowF ws d (fewF hs c)) (mixedF c 3) (1 + c / 9 % 3)))) s := fun s => hr _ _ s (by omega) (by omega)
      have hn : ∀ s, vEqF true (.lst (hs.map Fnc.pv)) (.lst []) s = .ok (.bl (!hs.isEmpty)) s := fun s => by
        rw [v_nil hh.1 hh.2.1]
        cases hs <;> rfl
      have hnf : ∀ s, vEqF false (.lst (hs.map Fnc.pv)) (.lst []) s = .ok (.bl hs.isEmpty) s := fun s => by
        rw [v_nil hh.1 hh.2.1]
        cases hs <;> rfl
      have hd1 : decide (((d + 1 : Nat) : Int) > 0) = true := decide_eq_true (by omega)
      have hd2 : ((d + 1 : Nat) : Int) - 1 = (d : Int) := by omega
      have kk : c % 9 = 6 ∨ c % 9 = 7 := by omega
      rcases kk with k | k
      · have e : rowF ws (d + 1) hs c = .when (termF ws 1 (mixedF c 4)) (rowsOf (rowF ws d (fewF hs c)) (mixedF c 3) (1 + c / 9 % 3)) := by
          unfold rowF; rw [if_pos k]
        rw [e, Row.pv]
        simp -implicitDefEqProofs (disch := omega) only [x_raise, x_notL, end_ex, bind_ok, nox_ok, bind_ex, s_ex, sb_ex, s_ok, sb_nx, sb_rt, sb_ct, sb_bk, onB_bl, onBS_bl, x_var, x_c, x_bin, x_un, x_nil, x_cons, x_tup, x_lst, x_app, x_and, x_or, x_not, x_if, x_box, x_get, x_sl, x_onone, x_osome, x_snil, x_scons, x_set, x_expr, x_ret, x_retB, x_sif, x_bk, x_ct, x_aug, x_asg, x_gname, x_gnil, x_gcons, x_gtup, mkt0, mkl0, mkt1, mkl1, mkt2, mkl2, mkt3, mkl3, mkt4, mkl4, mkt5, mkl5, mkt6, mkl6, mkt7, mkl7, v_il0, v_it0, v_il1, v_it1, v_il2, v_it2, v_il3, v_it3, v_il4, v_it4, v_il5, v_it5, v_add, v_addI, v_sub, v_neg, v_mul, v_fdv, v_mod, v_cmp, v_eqs, v_nes, v_eqi, v_nei, v_eqb, v_ixc, opt_some, v_lenl, v_lent, v_lenc, v_tupt, v_tupl, v_intb, v_inti, v_max, v_isn, v_isnn, end_rt, end_nx, fz_int, fz_str, fz_bl, fz_non, List.getElem?_cons_zero, List.getElem?_cons_succ, List.set_cons_zero, List.set_cons_succ, List.length_cons, List.length_nil, List.take_length, Option.map_some, oldLoc, Bool.false_and, Bool.and_false, Bool.true_and, Bool.and_true, Bool.not_true, Bool.not_false, Bool.false_eq_true, decide_true, decide_false, decide_eq_true_eq, if_true, if_false, ↓reduceIte, Nat.reduceAdd, Nat.reduceLeDiff, hm, l1, v_word, v_few, v_few2, t1, hr', hd1, hd2, Int.reduceEq, Int.reduceLT, fz_tup, fzs_nil, fzs_cons, fz_tm, fz_pvs, k]
      · have e : rowF ws (d + 1) hs c = .again (cntF hs (d + 1) c) (rowsOf (rowF ws d (fewF hs c)) (mixedF c 3) (1 + c / 9 % 3)) := by
          unfold rowF; rw [if_neg (by omega), if_pos k]
        rw [e, Row.pv]
        unfold cntF
        cases he : hs.isEmpty with
        | false =>
          rw [if_neg (fun z => by cases z.1)]
          simp -implicitDefEqProofs (disch := omega) only [x_raise, x_notL, end_ex, bind_ok, nox_ok, bind_ex, s_ex, sb_ex, s_ok, sb_nx, sb_rt, sb_ct, sb_bk, onB_bl, onBS_bl, x_var, x_c, x_bin, x_un, x_nil, x_cons, x_tup, x_lst, x_app, x_and, x_or, x_not, x_if, x_box, x_get, x_sl, x_onone, x_osome, x_snil, x_scons, x_set, x_expr, x_ret, x_retB, x_sif, x_bk, x_ct, x_aug, x_asg, x_gname, x_gnil, x_gcons, x_gtup, mkt0, mkl0, mkt1, mkl1, mkt2, mkl2, mkt3, mkl3, mkt4, mkl4, mkt5, mkl5, mkt6, mkl6, mkt7, mkl7, v_il0, v_it0, v_il1, v_it1, v_il2, v_it2, v_il3, v_it3, v_il4, v_it4, v_il5, v_it5, v_add, v_addI, v_sub, v_neg, v_mul, v_fdv, v_mod, v_cmp, v_eqs, v_nes, v_eqi, v_nei, v_eqb, v_ixc, opt_some, v_lenl, v_lent, v_lenc, v_tupt, v_tupl, v_intb, v_inti, v_max, v_isn, v_isnn, end_rt, end_nx, fz_int, fz_str, fz_bl, fz_non, List.getElem?_cons_zero, List.getElem?_cons_succ, List.set_cons_zero, List.set_cons_succ, List.length_cons, List.length_nil, List.take_length, Option.map_some, oldLoc, Bool.false_and, Bool.and_false, Bool.true_and, Bool.and_true, Bool.not_true, Bool.not_false, Bool.false_eq_true, decide_true, decide_false, decide_eq_true_eq, if_true, if_false, ↓reduceIte, Nat.reduceAdd, Nat.reduceLeDiff, hm, l1, v_word, v_few, v_few2, hr', hd1, hd2, hnf, he, v_c4, Int.reduceEq, Int.reduceLT, fz_tup, fzs_nil, fzs_cons, fz_tm, fz_pvs, k]
        | true =>
          by_cases q : d + 1 = 2
          · have q' : decide (((d + 1 : Nat) : Int) = 2) = true := decide_eq_true (by omega)
            rw [if_pos ⟨rfl, q⟩]
            simp -implicitDefEqProofs (disch := omega) only [x_raise, x_notL, end_ex, bind_ok, nox_ok, bind_ex, s_ex, sb_ex, s_ok, sb_nx, sb_rt, sb_ct, sb_bk, onB_bl, onBS_bl, x_var, x_c, x_bin, x_un, x_nil, x_cons, x_tup, x_lst, x_app, x_and, x_or, x_not, x_if, x_box, x_get, x_sl, x_onone, x_osome, x_snil, x_scons, x_set, x_expr, x_ret, x_retB, x_sif, x_bk, x_ct, x_aug, x_asg, x_gname, x_gnil, x_gcons, x_gtup, mkt0, mkl0, mkt1, mkl1, mkt2, mkl2, mkt3, mkl3, mkt4, mkl4, mkt5, mkl5, mkt6, mkl6, mkt7, mkl7, v_il0, v_it0, v_il1, v_it1, v_il2, v_it2, v_il3, v_it3, v_il4, v_it4, v_il5, v_it5, v_add, v_addI, v_sub, v_neg, v_mul, v_fdv, v_mod, v_cmp, v_eqs, v_nes, v_eqi, v_nei, v_eqb, v_ixc, opt_some, v_lenl, v_lent, v_lenc, v_tupt, v_tupl, v_intb, v_inti, v_max, v_isn, v_isnn, end_rt, end_nx, fz_int, fz_str, fz_bl, fz_non, List.getElem?_cons_zero, List.getElem?_cons_succ, List.set_cons_zero, List.set_cons_succ, List.length_cons, List.length_nil, List.take_length, Option.map_some, oldLoc, Bool.false_and, Bool.and_false, Bool.true_and, Bool.and_true, Bool.not_true, Bool.not_false, Bool.false_eq_true, decide_true, decide_false, decide_eq_true_eq, if_true, if_false, ↓reduceIte, Nat.reduceAdd, Nat.reduceLeDiff, hm, l1, v_word, v_few, v_few2, hr', hd1, hd2, hnf, he, v_c4, v_c5, q', Int.reduceEq, Int.reduceLT, fz_tup, fzs_nil, fzs_cons, fz_tm, fz_pvs, k]
          · have q' : decide (((d + 1 : Nat) : Int) = 2) = false := decide_eq_false (by omega)
            rw [if_neg fun z => q z.2]
            simp -implicitDefEqProofs (disch := omega) only [x_raise, x_notL, end_ex, bind_ok, nox_ok, bind_ex, s_ex, sb_ex, s_ok, sb_nx, sb_rt, sb_ct, sb_bk, onB_bl, onBS_bl, x_var, x_c, x_bin, x_un, x_nil, x_cons, x_tup, x_lst, x_app, x_and, x_or, x_not, x_if, x_box, x_get, x_sl, x_onone, x_osome, x_snil, x_scons, x_set, x_expr, x_ret, x_retB, x_sif, x_bk, x_ct, x_aug, x_asg, x_gname, x_gnil, x_gcons, x_gtup, mkt0, mkl0, mkt1, mkl1, mkt2, mkl2, mkt3, mkl3, mkt4, mkl4, mkt5, mkl5, mkt6, mkl6, mkt7, mkl7, v_il0, v_it0, v_il1, v_it1, v_il2, v_it2, v_il3, v_it3, v_il4, v_it4, v_il5, v_it5, v_add, v_addI, v_sub, v_neg, v_mul, v_fdv, v_mod, v_cmp, v_eqs, v_nes, v_eqi, v_nei, v_eqb, v_ixc, opt_some, v_lenl, v_lent, v_lenc, v_tupt, v_tupl, v_intb, v_inti, v_max, v_isn, v_isnn, end_rt, end_nx, fz_int, fz_str, fz_bl, fz_non, List.getElem?_cons_zero, List.getElem?_cons_succ, List.set_cons_zero, List.set_cons_succ, List.length_cons, List.length_nil, List.take_length, Option.map_some, oldLoc, Bool.false_and, Bool.and_false, Bool.true_and, Bool.and_true, Bool.not_true, Bool.not_false, Bool.false_eq_true, decide_true, decide_false, decide_eq_true_eq, if_true, if_false, ↓reduceIte, Nat.reduceAdd, Nat.reduceLeDiff, hm, l1, v_word, v_few, v_few2, hr', hd1, hd2, hnf, he, v_c4, v_c5, q', Int.reduceEq, Int.reduceLT, fz_tup, fzs_nil, fzs_cons, fz_tm, fz_pvs, k]
end Lk


namespace Lk
open PySem L2 Vm
def p6 (i : Int) : Int := if i = 0 then 0 else if i = 1 then 1 else if i = 2 then 2 else if i = 3 then 2 else if i = 4 then 3 else 4
def m6 (i : Int) : Int := if i = 0 then 3 else if i = 1 then 4 else if i = 2 then 2 else if i = 3 then 5 else if i = 4 then 0 else 6
theorem p6_r (i : Int) : 0 ≤ p6 i ∧ p6 i ≤ 4 := by unfold p6; split <;> (try split) <;> (try split) <;> (try split) <;> (try split) <;> omega
theorem m6_r (i : Int) : 0 ≤ m6 i ∧ m6 i ≤ 6 := by unfold m6; split <;> (try split) <;> (try split) <;> (try split) <;> (try split) <;> omega
theorem v_p6 {i : Int} {st : VSt} (h0 : 0 ≤ i) (h1 : i < 6) : vIx (.lst [.int 0, .int 1, .int 2, .int 2, .int 3, .int 4]) (.int i) st = .ok (.int (p6 i)) st := by
  have : i = 0 ∨ i = 1 ∨ i = 2 ∨ i = 3 ∨ i = 4 ∨ i = 5 := by omega
  rcases this with rfl | rfl | rfl | rfl | rfl | rfl
  · exact v_il0
  · exact v_il1
  · exact v_il2
  · exact v_il3
  · exact v_il4
  · exact v_il5
theorem v_m6 {i : Int} {st : VSt} (h0 : 0 ≤ i) (h1 : i < 6) : vIx (.lst [.int 3, .int 4, .int 2, .int 5, .int 0, .int 6]) (.int i) st = .ok (.int (m6 i)) st := by
  have : i = 0 ∨ i = 1 ∨ i = 2 ∨ i = 3 ∨ i = 4 ∨ i = 5 := by omega
  rcases this with rfl | rfl | rfl | rfl | rfl | rfl
  · exact v_il0
  · exact v_il1
  · exact v_il2
  · exact v_il3
  · exact v_il4
  · exact v_il5
def manyF (c : Int) : Int := if c / 180 % 12 = 1 then c / 2160 % 30 else m6 (c / 30 % 6)
theorem manyF_r (c : Int) : 0 ≤ manyF c ∧ manyF c ≤ 30 := by
  have := m6_r (c / 30 % 6)
  unfold manyF
  split <;> omega
def parsF (ws : List Str) (c : Int) : List Str := (List.range (p6 (c % 6)).toNat).map fun (k : Nat) => ws.getD ((c / 6 % (ws.length : Int) + 2 * (k : Int)) % (ws.length : Int)).toNat ""
def functionF (ws : List Str) (hs : List Fnc) (x : Str) (c : Int) : Fnc :=
  ⟨x, parsF ws c, if manyF c > 6 then rowsOf (rowF ws 1 []) (mixedF c 5) (manyF c) else rowsOf (rowF ws 2 hs) (mixedF c 5) (manyF c), termF ws 1 (mixedF c 6)⟩
theorem HsOk.nil : HsOk [] := ⟨rfl, by decide, fun h z => by cases z⟩
theorem F_function {ws : List Str} {hs : List Fnc} (hw : 0 < ws.length) (hh : HsOk hs) (n : Nat) (c : Int) (x : Str) (st : VSt) :
    Fm D (n + 14) i__law_function [.int c, .str x, .lst (ws.map PV.str), .lst (hs.map Fnc.pv)] st = .ok (functionF ws hs x c).pv st := by
  rw [c__law_function]
  unfold b__law_function
  have l1 : ((ws.map PV.str).length : Int) = (ws.length : Int) := by rw [List.length_map]
  have hm : ∀ (a k : Int) (s : VSt), Fm D (n + 13) i__law_mixed [.int a, .int k] s = .ok (.int (mixedF a k)) s := fun a k s => F_mixed (n + 12) a k s
  have t1 : ∀ (a : Int) (s : VSt), Fm D (n + 13) i__law_term [.int a, .lst (ws.map PV.str), .int 1] s = .ok (termF ws 1 a).pv s := fun a s => F_term hw 1 (n + 10) a s
  have r2 : ∀ (a m : Int) (s : VSt), 0 ≤ m → m ≤ 1000 → Fm D (n + 13) i__law_rows [.int a, .lst (ws.map PV.str), .lst (hs.map Fnc.pv), .int 2, .int m] s = .ok (.tup (Row.pvs (rowsOf (rowF ws 2 hs) a m))) s := fun a m s h0 h1 =>
    F_rows (n := n + 11) (fun c' s' => F_row hw 2 n hs c' s' hh) a m h0 h1 s
  have r1 : ∀ (a m : Int) (s : VSt), 0 ≤ m → m ≤ 1000 → Fm D (n + 13) i__law_rows [.int a, .lst (ws.map PV.str), .lst [], .int 1, .int m] s = .ok (.tup (Row.pvs (rowsOf (rowF ws 1 []) a m))) s := fun a m s h0 h1 =>
    F_rows (n := n + 11) (Hs := .lst (([] : List Fnc).map Fnc.pv)) (fun c' s' => F_row hw 1 (n + 2) [] c' s' .nil) a m h0 h1 s
  have mr := manyF_r c
  have pr' := p6_r (c % 6)
  have fz : ∀ f : Fnc, freeze st st.length f.pv = f.pv := fun f => freeze_pure _ f.pure
  have e5 : (List.range (p6 (c % 6)).toNat).map (fun (k : Nat) => PV.str (ws.getD ((c / 6 % (ws.length : Int) + 2 * (k : Int)) % (ws.length : Int)).toNat "")) = (parsF ws c).map PV.str := by
    unfold parsF; rw [List.map_map]; rfl
  have hp : ∀ (env : VEnv) (s : VSt), env[0]? = some (some (.int c)) → env[2]? = some (some (.lst (ws.map PV.str))) → env[4]? = some (some (.int (c / 6 % (ws.length : Int)))) → 8 < env.length →
      eComp (iRng1' (eBin vIx (eLst (aCons (eC (.int 0)) (aCons (eC (.int 1)) (aCons (eC (.int 2)) (aCons (eC (.int 2)) (aCons (eC (.int 3)) (aCons (eC (.int 4)) aNil))))))) (eBin vMod (eVar 0) (eC (.int 6))))) (gName 8) tTrue (eBin vIx (eVar 2) (eBin vMod (eBin vAdd (eVar 4) (eBin vMul (eC (.int 2)) (eVar 8))) (eApp vLen (aCons (eVar 2) aNil)))) [8] env s = .ok (.lst ((parsF ws c).map PV.str)) s := fun env s v0 v2 v4 v8 => by
    rw [comp_rng (m := p6 (c % 6)) (f := fun k => .str (ws.getD ((c / 6 % (ws.length : Int) + 2 * (k : Int)) % (ws.length : Int)).toNat "")) (by
      simp -implicitDefEqProofs (disch := omega) only [x_raise, x_notL, end_ex, bind_ok, nox_ok, bind_ex, s_ex, sb_ex, s_ok, sb_nx, sb_rt, sb_ct, sb_bk, onB_bl, onBS_bl, x_var, x_c, x_bin, x_un, x_nil, x_cons, x_tup, x_lst, x_app, x_and, x_or, x_not, x_if, x_box, x_get, x_sl, x_onone, x_osome, x_snil, x_scons, x_set, x_expr, x_ret, x_retB, x_sif, x_bk, x_ct, x_aug, x_asg, x_gname, x_gnil, x_gcons, x_gtup, mkt0, mkl0, mkt1, mkl1, mkt2, mkl2, mkt3, mkl3, mkt4, mkl4, mkt5, mkl5, mkt6, mkl6, mkt7, mkl7, v_il0, v_it0, v_il1, v_it1, v_il2, v_it2, v_il3, v_it3, v_il4, v_it4, v_il5, v_it5, v_add, v_addI, v_sub, v_neg, v_mul, v_fdv, v_mod, v_cmp, v_eqs, v_nes, v_eqi, v_nei, v_eqb, v_ixc, opt_some, v_lenl, v_lent, v_lenc, v_tupt, v_tupl, v_intb, v_inti, v_max, v_isn, v_isnn, end_rt, end_nx, fz_int, fz_str, fz_bl, fz_non, List.getElem?_cons_zero, List.getElem?_cons_succ, List.set_cons_zero, List.set_cons_succ, List.length_cons, List.length_nil, List.take_length, Option.map_some, oldLoc, Bool.false_and, Bool.and_false, Bool.true_and, Bool.and_true, Bool.not_true, Bool.not_false, Bool.false_eq_true, decide_true, decide_false, decide_eq_true_eq, if_true, if_false, ↓reduceIte, Nat.reduceAdd, Nat.reduceLeDiff, v0, v_p6]) (by omega) (by omega) (fun k hk => by
      have q0 : 0 ≤ (c / 6 % (ws.length : Int) + 2 * (k : Int)) % (ws.length : Int) := Int.emod_nonneg _ (by omega)
      have q1 : (c / 6 % (ws.length : Int) + 2 * (k : Int)) % (ws.length : Int) < ws.length := Int.emod_lt_of_pos _ (by omega)
      have w8 : (env.set 8 (some (.int (k : Int))))[8]? = some (some (.int (k : Int))) := List.getElem?_set_self v8
      have w2 : (env.set 8 (some (.int (k : Int))))[2]? = some (some (.lst (ws.map PV.str))) := by rw [List.getElem?_set_ne (by decide)]; exact v2
      have w4 : (env.set 8 (some (.int (k : Int))))[4]? = some (some (.int (c / 6 % (ws.length : Int)))) := by rw [List.getElem?_set_ne (by decide)]; exact v4
      simp -implicitDefEqProofs (disch := omega) only [x_raise, x_notL, end_ex, bind_ok, nox_ok, bind_ex, s_ex, sb_ex, s_ok, sb_nx, sb_rt, sb_ct, sb_bk, onB_bl, onBS_bl, x_var, x_c, x_bin, x_un, x_nil, x_cons, x_tup, x_lst, x_app, x_and, x_or, x_not, x_if, x_box, x_get, x_sl, x_onone, x_osome, x_snil, x_scons, x_set, x_expr, x_ret, x_retB, x_sif, x_bk, x_ct, x_aug, x_asg, x_gname, x_gnil, x_gcons, x_gtup, mkt0, mkl0, mkt1, mkl1, mkt2, mkl2, mkt3, mkl3, mkt4, mkl4, mkt5, mkl5, mkt6, mkl6, mkt7, mkl7, v_il0, v_it0, v_il1, v_it1, v_il2, v_it2, v_il3, v_it3, v_il4, v_it4, v_il5, v_it5, v_add, v_addI, v_sub, v_neg, v_mul, v_fdv, v_mod, v_cmp, v_eqs, v_nes, v_eqi, v_nei, v_eqb, v_ixc, opt_some, v_lenl, v_lent, v_lenc, v_tupt, v_tupl, v_intb, v_inti, v_max, v_isn, v_isnn, end_rt, end_nx, fz_int, fz_str, fz_bl, fz_non, List.getElem?_cons_zero, List.getElem?_cons_succ, List.set_cons_zero, List.set_cons_succ, List.length_cons, List.length_nil, List.take_length, Option.map_some, oldLoc, Bool.false_and, Bool.and_false, Bool.true_and, Bool.and_true, Bool.not_true, Bool.not_false, Bool.false_eq_true, decide_true, decide_false, decide_eq_true_eq, if_true, if_false, ↓reduceIte, Nat.reduceAdd, Nat.reduceLeDiff, w8, w2, w4, l1, v_word]), e5]
  have hp' : ∀ s, _ := fun s => hp [some (.int c), some (.str x), some (.lst (ws.map PV.str)), some (.lst (hs.map Fnc.pv)), some (.int (c / 6 % (ws.length : Int))), none, none, none, none] s rfl rfl rfl (Nat.lt_succ_self 8)
  by_cases km : c / 180 % 12 = 1
  · have km' : decide (c / 180 % 12 = 1) = true := decide_eq_true km
    have em : manyF c = c / 2160 % 30 := by unfold manyF; rw [if_pos km]
    by_cases kg : c / 2160 % 30 > 6
    · have kg' : decide (c / 2160 % 30 > 6) = true := decide_eq_true kg
      have e : functionF ws hs x c = ⟨x, parsF ws c, rowsOf (rowF ws 1 []) (mixedF c 5) (c / 2160 % 30), termF ws 1 (mixedF c 6)⟩ := by unfold functionF; rw [em, if_pos kg]
      have fz' := fz (functionF ws hs x c)
      rw [e, Fnc.pv] at fz'
      rw [e, Fnc.pv]
      simp -implicitDefEqProofs (disch := omega) only [x_raise, x_notL, end_ex, bind_ok, nox_ok, bind_ex, s_ex, sb_ex, s_ok, sb_nx, sb_rt, sb_ct, sb_bk, onB_bl, onBS_bl, x_var, x_c, x_bin, x_un, x_nil, x_cons, x_tup, x_lst, x_app, x_and, x_or, x_not, x_if, x_box, x_get, x_sl, x_onone, x_osome, x_snil, x_scons, x_set, x_expr, x_ret, x_retB, x_sif, x_bk, x_ct, x_aug, x_asg, x_gname, x_gnil, x_gcons, x_gtup, mkt0, mkl0, mkt1, mkl1, mkt2, mkl2, mkt3, mkl3, mkt4, mkl4, mkt5, mkl5, mkt6, mkl6, mkt7, mkl7, v_il0, v_it0, v_il1, v_it1, v_il2, v_it2, v_il3, v_it3, v_il4, v_it4, v_il5, v_it5, v_add, v_addI, v_sub, v_neg, v_mul, v_fdv, v_mod, v_cmp, v_eqs, v_nes, v_eqi, v_nei, v_eqb, v_ixc, opt_some, v_lenl, v_lent, v_lenc, v_tupt, v_tupl, v_intb, v_inti, v_max, v_isn, v_isnn, end_rt, end_nx, fz_int, fz_str, fz_bl, fz_non, List.getElem?_cons_zero, List.getElem?_cons_succ, List.set_cons_zero, List.set_cons_succ, List.length_cons, List.length_nil, List.take_length, Option.map_some, oldLoc, Bool.false_and, Bool.and_false, Bool.true_and, Bool.and_true, Bool.not_true, Bool.not_false, Bool.false_eq_true, decide_true, decide_false, decide_eq_true_eq, if_true, if_false, ↓reduceIte, Nat.reduceAdd, Nat.reduceLeDiff, l1, hp', km, kg, kg', v_m6, hm, r1, t1, Int.reduceSub, fz', List.map_nil]
    · have kg' : decide (c / 2160 % 30 > 6) = false := decide_eq_false kg
      have e : functionF ws hs x c = ⟨x, parsF ws c, rowsOf (rowF ws 2 hs) (mixedF c 5) (c / 2160 % 30), termF ws 1 (mixedF c 6)⟩ := by unfold functionF; rw [em, if_neg kg]
      have fz' := fz (functionF ws hs x c)
      rw [e, Fnc.pv] at fz'
      rw [e, Fnc.pv]
      simp -implicitDefEqProofs (disch := omega) only [x_raise, x_notL, end_ex, bind_ok, nox_ok, bind_ex, s_ex, sb_ex, s_ok, sb_nx, sb_rt, sb_ct, sb_bk, onB_bl, onBS_bl, x_var, x_c, x_bin, x_un, x_nil, x_cons, x_tup, x_lst, x_app, x_and, x_or, x_not, x_if, x_box, x_get, x_sl, x_onone, x_osome, x_snil, x_scons, x_set, x_expr, x_ret, x_retB, x_sif, x_bk, x_ct, x_aug, x_asg, x_gname, x_gnil, x_gcons, x_gtup, mkt0, mkl0, mkt1, mkl1, mkt2, mkl2, mkt3, mkl3, mkt4, mkl4, mkt5, mkl5, mkt6, mkl6, mkt7, mkl7, v_il0, v_it0, v_il1, v_it1, v_il2, v_it2, v_il3, v_it3, v_il4, v_it4, v_il5, v_it5, v_add, v_addI, v_sub, v_neg, v_mul, v_fdv, v_mod, v_cmp, v_eqs, v_nes, v_eqi, v_nei, v_eqb, v_ixc, opt_some, v_lenl, v_lent, v_lenc, v_tupt, v_tupl, v_intb, v_inti, v_max, v_isn, v_isnn, end_rt, end_nx, fz_int, fz_str, fz_bl, fz_non, List.getElem?_cons_zero, List.getElem?_cons_succ, List.set_cons_zero, List.set_cons_succ, List.length_cons, List.length_nil, List.take_length, Option.map_some, oldLoc, Bool.false_and, Bool.and_false, Bool.true_and, Bool.and_true, Bool.not_true, Bool.not_false, Bool.false_eq_true, decide_true, decide_false, decide_eq_true_eq, if_true, if_false, ↓reduceIte, Nat.reduceAdd, Nat.reduceLeDiff, l1, hp', km, kg', v_m6, hm, r2, t1, Int.sub_zero, fz']
  · have km' : decide (c / 180 % 12 = 1) = false := decide_eq_false km
    have em : manyF c = m6 (c / 30 % 6) := by unfold manyF; rw [if_neg km]
    have mm := m6_r (c / 30 % 6)
    have kg : ¬ m6 (c / 30 % 6) > 6 := by omega
    have kg' : decide (m6 (c / 30 % 6) > 6) = false := decide_eq_false kg
    have e : functionF ws hs x c = ⟨x, parsF ws c, rowsOf (rowF ws 2 hs) (mixedF c 5) (m6 (c / 30 % 6)), termF ws 1 (mixedF c 6)⟩ := by unfold functionF; rw [em, if_neg kg]
    have fz' := fz (functionF ws hs x c)
    rw [e, Fnc.pv] at fz'
    rw [e, Fnc.pv]
    simp -implicitDefEqProofs (disch := omega) only [x_raise, x_notL, end_ex, bind_ok, nox_ok, bind_ex, s_ex, sb_ex, s_ok, sb_nx, sb_rt, sb_ct, sb_bk, onB_bl, onBS_bl, x_var, x_c, x_bin, x_un, x_nil, x_cons, x_tup, x_lst, x_app, x_and, x_or, x_not, x_if, x_box, x_get, x_sl, x_onone, x_osome, x_snil, x_scons, x_set, x_expr, x_ret, x_retB, x_sif, x_bk, x_ct, x_aug, x_asg, x_gname, x_gnil, x_gcons, x_gtup, mkt0, mkl0, mkt1, mkl1, mkt2, mkl2, mkt3, mkl3, mkt4, mkl4, mkt5, mkl5, mkt6, mkl6, mkt7, mkl7, v_il0, v_it0, v_il1, v_it1, v_il2, v_it2, v_il3, v_it3, v_il4, v_it4, v_il5, v_it5, v_add, v_addI, v_sub, v_neg, v_mul, v_fdv, v_mod, v_cmp, v_eqs, v_nes, v_eqi, v_nei, v_eqb, v_ixc, opt_some, v_lenl, v_lent, v_lenc, v_tupt, v_tupl, v_intb, v_inti, v_max, v_isn, v_isnn, end_rt, end_nx, fz_int, fz_str, fz_bl, fz_non, List.getElem?_cons_zero, List.getElem?_cons_succ, List.set_cons_zero, List.set_cons_succ, List.length_cons, List.length_nil, List.take_length, Option.map_some, oldLoc, Bool.false_and, Bool.and_false, Bool.true_and, Bool.and_true, Bool.not_true, Bool.not_false, Bool.false_eq_true, decide_true, decide_false, decide_eq_true_eq, if_true, if_false, ↓reduceIte, Nat.reduceAdd, Nat.reduceLeDiff, l1, hp', km', kg', v_m6, hm, r2, t1, Int.sub_zero, fz']
end Lk


namespace Lk
open PySem L2 Vm
/-! ## what a drawn program is like: its texts, its depth -/
abbrev OkT : Str → Prop := fun x => PyData.strOk x = true
theorem good_mono {ok ok' : Str → Prop} (h : ∀ x, ok x → ok' x) : ∀ {t : Trm}, t.Good ok → t.Good ok'
  | .num _, g => g
  | .name x, g => h x g
  | .bin _ _ _, g => ⟨g.1, good_mono h g.2.1, good_mono h g.2.2⟩
mutual
def Row.Gd : Row → Prop
  | .set x t => OkT x ∧ t.Good OkT ∧ t.depth ≤ 2
  | .tell t => t.Good OkT ∧ t.depth ≤ 2
  | .call x f ts => (∀ y, x = some y → OkT y) ∧ OkT f ∧ ∀ t ∈ ts, t.Good OkT ∧ t.depth ≤ 2
  | .when t rs => t.Good OkT ∧ t.depth ≤ 2 ∧ Row.Gds rs
  | .again n rs => 0 ≤ n ∧ n < 10 ∧ Row.Gds rs
def Row.Gds : List Row → Prop
  | [] => True
  | r :: rs => r.Gd ∧ Row.Gds rs
end
mutual
def Row.lvl : Row → Nat
  | .when _ rs => Row.lvls rs + 1
  | .again _ rs => Row.lvls rs + 1
  | _ => 0
def Row.lvls : List Row → Nat
  | [] => 0
  | r :: rs => max r.lvl (Row.lvls rs)
end
theorem gds_all {rs : List Row} (h : ∀ r ∈ rs, r.Gd) : Row.Gds rs := by
  induction rs with
  | nil => unfold Row.Gds; trivial
  | cons r rs ih =>
    unfold Row.Gds
    exact ⟨h r List.mem_cons_self, ih fun x hx => h x (List.mem_cons_of_mem _ hx)⟩
theorem lvls_le {rs : List Row} {n : Nat} (h : ∀ r ∈ rs, r.lvl ≤ n) : Row.lvls rs ≤ n := by
  induction rs with
  | nil => unfold Row.lvls; exact Nat.zero_le _
  | cons r rs ih =>
    unfold Row.lvls
    exact Nat.max_le.mpr ⟨h r List.mem_cons_self, ih fun x hx => h x (List.mem_cons_of_mem _ hx)⟩
theorem sok_strs : ∀ xs : List Str, (∀ x ∈ xs, OkT x) → soks (xs.map PV.str) = true
  | [], _ => rfl
  | x :: xs, h => by
    show (PyData.strOk x && soks (xs.map PV.str)) = true
    rw [h x List.mem_cons_self, sok_strs xs fun y hy => h y (List.mem_cons_of_mem _ hy)]; rfl
theorem dep_str : ∀ xs : List Str, deps (xs.map PV.str) = 0
  | [] => rfl
  | x :: xs => by
    show max 0 (deps (xs.map PV.str)) = 0
    rw [dep_str xs]; rfl
theorem opS_ok (k : Nat) : PyData.strOk (opS k) = true := by
  rcases k with _ | _ | k
  · decide +kernel
  · decide +kernel
  · show PyData.strOk ("times" : Str) = true
    decide +kernel
theorem sok_num : PyData.strOk ("num" : Str) = true := by decide +kernel
theorem sok_name : PyData.strOk ("name" : Str) = true := by decide +kernel
theorem sok_set : PyData.strOk ("set" : Str) = true := by decide +kernel
theorem sok_tell : PyData.strOk ("tell" : Str) = true := by decide +kernel
theorem sok_call : PyData.strOk ("call" : Str) = true := by decide +kernel
theorem sok_when : PyData.strOk ("when" : Str) = true := by decide +kernel
theorem sok_again : PyData.strOk ("again" : Str) = true := by decide +kernel
theorem sok_trm : ∀ t : Trm, t.Good OkT → sokP t.pv = true
  | .num n, _ => by
    show (PyData.strOk "num" && (true && true)) = true
    rw [sok_num]; rfl
  | .name x, g => by
    show (PyData.strOk "name" && (PyData.strOk x && true)) = true
    rw [sok_name, show PyData.strOk x = true from g]; rfl
  | .bin k a b, g => by
    show (PyData.strOk (opS k) && (sokP a.pv && (sokP b.pv && true))) = true
    rw [opS_ok, sok_trm a g.2.1, sok_trm b g.2.2]; rfl
theorem dep_trm : ∀ t : Trm, depP t.pv = t.depth + 1
  | .num n => rfl
  | .name x => rfl
  | .bin k a b => by
    show max 0 (max (depP a.pv) (max (depP b.pv) 0)) + 1 = max a.depth b.depth + 1 + 1
    rw [dep_trm a, dep_trm b]; omega
theorem sok_trms : ∀ ts : List Trm, (∀ t ∈ ts, t.Good OkT ∧ t.depth ≤ 2) → soks (ts.map Trm.pv) = true ∧ deps (ts.map Trm.pv) ≤ 3
  | [], _ => ⟨rfl, Nat.zero_le _⟩
  | t :: ts, h => by
    obtain ⟨h1, h2⟩ := sok_trms ts fun y hy => h y (List.mem_cons_of_mem _ hy)
    obtain ⟨g, d⟩ := h t List.mem_cons_self
    refine ⟨?_, ?_⟩
    · show (sokP t.pv && soks (ts.map Trm.pv)) = true
      rw [sok_trm t g, h1]; rfl
    · show max (depP t.pv) (deps (ts.map Trm.pv)) ≤ 3
      rw [dep_trm]; omega
mutual
theorem Row.sok : ∀ r : Row, r.Gd → sokP r.pv = true ∧ depP r.pv ≤ 5 + 2 * r.lvl
  | .set x t, g => by
    unfold Row.Gd at g
    rw [Row.pv]
    refine ⟨?_, ?_⟩
    · show (PyData.strOk "set" && (PyData.strOk x && (sokP t.pv && true))) = true
      rw [sok_set, show PyData.strOk x = true from g.1, sok_trm t g.2.1]; rfl
    · show max 0 (max 0 (max (depP t.pv) 0)) + 1 ≤ _
      rw [dep_trm]; omega
  | .tell t, g => by
    unfold Row.Gd at g
    rw [Row.pv]
    refine ⟨?_, ?_⟩
    · show (PyData.strOk "tell" && (sokP t.pv && true)) = true
      rw [sok_tell, sok_trm t g.1]; rfl
    · show max 0 (max (depP t.pv) 0) + 1 ≤ _
      rw [dep_trm]; omega
  | .call x f ts, g => by
    unfold Row.Gd at g
    rw [Row.pv]
    obtain ⟨s1, s2⟩ := sok_trms ts g.2.2
    refine ⟨?_, ?_⟩
    · show (PyData.strOk "call" && (sokP (optS x) && (PyData.strOk f && (Vm.soks (ts.map Trm.pv) && true)))) = true
      have so : sokP (optS x) = true := by
        cases x with
        | none => rfl
        | some y => exact g.1 y rfl
      rw [sok_call, so, show PyData.strOk f = true from g.2.1, s1]; rfl
    · have dx : depP (optS x) = 0 := by cases x <;> rfl
      show max 0 (max (depP (optS x)) (max 0 (max (deps (ts.map Trm.pv) + 1) 0))) + 1 ≤ _
      rw [dx]; omega
  | .when t rs, g => by
    unfold Row.Gd at g
    obtain ⟨s1, s2⟩ := Row.soks rs g.2.2
    rw [Row.pv, Row.lvl]
    refine ⟨?_, ?_⟩
    · show (PyData.strOk "when" && (sokP t.pv && (Vm.soks (Row.pvs rs) && true))) = true
      rw [sok_when, sok_trm t g.1, s1]; rfl
    · show max 0 (max (depP t.pv) (max (deps (Row.pvs rs) + 1) 0)) + 1 ≤ _
      rw [dep_trm]; omega
  | .again n rs, g => by
    unfold Row.Gd at g
    obtain ⟨s1, s2⟩ := Row.soks rs g.2.2
    rw [Row.pv, Row.lvl]
    refine ⟨?_, ?_⟩
    · show (PyData.strOk "again" && (true && (Vm.soks (Row.pvs rs) && true))) = true
      rw [sok_again, s1]; rfl
    · show max 0 (max 0 (max (deps (Row.pvs rs) + 1) 0)) + 1 ≤ _
      omega
theorem Row.soks : ∀ rs : List Row, Row.Gds rs → Vm.soks (Row.pvs rs) = true ∧ deps (Row.pvs rs) ≤ 5 + 2 * Row.lvls rs
  | [], _ => by
    rw [Row.pvs]
    exact ⟨rfl, Nat.zero_le _⟩
  | r :: rs, g => by
    unfold Row.Gds at g
    obtain ⟨a1, a2⟩ := r.sok g.1
    obtain ⟨b1, b2⟩ := Row.soks rs g.2
    rw [Row.pvs, Row.lvls]
    refine ⟨?_, ?_⟩
    · show (sokP r.pv && Vm.soks (Row.pvs rs)) = true
      rw [a1, b1]; rfl
    · show max (depP r.pv) (deps (Row.pvs rs)) ≤ _
      omega
end
structure Fnc.Gd (f : Fnc) : Prop where
  nm : OkT f.name
  ps : ∀ x ∈ f.pars, OkT x
  pl : f.pars.length ≤ 1000
  rs : Row.Gds f.rows
  lv : Row.lvls f.rows ≤ 9
  rt : f.res.Good OkT ∧ f.res.depth ≤ 2
theorem Fnc.sok (f : Fnc) (g : f.Gd) : sokP f.pv = true ∧ depP f.pv ≤ 30 := by
  obtain ⟨s1, s2⟩ := Row.soks f.rows g.rs
  have lv := g.lv
  have rd := g.rt.2
  unfold Fnc.pv
  refine ⟨?_, ?_⟩
  · show (PyData.strOk f.name && (Vm.soks (f.pars.map PV.str) && (Vm.soks (Row.pvs f.rows) && (sokP f.res.pv && true)))) = true
    rw [show PyData.strOk f.name = true from g.nm, sok_strs f.pars g.ps, s1, sok_trm _ g.rt.1]; rfl
  · show max 0 (max (deps (f.pars.map PV.str) + 1) (max (deps (Row.pvs f.rows) + 1) (max (depP f.res.pv) 0))) + 1 ≤ _
    rw [dep_str, dep_trm]; omega
theorem fncs_sok : ∀ hs : List Fnc, (∀ h ∈ hs, h.Gd) → soks (hs.map Fnc.pv) = true ∧ deps (hs.map Fnc.pv) ≤ 30
  | [], _ => ⟨rfl, Nat.zero_le _⟩
  | h :: hs, g => by
    obtain ⟨a1, a2⟩ := h.sok (g h List.mem_cons_self)
    obtain ⟨b1, b2⟩ := fncs_sok hs fun y hy => g y (List.mem_cons_of_mem _ hy)
    refine ⟨?_, ?_⟩
    · show (sokP h.pv && soks (hs.map Fnc.pv)) = true
      rw [a1, b1]; rfl
    · show max (depP h.pv) (deps (hs.map Fnc.pv)) ≤ 30
      omega
theorem hsOk_of {hs : List Fnc} (g : ∀ h ∈ hs, h.Gd) : HsOk hs := by
  obtain ⟨a, b⟩ := fncs_sok hs g
  exact ⟨a, by omega, fun h hh => (g h hh).pl⟩
end Lk


namespace Lk
open PySem L2 Vm
theorem getD_ok {α : Type} {P : α → Prop} {l : List α} {d : α} (h : ∀ x ∈ l, P x) (hd : P d) (i : Nat) : P (l.getD i d) := by
  rw [List.getD_eq_getElem?_getD]
  cases e : l[i]? with
  | none => exact hd
  | some x => exact h x (List.mem_of_getElem? e)
theorem ok_nil : OkT "" := by decide +kernel
theorem gd_none : noFnc.Gd where
  nm := ok_nil
  ps := fun x h => by cases h
  pl := Nat.zero_le _
  rs := by unfold noFnc Row.Gds; trivial
  lv := by unfold noFnc Row.lvls; exact Nat.zero_le _
  rt := ⟨⟨by decide, by decide⟩, Nat.zero_le _⟩
section
variable {ws : List Str} (hw : 0 < ws.length) (ho : ∀ x ∈ ws, OkT x)
include hw ho
theorem gd_term (d : Nat) (c : Int) (h : d ≤ 2) : (termF ws d c).Good OkT ∧ (termF ws d c).depth ≤ 2 :=
  ⟨good_mono ho (term_good hw d c), Nat.le_trans (term_depth ws d c) h⟩
theorem gd_given (x : Str) (hx : OkT x) (c : Int) : (givenF ws x c).Good OkT ∧ (givenF ws x c).depth ≤ 2 := by
  unfold givenF
  split
  · exact ⟨hx, Nat.zero_le _⟩
  · exact gd_term hw ho 1 _ (by omega)
theorem gd_call {hs : List Fnc} (g : ∀ h ∈ hs, h.Gd) (c : Int) : (callF ws hs c).Gd := by
  have gh : (headF hs c).Gd := getD_ok g gd_none _
  unfold callF Row.Gd
  refine ⟨fun y hy => ?_, gh.nm, fun t ht => ?_⟩
  · split at hy
    · cases hy
    · obtain rfl := Option.some.inj hy
      exact getD_ok ho ok_nil _
  · obtain ⟨k, _, rfl⟩ := List.mem_map.mp ht
    exact gd_given hw ho _ (getD_ok gh.ps ok_nil _) _
theorem gd_flat {hs : List Fnc} (g : ∀ h ∈ hs, h.Gd) (c : Int) : (flatF ws hs c).Gd ∧ (flatF ws hs c).lvl = 0 := by
  unfold flatF
  split
  · exact ⟨by unfold Row.Gd; exact gd_term hw ho 2 _ (by omega), by unfold Row.lvl; exact Eq.trans rfl rfl⟩
  · split
    · exact ⟨gd_call hw ho g _, by unfold callF Row.lvl; exact Eq.trans rfl rfl⟩
    · exact ⟨by unfold Row.Gd; exact ⟨getD_ok ho ok_nil _, gd_term hw ho _ _ (by omega)⟩, by unfold Row.lvl; exact Eq.trans rfl rfl⟩
theorem few_gd {hs : List Fnc} (g : ∀ h ∈ hs, h.Gd) (c : Int) : ∀ h ∈ fewF hs c, h.Gd := fun h hh => g h (List.mem_of_mem_take hh)
theorem cnt_r (hs : List Fnc) (d : Nat) (c : Int) : 0 ≤ cntF hs d c ∧ cntF hs d c < 10 := by
  unfold cntF c5 c4
  split
  · split
    · omega
    · split
      · omega
      · split
        · omega
        · split <;> omega
  · split
    · omega
    · split
      · omega
      · split <;> omega
theorem gd_row : ∀ (d : Nat) {hs : List Fnc}, (∀ h ∈ hs, h.Gd) → ∀ c : Int, (rowF ws d hs c).Gd ∧ (rowF ws d hs c).lvl ≤ d
  | 0, hs, g, c => by
    have := gd_flat hw ho g c
    unfold rowF
    exact ⟨this.1, by rw [this.2]; exact Nat.le_refl _⟩
  | d + 1, hs, g, c => by
    have ih := gd_row d (few_gd hw ho g c)
    have g1 : Row.Gds (rowsOf (rowF ws d (fewF hs c)) (mixedF c 3) (1 + c / 9 % 3)) := gds_all fun r hr => by
      obtain ⟨k, _, rfl⟩ := List.mem_map.mp hr
      exact (ih _).1
    have g2 : Row.lvls (rowsOf (rowF ws d (fewF hs c)) (mixedF c 3) (1 + c / 9 % 3)) ≤ d := lvls_le fun r hr => by
      obtain ⟨k, _, rfl⟩ := List.mem_map.mp hr
      exact (ih _).2
    unfold rowF
    split
    · refine ⟨?_, ?_⟩
      · unfold Row.Gd
        exact ⟨(gd_term hw ho 1 _ (by omega)).1, (gd_term hw ho 1 _ (by omega)).2, g1⟩
      · unfold Row.lvl
        omega
    · split
      · refine ⟨?_, ?_⟩
        · unfold Row.Gd
          exact ⟨(cnt_r hw ho hs (d + 1) c).1, (cnt_r hw ho hs (d + 1) c).2, g1⟩
        · unfold Row.lvl
          omega
      · have := gd_flat hw ho g c
        exact ⟨this.1, by rw [this.2]; exact Nat.zero_le _⟩
theorem gd_rows {hs : List Fnc} (d : Nat) (g : ∀ h ∈ hs, h.Gd) (c m : Int) : Row.Gds (rowsOf (rowF ws d hs) c m) ∧ Row.lvls (rowsOf (rowF ws d hs) c m) ≤ d :=
  ⟨gds_all fun r hr => by
    obtain ⟨k, _, rfl⟩ := List.mem_map.mp hr
    exact (gd_row hw ho d g _).1, lvls_le fun r hr => by
    obtain ⟨k, _, rfl⟩ := List.mem_map.mp hr
    exact (gd_row hw ho d g _).2⟩
theorem gd_function {hs : List Fnc} (g : ∀ h ∈ hs, h.Gd) (x : Str) (hx : OkT x) (c : Int) : (functionF ws hs x c).Gd := by
  have r1 := gd_rows hw ho (hs := []) 1 (fun h z => by cases z) (mixedF c 5) (manyF c)
  have r2 := gd_rows hw ho 2 g (mixedF c 5) (manyF c)
  have p := p6_r (c % 6)
  refine ⟨hx, fun y hy => ?_, ?_, ?_, ?_, gd_term hw ho 1 _ (by omega)⟩
  · obtain ⟨k, _, rfl⟩ := List.mem_map.mp hy
    exact getD_ok ho ok_nil _
  · show (parsF ws c).length ≤ 1000
    unfold parsF
    rw [List.length_map, List.length_range]; omega
  · show Row.Gds (if manyF c > 6 then _ else _)
    split
    · exact r1.1
    · exact r2.1
  · show Row.lvls (if manyF c > 6 then _ else _) ≤ 9
    split
    · exact Nat.le_trans r1.2 (by omega)
    · exact Nat.le_trans r2.2 (by omega)
end
end Lk


namespace Lk
open PySem L2 Vm
/-! ## the drawn program, script from the third number on -/
def nWords (ns : List Int) : Nat := if cellF ns 4 / 512 % 8 = 1 then 7 else 5
def wsF (ns : List Int) : List Str := wordsF (cellF ns 2) (nWords ns)
theorem F_vars (n : Nat) (ns : List Int) (st : VSt) : Fm D (n + 2) i__law_variables [.scr ns, .int 2] st = .ok (.lst ((wsF ns).map PV.str)) st := by
  rw [c__law_variables]
  unfold b__law_variables wsF nWords
  have c2 : ∀ s, Fm D (n + 1) i__law_cell [.scr ns, .int 2] s = .ok (.int (cellF ns 2)) s := fun s => F_cell n ns 2 s
  have c4 : ∀ s, Fm D (n + 1) i__law_cell [.scr ns, .int 4] s = .ok (.int (cellF ns 4)) s := fun s => F_cell n ns 4 s
  have fz : ∀ ws : List Str, freeze st st.length (.lst (ws.map PV.str)) = .lst (ws.map PV.str) := fun ws => fz_lst (pures_strs ws)
  generalize cellF ns 2 = x2 at c2
  generalize cellF ns 4 = x4 at c4
  by_cases k : x4 / 512 % 8 = 1
  · have w : ∀ s, Fm D (n + 1) i__law_words [.int x2, .int 7] s = .ok (.lst ((wordsF x2 7).map PV.str)) s := fun s => F_words n x2 7 (by omega) s
    have k' : decide (x4 / 512 % 8 = 1) = true := decide_eq_true k
    rw [if_pos k]
    simp -implicitDefEqProofs (disch := omega) only [x_raise, x_notL, end_ex, bind_ok, nox_ok, bind_ex, s_ex, sb_ex, s_ok, sb_nx, sb_rt, sb_ct, sb_bk, onB_bl, onBS_bl, x_var, x_c, x_bin, x_un, x_nil, x_cons, x_tup, x_lst, x_app, x_and, x_or, x_not, x_if, x_box, x_get, x_sl, x_onone, x_osome, x_snil, x_scons, x_set, x_expr, x_ret, x_retB, x_sif, x_bk, x_ct, x_aug, x_asg, x_gname, x_gnil, x_gcons, x_gtup, mkt0, mkl0, mkt1, mkl1, mkt2, mkl2, mkt3, mkl3, mkt4, mkl4, mkt5, mkl5, mkt6, mkl6, mkt7, mkl7, v_il0, v_it0, v_il1, v_it1, v_il2, v_it2, v_il3, v_it3, v_il4, v_it4, v_il5, v_it5, v_add, v_addI, v_sub, v_neg, v_mul, v_fdv, v_mod, v_cmp, v_eqs, v_nes, v_eqi, v_nei, v_eqb, v_ixc, opt_some, v_lenl, v_lent, v_lenc, v_tupt, v_tupl, v_intb, v_inti, v_max, v_isn, v_isnn, end_rt, end_nx, fz_int, fz_str, fz_bl, fz_non, List.getElem?_cons_zero, List.getElem?_cons_succ, List.set_cons_zero, List.set_cons_succ, List.length_cons, List.length_nil, List.take_length, Option.map_some, oldLoc, Bool.false_and, Bool.and_false, Bool.true_and, Bool.and_true, Bool.not_true, Bool.not_false, Bool.false_eq_true, decide_true, decide_false, decide_eq_true_eq, if_true, if_false, ↓reduceIte, Nat.reduceAdd, Nat.reduceLeDiff, c2, c4, k, w, fz, Int.reduceAdd, Int.reduceMul, Int.mul_one]
  · have w : ∀ s, Fm D (n + 1) i__law_words [.int x2, .int 5] s = .ok (.lst ((wordsF x2 5).map PV.str)) s := fun s => F_words n x2 5 (by omega) s
    have k' : decide (x4 / 512 % 8 = 1) = false := decide_eq_false k
    rw [if_neg k]
    simp -implicitDefEqProofs (disch := omega) only [x_raise, x_notL, end_ex, bind_ok, nox_ok, bind_ex, s_ex, sb_ex, s_ok, sb_nx, sb_rt, sb_ct, sb_bk, onB_bl, onBS_bl, x_var, x_c, x_bin, x_un, x_nil, x_cons, x_tup, x_lst, x_app, x_and, x_or, x_not, x_if, x_box, x_get, x_sl, x_onone, x_osome, x_snil, x_scons, x_set, x_expr, x_ret, x_retB, x_sif, x_bk, x_ct, x_aug, x_asg, x_gname, x_gnil, x_gcons, x_gtup, mkt0, mkl0, mkt1, mkl1, mkt2, mkl2, mkt3, mkl3, mkt4, mkl4, mkt5, mkl5, mkt6, mkl6, mkt7, mkl7, v_il0, v_it0, v_il1, v_it1, v_il2, v_it2, v_il3, v_it3, v_il4, v_it4, v_il5, v_it5, v_add, v_addI, v_sub, v_neg, v_mul, v_fdv, v_mod, v_cmp, v_eqs, v_nes, v_eqi, v_nei, v_eqb, v_ixc, opt_some, v_lenl, v_lent, v_lenc, v_tupt, v_tupl, v_intb, v_inti, v_max, v_isn, v_isnn, end_rt, end_nx, fz_int, fz_str, fz_bl, fz_non, List.getElem?_cons_zero, List.getElem?_cons_succ, List.set_cons_zero, List.set_cons_succ, List.length_cons, List.length_nil, List.take_length, Option.map_some, oldLoc, Bool.false_and, Bool.and_false, Bool.true_and, Bool.and_true, Bool.not_true, Bool.not_false, Bool.false_eq_true, decide_true, decide_false, decide_eq_true_eq, if_true, if_false, ↓reduceIte, Nat.reduceAdd, Nat.reduceLeDiff, c2, c4, k', w, fz, Int.reduceAdd, Int.reduceMul, Int.mul_zero, Int.add_zero]
end Lk


namespace Lk
open PySem L2 Vm
def wrapF (rs : List Row) (is : List Int) : List Row := is.foldl (fun rs k => [.when (.num (1 + k)) rs]) rs
theorem wrap_loop {T : Tbl} {a b c d e : Option PV} : ∀ (is : List Int) (rs : List Row) (z : Option PV) (st : VSt), ∃ z', forL (bodyP (gName 6) (fb__law_looped_0 T)) (is.map PV.int) [a, b, c, d, some (.tup (Row.pvs rs)), e, z] st = .nx [a, b, c, d, some (.tup (Row.pvs (wrapF rs is))), e, z'] st
  | [], rs, z, st => ⟨z, rfl⟩
  | i :: is, rs, z, st => by
    obtain ⟨z', q⟩ := wrap_loop (T := T) (a := a) (b := b) (c := c) (d := d) (e := e) is [.when (.num (1 + i)) rs] (some (.int i)) st
    refine ⟨z', ?_⟩
    have hb : bodyP (gName 6) (fb__law_looped_0 T) (.int i) [a, b, c, d, some (.tup (Row.pvs rs)), e, z] st = .nx [a, b, c, d, some (.tup (Row.pvs [.when (.num (1 + i)) rs])), e, some (.int i)] st := by
      have e1 : Row.pvs [.when (.num (1 + i)) rs] = [.tup [.str "when", .tup [.str "num", .int (1 + i)], .tup (Row.pvs rs)]] := by
        rw [Row.pvs, Row.pvs, Row.pv, Trm.pv]
      rw [e1]
      unfold fb__law_looped_0
      simp -implicitDefEqProofs (disch := omega) only [x_raise, x_notL, end_ex, bind_ok, nox_ok, bind_ex, s_ex, sb_ex, s_ok, sb_nx, sb_rt, sb_ct, sb_bk, onB_bl, onBS_bl, x_var, x_c, x_bin, x_un, x_nil, x_cons, x_tup, x_lst, x_app, x_and, x_or, x_not, x_if, x_box, x_get, x_sl, x_onone, x_osome, x_snil, x_scons, x_set, x_expr, x_ret, x_retB, x_sif, x_bk, x_ct, x_aug, x_asg, x_gname, x_gnil, x_gcons, x_gtup, mkt0, mkl0, mkt1, mkl1, mkt2, mkl2, mkt3, mkl3, mkt4, mkl4, mkt5, mkl5, mkt6, mkl6, mkt7, mkl7, v_il0, v_it0, v_il1, v_it1, v_il2, v_it2, v_il3, v_it3, v_il4, v_it4, v_il5, v_it5, v_add, v_addI, v_sub, v_neg, v_mul, v_fdv, v_mod, v_cmp, v_eqs, v_nes, v_eqi, v_nei, v_eqb, v_ixc, opt_some, v_lenl, v_lent, v_lenc, v_tupt, v_tupl, v_intb, v_inti, v_max, v_isn, v_isnn, end_rt, end_nx, fz_int, fz_str, fz_bl, fz_non, List.getElem?_cons_zero, List.getElem?_cons_succ, List.set_cons_zero, List.set_cons_succ, List.length_cons, List.length_nil, List.take_length, Option.map_some, oldLoc, Bool.false_and, Bool.and_false, Bool.true_and, Bool.and_true, Bool.not_true, Bool.not_false, Bool.false_eq_true, decide_true, decide_false, decide_eq_true_eq, if_true, if_false, ↓reduceIte, Nat.reduceAdd, Nat.reduceLeDiff, x_body]
    rw [List.map_cons, forL_cons, hb]
    exact q
theorem v_last {gs : List Fnc} {f : Fnc} {st : VSt} : vIx (.tup ((gs ++ [f]).map Fnc.pv)) (.int (-1)) st = .ok f.pv st := by
  rw [v_ixt, List.map_append]
  have : atI (gs.map Fnc.pv ++ [f].map Fnc.pv) (-1) = some f.pv := by
    have ix : ixN (gs.map Fnc.pv ++ [f].map Fnc.pv).length (-1) = some (gs.map Fnc.pv).length := by
      rw [List.length_append]
      unfold ixN
      rw [if_neg (by decide), if_pos (by show -(((gs.map Fnc.pv).length + 1 : Nat) : Int) ≤ -1; omega)]
      congr 1
      show (-1 + (((gs.map Fnc.pv).length + 1 : Nat) : Int)).toNat = _
      omega
    unfold atI
    rw [ix]
    show (gs.map Fnc.pv ++ [f].map Fnc.pv)[(gs.map Fnc.pv).length]? = _
    rw [List.getElem?_append_right (Nat.le_refl _), Nat.sub_self]; rfl
  rw [this]; rfl
theorem v_init {gs : List Fnc} {f : Fnc} {st : VSt} : vSl (.tup ((gs ++ [f]).map Fnc.pv)) none (some (-1)) st = .ok (.tup (gs.map Fnc.pv)) st := by
  rw [v_slt]
  unfold cutP
  rw [List.map_append]
  have e : HT.sIx (gs.map Fnc.pv ++ [f].map Fnc.pv).length (gs.map Fnc.pv ++ [f].map Fnc.pv).length (some (-1)) = (gs.map Fnc.pv).length := by
    unfold HT.sIx
    simp
    omega
  rw [e, HT.sIx_none, List.drop_zero, Nat.sub_zero, List.take_left']
  rfl
end Lk


namespace Lk
open PySem L2 Vm
def six : List Int := (List.range 6).map fun (k : Nat) => 0 + (k : Int)
def againF (f : Fnc) (c : Int) : Fnc := ⟨f.name, f.pars, [.again (2 + c / 2 % 2) (if c / 4 % 4 = 1 then wrapF f.rows six else f.rows)], f.res⟩
def loopF (gs : List Fnc) (f : Fnc) (c : Int) : List Fnc := if c % 2 = 0 ∨ f.rows.isEmpty = true then gs ++ [f] else gs ++ [againF f c]
theorem F_looped (n : Nat) (gs : List Fnc) (f : Fnc) (hf : f.Gd) (hl : gs.length ≤ 1000) (c : Int) (st : VSt) : Fm D (n + 1) i__law_looped [.tup ((gs ++ [f]).map Fnc.pv), .int c] st = .ok (.tup ((loopF gs f c).map Fnc.pv)) st := by
  rw [c__law_looped]
  have fzp : ∀ fs : List Fnc, freeze st st.length (.tup (fs.map Fnc.pv)) = .tup (fs.map Fnc.pv) := fun fs => freeze_pure (.tup (fs.map Fnc.pv)) (fncs_pure fs)
  have fz1 := fzp (gs ++ [f])
  obtain ⟨s1, s2⟩ := Row.soks f.rows hf.rs
  have lv := hf.lv
  have he : ∀ s, vEqF false (.tup (Row.pvs f.rows)) (.tup []) s = .ok (.bl f.rows.isEmpty) s := fun s => by
    rw [v_nilt s1 (by omega), pvs_map]
    cases f.rows <;> rfl
  by_cases k : c % 2 = 0
  · have k' : decide (c % 2 = 0) = true := decide_eq_true k
    unfold loopF b__law_looped
    rw [if_pos (.inl k)]
    simp -implicitDefEqProofs (disch := omega) only [x_raise, x_notL, end_ex, bind_ok, nox_ok, bind_ex, s_ex, sb_ex, s_ok, sb_nx, sb_rt, sb_ct, sb_bk, onB_bl, onBS_bl, x_var, x_c, x_bin, x_un, x_nil, x_cons, x_tup, x_lst, x_app, x_and, x_or, x_not, x_if, x_box, x_get, x_sl, x_onone, x_osome, x_snil, x_scons, x_set, x_expr, x_ret, x_retB, x_sif, x_bk, x_ct, x_aug, x_asg, x_gname, x_gnil, x_gcons, x_gtup, mkt0, mkl0, mkt1, mkl1, mkt2, mkl2, mkt3, mkl3, mkt4, mkl4, mkt5, mkl5, mkt6, mkl6, mkt7, mkl7, v_il0, v_it0, v_il1, v_it1, v_il2, v_it2, v_il3, v_it3, v_il4, v_it4, v_il5, v_it5, v_add, v_addI, v_sub, v_neg, v_mul, v_fdv, v_mod, v_cmp, v_eqs, v_nes, v_eqi, v_nei, v_eqb, v_ixc, opt_some, v_lenl, v_lent, v_lenc, v_tupt, v_tupl, v_intb, v_inti, v_max, v_isn, v_isnn, end_rt, end_nx, fz_int, fz_str, fz_bl, fz_non, List.getElem?_cons_zero, List.getElem?_cons_succ, List.set_cons_zero, List.set_cons_succ, List.length_cons, List.length_nil, List.take_length, Option.map_some, oldLoc, Bool.false_and, Bool.and_false, Bool.true_and, Bool.and_true, Bool.not_true, Bool.not_false, Bool.false_eq_true, decide_true, decide_false, decide_eq_true_eq, if_true, if_false, ↓reduceIte, Nat.reduceAdd, Nat.reduceLeDiff, k, fz1]
  · have k' : decide (c % 2 = 0) = false := decide_eq_false k
    cases hr : f.rows.isEmpty with
    | true =>
      unfold loopF b__law_looped
      rw [if_pos (.inr hr)]
      simp -implicitDefEqProofs (disch := omega) only [x_raise, x_notL, end_ex, bind_ok, nox_ok, bind_ex, s_ex, sb_ex, s_ok, sb_nx, sb_rt, sb_ct, sb_bk, onB_bl, onBS_bl, x_var, x_c, x_bin, x_un, x_nil, x_cons, x_tup, x_lst, x_app, x_and, x_or, x_not, x_if, x_box, x_get, x_sl, x_onone, x_osome, x_snil, x_scons, x_set, x_expr, x_ret, x_retB, x_sif, x_bk, x_ct, x_aug, x_asg, x_gname, x_gnil, x_gcons, x_gtup, mkt0, mkl0, mkt1, mkl1, mkt2, mkl2, mkt3, mkl3, mkt4, mkl4, mkt5, mkl5, mkt6, mkl6, mkt7, mkl7, v_il0, v_it0, v_il1, v_it1, v_il2, v_it2, v_il3, v_it3, v_il4, v_it4, v_il5, v_it5, v_add, v_addI, v_sub, v_neg, v_mul, v_fdv, v_mod, v_cmp, v_eqs, v_nes, v_eqi, v_nei, v_eqb, v_ixc, opt_some, v_lenl, v_lent, v_lenc, v_tupt, v_tupl, v_intb, v_inti, v_max, v_isn, v_isnn, end_rt, end_nx, fz_int, fz_str, fz_bl, fz_non, List.getElem?_cons_zero, List.getElem?_cons_succ, List.set_cons_zero, List.set_cons_succ, List.length_cons, List.length_nil, List.take_length, Option.map_some, oldLoc, Bool.false_and, Bool.and_false, Bool.true_and, Bool.and_true, Bool.not_true, Bool.not_false, Bool.false_eq_true, decide_true, decide_false, decide_eq_true_eq, if_true, if_false, ↓reduceIte, Nat.reduceAdd, Nat.reduceLeDiff, k', v_last, v_f2, he, hr, fz1]
    | false =>
      have e : loopF gs f c = gs ++ [againF f c] := by
        unfold loopF
        rw [if_neg fun z => z.elim k fun z => by rw [hr] at z; cases z]
      have fz2 := fzp (gs ++ [againF f c])
      have hla : vAdd (.tup (gs.map Fnc.pv)) (.tup [(againF f c).pv]) st = .ok (.tup ((gs ++ [againF f c]).map Fnc.pv)) st := by
        rw [v_addt (by rw [List.length_map]; show gs.length + 1 ≤ _; omega), List.map_append]; rfl
      have ep : (againF f c).pv = .tup [.str f.name, .tup (f.pars.map PV.str), .tup [.tup [.str "again", .int (2 + c / 2 % 2), .tup (Row.pvs (if c / 4 % 4 = 1 then wrapF f.rows six else f.rows))]], f.res.pv] := by
        unfold againF Fnc.pv
        rw [Row.pvs, Row.pvs, Row.pv]
      rw [ep] at hla
      have vl : vIx (.tup ((gs ++ [f]).map Fnc.pv)) (.int (-1)) st = .ok (.tup [.str f.name, .tup (f.pars.map PV.str), .tup (Row.pvs f.rows), f.res.pv]) st := v_last
      have q0 : q__law_looped_0 (Fm D n) [some (.tup ((gs ++ [f]).map Fnc.pv)), some (.int c), none, none, none, none, none] st = .nx [some (.tup ((gs ++ [f]).map Fnc.pv)), some (.int c), none, none, none, none, none] st := by
        unfold q__law_looped_0
        simp -implicitDefEqProofs (disch := omega) only [x_raise, x_notL, end_ex, bind_ok, nox_ok, bind_ex, s_ex, sb_ex, s_ok, sb_nx, sb_rt, sb_ct, sb_bk, onB_bl, onBS_bl, x_var, x_c, x_bin, x_un, x_nil, x_cons, x_tup, x_lst, x_app, x_and, x_or, x_not, x_if, x_box, x_get, x_sl, x_onone, x_osome, x_snil, x_scons, x_set, x_expr, x_ret, x_retB, x_sif, x_bk, x_ct, x_aug, x_asg, x_gname, x_gnil, x_gcons, x_gtup, mkt0, mkl0, mkt1, mkl1, mkt2, mkl2, mkt3, mkl3, mkt4, mkl4, mkt5, mkl5, mkt6, mkl6, mkt7, mkl7, v_il0, v_it0, v_il1, v_it1, v_il2, v_it2, v_il3, v_it3, v_il4, v_it4, v_il5, v_it5, v_add, v_addI, v_sub, v_neg, v_mul, v_fdv, v_mod, v_cmp, v_eqs, v_nes, v_eqi, v_nei, v_eqb, v_ixc, opt_some, v_lenl, v_lent, v_lenc, v_tupt, v_tupl, v_intb, v_inti, v_max, v_isn, v_isnn, end_rt, end_nx, fz_int, fz_str, fz_bl, fz_non, List.getElem?_cons_zero, List.getElem?_cons_succ, List.set_cons_zero, List.set_cons_succ, List.length_cons, List.length_nil, List.take_length, Option.map_some, oldLoc, Bool.false_and, Bool.and_false, Bool.true_and, Bool.and_true, Bool.not_true, Bool.not_false, Bool.false_eq_true, decide_true, decide_false, decide_eq_true_eq, if_true, if_false, ↓reduceIte, Nat.reduceAdd, Nat.reduceLeDiff, k', v_last, v_f2, he, hr]
      have q1 : q__law_looped_1 (Fm D n) [some (.tup ((gs ++ [f]).map Fnc.pv)), some (.int c), none, none, none, none, none] st = .nx [some (.tup ((gs ++ [f]).map Fnc.pv)), some (.int c), some (.str f.name), some (.tup (f.pars.map PV.str)), some (.tup (Row.pvs f.rows)), some f.res.pv, none] st := by
        unfold q__law_looped_1
        simp -implicitDefEqProofs (disch := omega) only [x_raise, x_notL, end_ex, bind_ok, nox_ok, bind_ex, s_ex, sb_ex, s_ok, sb_nx, sb_rt, sb_ct, sb_bk, onB_bl, onBS_bl, x_var, x_c, x_bin, x_un, x_nil, x_cons, x_tup, x_lst, x_app, x_and, x_or, x_not, x_if, x_box, x_get, x_sl, x_onone, x_osome, x_snil, x_scons, x_set, x_expr, x_ret, x_retB, x_sif, x_bk, x_ct, x_aug, x_asg, x_gname, x_gnil, x_gcons, x_gtup, mkt0, mkl0, mkt1, mkl1, mkt2, mkl2, mkt3, mkl3, mkt4, mkl4, mkt5, mkl5, mkt6, mkl6, mkt7, mkl7, v_il0, v_it0, v_il1, v_it1, v_il2, v_it2, v_il3, v_it3, v_il4, v_it4, v_il5, v_it5, v_add, v_addI, v_sub, v_neg, v_mul, v_fdv, v_mod, v_cmp, v_eqs, v_nes, v_eqi, v_nei, v_eqb, v_ixc, opt_some, v_lenl, v_lent, v_lenc, v_tupt, v_tupl, v_intb, v_inti, v_max, v_isn, v_isnn, end_rt, end_nx, fz_int, fz_str, fz_bl, fz_non, List.getElem?_cons_zero, List.getElem?_cons_succ, List.set_cons_zero, List.set_cons_succ, List.length_cons, List.length_nil, List.take_length, Option.map_some, oldLoc, Bool.false_and, Bool.and_false, Bool.true_and, Bool.and_true, Bool.not_true, Bool.not_false, Bool.false_eq_true, decide_true, decide_false, decide_eq_true_eq, if_true, if_false, ↓reduceIte, Nat.reduceAdd, Nat.reduceLeDiff, vl, Option.bind_some]
      have q2 : ∃ z, q__law_looped_2 (Fm D n) [some (.tup ((gs ++ [f]).map Fnc.pv)), some (.int c), some (.str f.name), some (.tup (f.pars.map PV.str)), some (.tup (Row.pvs f.rows)), some f.res.pv, none] st = .nx [some (.tup ((gs ++ [f]).map Fnc.pv)), some (.int c), some (.str f.name), some (.tup (f.pars.map PV.str)), some (.tup (Row.pvs (if c / 4 % 4 = 1 then wrapF f.rows six else f.rows))), some f.res.pv, z] st := by
        by_cases k4 : c / 4 % 4 = 1
        · obtain ⟨z, w⟩ := wrap_loop (T := Fm D n) (a := some (.tup ((gs ++ [f]).map Fnc.pv))) (b := some (.int c)) (c := some (.str f.name)) (d := some (.tup (f.pars.map PV.str))) (e := some f.res.pv) six f.rows none st
          refine ⟨z, ?_⟩
          have hf := for_rng (a := eC (.int 6)) (g := gName 6) (body := fb__law_looped_0 (Fm D n)) (env := [some (.tup ((gs ++ [f]).map Fnc.pv)), some (.int c), some (.str f.name), some (.tup (f.pars.map PV.str)), some (.tup (Row.pvs f.rows)), some f.res.pv, none]) (st := st) (st' := st) (i := 6) rfl (by decide) (by decide)
          have e6 : ((List.range (6 : Int).toNat).map fun (k : Nat) => PV.int (0 + (k : Int))) = six.map PV.int := by unfold six; rw [List.map_map]; rfl
          rw [e6, w] at hf
          have k4' : decide (c / 4 % 4 = 1) = true := decide_eq_true k4
          rw [if_pos k4]
          unfold q__law_looped_2
          simp -implicitDefEqProofs (disch := omega) only [x_raise, x_notL, end_ex, bind_ok, nox_ok, bind_ex, s_ex, sb_ex, s_ok, sb_nx, sb_rt, sb_ct, sb_bk, onB_bl, onBS_bl, x_var, x_c, x_bin, x_un, x_nil, x_cons, x_tup, x_lst, x_app, x_and, x_or, x_not, x_if, x_box, x_get, x_sl, x_onone, x_osome, x_snil, x_scons, x_set, x_expr, x_ret, x_retB, x_sif, x_bk, x_ct, x_aug, x_asg, x_gname, x_gnil, x_gcons, x_gtup, mkt0, mkl0, mkt1, mkl1, mkt2, mkl2, mkt3, mkl3, mkt4, mkl4, mkt5, mkl5, mkt6, mkl6, mkt7, mkl7, v_il0, v_it0, v_il1, v_it1, v_il2, v_it2, v_il3, v_it3, v_il4, v_it4, v_il5, v_it5, v_add, v_addI, v_sub, v_neg, v_mul, v_fdv, v_mod, v_cmp, v_eqs, v_nes, v_eqi, v_nei, v_eqb, v_ixc, opt_some, v_lenl, v_lent, v_lenc, v_tupt, v_tupl, v_intb, v_inti, v_max, v_isn, v_isnn, end_rt, end_nx, fz_int, fz_str, fz_bl, fz_non, List.getElem?_cons_zero, List.getElem?_cons_succ, List.set_cons_zero, List.set_cons_succ, List.length_cons, List.length_nil, List.take_length, Option.map_some, oldLoc, Bool.false_and, Bool.and_false, Bool.true_and, Bool.and_true, Bool.not_true, Bool.not_false, Bool.false_eq_true, decide_true, decide_false, decide_eq_true_eq, if_true, if_false, ↓reduceIte, Nat.reduceAdd, Nat.reduceLeDiff, k4, hf]
        · refine ⟨none, ?_⟩
          have k4' : decide (c / 4 % 4 = 1) = false := decide_eq_false k4
          rw [if_neg k4]
          unfold q__law_looped_2
          simp -implicitDefEqProofs (disch := omega) only [x_raise, x_notL, end_ex, bind_ok, nox_ok, bind_ex, s_ex, sb_ex, s_ok, sb_nx, sb_rt, sb_ct, sb_bk, onB_bl, onBS_bl, x_var, x_c, x_bin, x_un, x_nil, x_cons, x_tup, x_lst, x_app, x_and, x_or, x_not, x_if, x_box, x_get, x_sl, x_onone, x_osome, x_snil, x_scons, x_set, x_expr, x_ret, x_retB, x_sif, x_bk, x_ct, x_aug, x_asg, x_gname, x_gnil, x_gcons, x_gtup, mkt0, mkl0, mkt1, mkl1, mkt2, mkl2, mkt3, mkl3, mkt4, mkl4, mkt5, mkl5, mkt6, mkl6, mkt7, mkl7, v_il0, v_it0, v_il1, v_it1, v_il2, v_it2, v_il3, v_it3, v_il4, v_it4, v_il5, v_it5, v_add, v_addI, v_sub, v_neg, v_mul, v_fdv, v_mod, v_cmp, v_eqs, v_nes, v_eqi, v_nei, v_eqb, v_ixc, opt_some, v_lenl, v_lent, v_lenc, v_tupt, v_tupl, v_intb, v_inti, v_max, v_isn, v_isnn, end_rt, end_nx, fz_int, fz_str, fz_bl, fz_non, List.getElem?_cons_zero, List.getElem?_cons_succ, List.set_cons_zero, List.set_cons_succ, List.length_cons, List.length_nil, List.take_length, Option.map_some, oldLoc, Bool.false_and, Bool.and_false, Bool.true_and, Bool.and_true, Bool.not_true, Bool.not_false, Bool.false_eq_true, decide_true, decide_false, decide_eq_true_eq, if_true, if_false, ↓reduceIte, Nat.reduceAdd, Nat.reduceLeDiff, k4']
      obtain ⟨z, q2⟩ := q2
      have q3 : ∀ rs : List Row, rs = (if c / 4 % 4 = 1 then wrapF f.rows six else f.rows) → q__law_looped_3 (Fm D n) [some (.tup ((gs ++ [f]).map Fnc.pv)), some (.int c), some (.str f.name), some (.tup (f.pars.map PV.str)), some (.tup (Row.pvs rs)), some f.res.pv, z] st = .rt (.tup ((gs ++ [againF f c]).map Fnc.pv)) st := fun rs hrs => by
        rw [← hrs] at hla
        unfold q__law_looped_3
        simp -implicitDefEqProofs (disch := omega) only [x_raise, x_notL, end_ex, bind_ok, nox_ok, bind_ex, s_ex, sb_ex, s_ok, sb_nx, sb_rt, sb_ct, sb_bk, onB_bl, onBS_bl, x_var, x_c, x_bin, x_un, x_nil, x_cons, x_tup, x_lst, x_app, x_and, x_or, x_not, x_if, x_box, x_get, x_sl, x_onone, x_osome, x_snil, x_scons, x_set, x_expr, x_ret, x_retB, x_sif, x_bk, x_ct, x_aug, x_asg, x_gname, x_gnil, x_gcons, x_gtup, mkt0, mkl0, mkt1, mkl1, mkt2, mkl2, mkt3, mkl3, mkt4, mkl4, mkt5, mkl5, mkt6, mkl6, mkt7, mkl7, v_il0, v_it0, v_il1, v_it1, v_il2, v_it2, v_il3, v_it3, v_il4, v_it4, v_il5, v_it5, v_add, v_addI, v_sub, v_neg, v_mul, v_fdv, v_mod, v_cmp, v_eqs, v_nes, v_eqi, v_nei, v_eqb, v_ixc, opt_some, v_lenl, v_lent, v_lenc, v_tupt, v_tupl, v_intb, v_inti, v_max, v_isn, v_isnn, end_rt, end_nx, fz_int, fz_str, fz_bl, fz_non, List.getElem?_cons_zero, List.getElem?_cons_succ, List.set_cons_zero, List.set_cons_succ, List.length_cons, List.length_nil, List.take_length, Option.map_some, oldLoc, Bool.false_and, Bool.and_false, Bool.true_and, Bool.and_true, Bool.not_true, Bool.not_false, Bool.false_eq_true, decide_true, decide_false, decide_eq_true_eq, if_true, if_false, ↓reduceIte, Nat.reduceAdd, Nat.reduceLeDiff, v_init, hla]
      rw [e, b__law_looped_q, x_scons, q0, sb_nx, x_scons, q1, sb_nx, x_scons, q2, sb_nx, x_scons, q3 _ rfl, sb_rt, end_rt, fz2, List.take_length]
      exact Eq.trans rfl rfl
end Lk


namespace Lk
open PySem L2 Vm
/-! ## the law k01 -/
/-- texts of letters -/
def sOk (x : Str) : Prop := ∀ c ∈ x.cps.toList, c < 1114112
theorem sOk_ok {x : Str} (h : sOk x) : PyData.strOk x = true := by
  unfold PyData.strOk
  rw [Array.all_eq_true']
  intro c hc
  exact decide_eq_true (h c (by simpa using hc))
theorem sOk_app {a b : Str} (h : sOk a) (k : sOk b) : sOk (a ++ b) := fun c hc => by
  have e : (a ++ b).cps.toList = a.cps.toList ++ b.cps.toList := by
    show (a.cps ++ b.cps).toList = _
    simp
  rw [e] at hc
  rcases List.mem_append.mp hc with z | z
  · exact h c z
  · exact k c z
theorem sOk_rep {a : Str} (n : Nat) (h : sOk a) : sOk (repS a n) := fun c hc => by
  have e : (repS a n).cps.toList = (List.replicate n a.cps.toList).flatten := by unfold repS; simp
  rw [e] at hc
  obtain ⟨l, hl, hc⟩ := List.mem_flatten.mp hc
  rw [(List.mem_replicate.mp hl).2] at hc
  exact h c hc
theorem sOk_ltr (c : Int) : sOk (ltr (c % 26)) := fun d hd => by
  have : d = 97 + (c % 26).toNat := by simpa [ltr] using hd
  omega

theorem sOk_cut {a : Str} (lo hi : Option Int) (h : sOk a) : sOk (cutS a lo hi) := fun c hc => by
  have e : (cutS a lo hi).cps.toList = (a.cps.toList.drop (HT.sIx a.length 0 lo)).take (HT.sIx a.length a.length hi - HT.sIx a.length 0 lo) := by unfold cutS; simp
  rw [e] at hc
  exact h c (List.mem_of_mem_drop (List.mem_of_mem_take hc))
theorem sOk_base (c : Int) : sOk (wBase c) := sOk_rep _ (sOk_ltr c)
theorem sOk_word (c : Int) (k : Nat) : sOk (wordF c k) := by
  unfold wordF
  split
  · exact sOk_rep _ (sOk_ltr c)
  · exact sOk_app (sOk_app (sOk_cut _ _ (sOk_base c)) (sOk_ltr _)) (sOk_cut _ _ (sOk_base c))
theorem words_ok (c : Int) (m : Nat) : ∀ x ∈ wordsF c m, PyData.strOk x = true := fun x h => by
  obtain ⟨k, _, rfl⟩ := List.mem_map.mp h
  exact sOk_ok (sOk_word c k)
end Lk


namespace Lk
open PySem L2 Vm
def nmF (ns : List Int) : List Str := wordsF (cellF ns (if cellF ns 3 % 8 = 3 then 2 else 3)) 8
theorem ws_ok (ns : List Int) : 0 < (wsF ns).length ∧ ∀ x ∈ wsF ns, OkT x := by
  have h : 0 < nWords ns := by unfold nWords; split <;> omega
  refine ⟨by unfold wsF; rw [len_words]; exact h, ?_⟩
  unfold wsF
  exact words_ok _ _
theorem nm_ok (ns : List Int) : (nmF ns).length = 8 ∧ ∀ x ∈ nmF ns, OkT x := ⟨len_words _ 8, words_ok _ _⟩
theorem v_three {fs : List Fnc} {st : VSt} : vSl (.tup (fs.map Fnc.pv)) none (some 3) st = .ok (.tup ((fs.take 3).map Fnc.pv)) st := by
  rw [v_slt]
  unfold cutP
  rw [show (3 : Int) = ((3 : Nat) : Int) from rfl, HT.sIx_none, HT.sIx_nat, List.drop_zero, Nat.sub_zero, List.map_take]
  congr 2
  rw [List.take_eq_take_iff]
  omega
theorem v_listt {xs : List PV} {st : VSt} : vListA [.tup xs] st = .ok (.lst xs) st := rfl
end Lk


namespace Lk
open PySem L2 Vm
theorem wrap_gd : ∀ (is : List Int) {rs : List Row}, (∀ i ∈ is, 0 ≤ i ∧ i < 1000) → Row.Gds rs → Row.Gds (wrapF rs is) ∧ Row.lvls (wrapF rs is) ≤ Row.lvls rs + is.length
  | [], rs, _, g => ⟨g, Nat.le_refl _⟩
  | i :: is, rs, h, g => by
    obtain ⟨h0, h1⟩ := h i List.mem_cons_self
    have g1 : Row.Gds [.when (.num (1 + i)) rs] := by
      unfold Row.Gds Row.Gd
      exact ⟨⟨⟨by omega, by omega⟩, Nat.zero_le _, g⟩, by unfold Row.Gds; trivial⟩
    have l1 : Row.lvls [.when (.num (1 + i)) rs] = Row.lvls rs + 1 := by
      rw [Row.lvls, Row.lvls, Row.lvl]; omega
    obtain ⟨a, b⟩ := wrap_gd is (fun j hj => h j (List.mem_cons_of_mem _ hj)) g1
    exact ⟨a, by rw [l1] at b; rw [List.length_cons]; show Row.lvls (wrapF [.when (.num (1 + i)) rs] is) ≤ _; omega⟩
theorem again_gd {f : Fnc} (g : f.Gd) (l : Row.lvls f.rows ≤ 2) (c : Int) : (againF f c).Gd := by
  have six_r : ∀ i ∈ six, 0 ≤ i ∧ i < 1000 := by unfold six; decide
  obtain ⟨a, b⟩ := wrap_gd six six_r g.rs
  have b' : Row.lvls (wrapF f.rows six) ≤ 8 := Nat.le_trans b (by show Row.lvls f.rows + 6 ≤ 8; omega)
  have gg : Row.Gds (if c / 4 % 4 = 1 then wrapF f.rows six else f.rows) := by
    split
    · exact a
    · exact g.rs
  have ll : Row.lvls (if c / 4 % 4 = 1 then wrapF f.rows six else f.rows) ≤ 8 := by
    split
    · exact b'
    · omega
  refine ⟨g.nm, g.ps, g.pl, ?_, ?_, g.rt⟩
  · unfold againF Row.Gds Row.Gd
    exact ⟨⟨by omega, by omega, gg⟩, by unfold Row.Gds; trivial⟩
  · unfold againF
    rw [Row.lvls, Row.lvls, Row.lvl]
    omega
theorem loop_gd {gs : List Fnc} {f : Fnc} (g : ∀ h ∈ gs ++ [f], h.Gd ∧ Row.lvls h.rows ≤ 2) (c : Int) : ∀ h ∈ loopF gs f c, h.Gd := fun h hh => by
  have gf := g f (List.mem_append_right _ (by simp))
  unfold loopF at hh
  split at hh
  · exact (g h hh).1
  · rcases List.mem_append.mp hh with z | z
    · exact (g h (List.mem_append_left _ z)).1
    · obtain rfl : h = againF f c := by simpa using z
      exact again_gd gf.1 gf.2 c
end Lk


namespace Lk
open PySem L2 Vm
/-! ## a row's own parts, by the law -/
def tgtF : Row → Option Str
  | .set x _ => some x
  | .call x _ _ => x
  | _ => none
def blkF : Row → List Row
  | .when _ rs => rs
  | .again _ rs => rs
  | _ => []
theorem k_ts : decide (("tell" : Str) = "set") = false := by decide
theorem k_tc : decide (("tell" : Str) = "call") = false := by decide
theorem k_tw : decide (("tell" : Str) = "when") = false := by decide
theorem k_ta : decide (("tell" : Str) = "again") = false := by decide
theorem k_ws : decide (("when" : Str) = "set") = false := by decide
theorem k_wc : decide (("when" : Str) = "call") = false := by decide
theorem k_wa : decide (("when" : Str) = "again") = false := by decide
theorem k_wt : decide (("when" : Str) = "tell") = false := by decide
theorem k_as : decide (("again" : Str) = "set") = false := by decide
theorem k_ac : decide (("again" : Str) = "call") = false := by decide
theorem k_aw : decide (("again" : Str) = "when") = false := by decide
theorem k_at : decide (("again" : Str) = "tell") = false := by decide
theorem k_cs : decide (("call" : Str) = "set") = false := by decide
theorem k_cw : decide (("call" : Str) = "when") = false := by decide
theorem k_ca : decide (("call" : Str) = "again") = false := by decide
theorem k_ct : decide (("call" : Str) = "tell") = false := by decide
theorem k_sc : decide (("set" : Str) = "call") = false := by decide
theorem k_sw : decide (("set" : Str) = "when") = false := by decide
theorem k_sa : decide (("set" : Str) = "again") = false := by decide
theorem k_st : decide (("set" : Str) = "tell") = false := by decide
theorem fz_opt {s : VSt} {k : Nat} (x : Option Str) : freeze s k (optS x) = optS x := freeze_pure _ (opt_pure x)
theorem F_block (n : Nat) (r : Row) (st : VSt) : Fm D (n + 1) i__law_block [r.pv] st = .ok (.tup (Row.pvs (blkF r))) st := by
  rw [c__law_block]
  unfold b__law_block
  have p0 : Row.pvs [] = [] := by rw [Row.pvs]
  cases r with
  | set x t => rw [Row.pv]; simp -implicitDefEqProofs (disch := omega) only [x_raise, x_notL, end_ex, bind_ok, nox_ok, bind_ex, s_ex, sb_ex, s_ok, sb_nx, sb_rt, sb_ct, sb_bk, onB_bl, onBS_bl, x_var, x_c, x_bin, x_un, x_nil, x_cons, x_tup, x_lst, x_app, x_and, x_or, x_not, x_if, x_box, x_get, x_sl, x_onone, x_osome, x_snil, x_scons, x_set, x_expr, x_ret, x_retB, x_sif, x_bk, x_ct, x_aug, x_asg, x_gname, x_gnil, x_gcons, x_gtup, mkt0, mkl0, mkt1, mkl1, mkt2, mkl2, mkt3, mkl3, mkt4, mkl4, mkt5, mkl5, mkt6, mkl6, mkt7, mkl7, v_il0, v_it0, v_il1, v_it1, v_il2, v_it2, v_il3, v_it3, v_il4, v_it4, v_il5, v_it5, v_add, v_addI, v_sub, v_neg, v_mul, v_fdv, v_mod, v_cmp, v_eqs, v_nes, v_eqi, v_nei, v_eqb, v_ixc, opt_some, v_lenl, v_lent, v_lenc, v_tupt, v_tupl, v_intb, v_inti, v_max, v_isn, v_isnn, end_rt, end_nx, fz_int, fz_str, fz_bl, fz_non, List.getElem?_cons_zero, List.getElem?_cons_succ, List.set_cons_zero, List.set_cons_succ, List.length_cons, List.length_nil, List.take_length, Option.map_some, oldLoc, Bool.false_and, Bool.and_false, Bool.true_and, Bool.and_true, Bool.not_true, Bool.not_false, Bool.false_eq_true, decide_true, decide_false, decide_eq_true_eq, if_true, if_false, ↓reduceIte, Nat.reduceAdd, Nat.reduceLeDiff, blkF, k_sw, k_sa, p0, fz_tup, fzs_nil]
  | tell t => rw [Row.pv]; simp -implicitDefEqProofs (disch := omega) only [x_raise, x_notL, end_ex, bind_ok, nox_ok, bind_ex, s_ex, sb_ex, s_ok, sb_nx, sb_rt, sb_ct, sb_bk, onB_bl, onBS_bl, x_var, x_c, x_bin, x_un, x_nil, x_cons, x_tup, x_lst, x_app, x_and, x_or, x_not, x_if, x_box, x_get, x_sl, x_onone, x_osome, x_snil, x_scons, x_set, x_expr, x_ret, x_retB, x_sif, x_bk, x_ct, x_aug, x_asg, x_gname, x_gnil, x_gcons, x_gtup, mkt0, mkl0, mkt1, mkl1, mkt2, mkl2, mkt3, mkl3, mkt4, mkl4, mkt5, mkl5, mkt6, mkl6, mkt7, mkl7, v_il0, v_it0, v_il1, v_it1, v_il2, v_it2, v_il3, v_it3, v_il4, v_it4, v_il5, v_it5, v_add, v_addI, v_sub, v_neg, v_mul, v_fdv, v_mod, v_cmp, v_eqs, v_nes, v_eqi, v_nei, v_eqb, v_ixc, opt_some, v_lenl, v_lent, v_lenc, v_tupt, v_tupl, v_intb, v_inti, v_max, v_isn, v_isnn, end_rt, end_nx, fz_int, fz_str, fz_bl, fz_non, List.getElem?_cons_zero, List.getElem?_cons_succ, List.set_cons_zero, List.set_cons_succ, List.length_cons, List.length_nil, List.take_length, Option.map_some, oldLoc, Bool.false_and, Bool.and_false, Bool.true_and, Bool.and_true, Bool.not_true, Bool.not_false, Bool.false_eq_true, decide_true, decide_false, decide_eq_true_eq, if_true, if_false, ↓reduceIte, Nat.reduceAdd, Nat.reduceLeDiff, blkF, k_tw, k_ta, p0, fz_tup, fzs_nil]
  | call x f ts => rw [Row.pv]; simp -implicitDefEqProofs (disch := omega) only [x_raise, x_notL, end_ex, bind_ok, nox_ok, bind_ex, s_ex, sb_ex, s_ok, sb_nx, sb_rt, sb_ct, sb_bk, onB_bl, onBS_bl, x_var, x_c, x_bin, x_un, x_nil, x_cons, x_tup, x_lst, x_app, x_and, x_or, x_not, x_if, x_box, x_get, x_sl, x_onone, x_osome, x_snil, x_scons, x_set, x_expr, x_ret, x_retB, x_sif, x_bk, x_ct, x_aug, x_asg, x_gname, x_gnil, x_gcons, x_gtup, mkt0, mkl0, mkt1, mkl1, mkt2, mkl2, mkt3, mkl3, mkt4, mkl4, mkt5, mkl5, mkt6, mkl6, mkt7, mkl7, v_il0, v_it0, v_il1, v_it1, v_il2, v_it2, v_il3, v_it3, v_il4, v_it4, v_il5, v_it5, v_add, v_addI, v_sub, v_neg, v_mul, v_fdv, v_mod, v_cmp, v_eqs, v_nes, v_eqi, v_nei, v_eqb, v_ixc, opt_some, v_lenl, v_lent, v_lenc, v_tupt, v_tupl, v_intb, v_inti, v_max, v_isn, v_isnn, end_rt, end_nx, fz_int, fz_str, fz_bl, fz_non, List.getElem?_cons_zero, List.getElem?_cons_succ, List.set_cons_zero, List.set_cons_succ, List.length_cons, List.length_nil, List.take_length, Option.map_some, oldLoc, Bool.false_and, Bool.and_false, Bool.true_and, Bool.and_true, Bool.not_true, Bool.not_false, Bool.false_eq_true, decide_true, decide_false, decide_eq_true_eq, if_true, if_false, ↓reduceIte, Nat.reduceAdd, Nat.reduceLeDiff, blkF, k_cw, k_ca, p0, fz_tup, fzs_nil]
  | when t rs => rw [Row.pv]; simp -implicitDefEqProofs (disch := omega) only [x_raise, x_notL, end_ex, bind_ok, nox_ok, bind_ex, s_ex, sb_ex, s_ok, sb_nx, sb_rt, sb_ct, sb_bk, onB_bl, onBS_bl, x_var, x_c, x_bin, x_un, x_nil, x_cons, x_tup, x_lst, x_app, x_and, x_or, x_not, x_if, x_box, x_get, x_sl, x_onone, x_osome, x_snil, x_scons, x_set, x_expr, x_ret, x_retB, x_sif, x_bk, x_ct, x_aug, x_asg, x_gname, x_gnil, x_gcons, x_gtup, mkt0, mkl0, mkt1, mkl1, mkt2, mkl2, mkt3, mkl3, mkt4, mkl4, mkt5, mkl5, mkt6, mkl6, mkt7, mkl7, v_il0, v_it0, v_il1, v_it1, v_il2, v_it2, v_il3, v_it3, v_il4, v_it4, v_il5, v_it5, v_add, v_addI, v_sub, v_neg, v_mul, v_fdv, v_mod, v_cmp, v_eqs, v_nes, v_eqi, v_nei, v_eqb, v_ixc, opt_some, v_lenl, v_lent, v_lenc, v_tupt, v_tupl, v_intb, v_inti, v_max, v_isn, v_isnn, end_rt, end_nx, fz_int, fz_str, fz_bl, fz_non, List.getElem?_cons_zero, List.getElem?_cons_succ, List.set_cons_zero, List.set_cons_succ, List.length_cons, List.length_nil, List.take_length, Option.map_some, oldLoc, Bool.false_and, Bool.and_false, Bool.true_and, Bool.and_true, Bool.not_true, Bool.not_false, Bool.false_eq_true, decide_true, decide_false, decide_eq_true_eq, if_true, if_false, ↓reduceIte, Nat.reduceAdd, Nat.reduceLeDiff, blkF, fz_tup, fz_pvs]
  | again m rs => rw [Row.pv]; simp -implicitDefEqProofs (disch := omega) only [x_raise, x_notL, end_ex, bind_ok, nox_ok, bind_ex, s_ex, sb_ex, s_ok, sb_nx, sb_rt, sb_ct, sb_bk, onB_bl, onBS_bl, x_var, x_c, x_bin, x_un, x_nil, x_cons, x_tup, x_lst, x_app, x_and, x_or, x_not, x_if, x_box, x_get, x_sl, x_onone, x_osome, x_snil, x_scons, x_set, x_expr, x_ret, x_retB, x_sif, x_bk, x_ct, x_aug, x_asg, x_gname, x_gnil, x_gcons, x_gtup, mkt0, mkl0, mkt1, mkl1, mkt2, mkl2, mkt3, mkl3, mkt4, mkl4, mkt5, mkl5, mkt6, mkl6, mkt7, mkl7, v_il0, v_it0, v_il1, v_it1, v_il2, v_it2, v_il3, v_it3, v_il4, v_it4, v_il5, v_it5, v_add, v_addI, v_sub, v_neg, v_mul, v_fdv, v_mod, v_cmp, v_eqs, v_nes, v_eqi, v_nei, v_eqb, v_ixc, opt_some, v_lenl, v_lent, v_lenc, v_tupt, v_tupl, v_intb, v_inti, v_max, v_isn, v_isnn, end_rt, end_nx, fz_int, fz_str, fz_bl, fz_non, List.getElem?_cons_zero, List.getElem?_cons_succ, List.set_cons_zero, List.set_cons_succ, List.length_cons, List.length_nil, List.take_length, Option.map_some, oldLoc, Bool.false_and, Bool.and_false, Bool.true_and, Bool.and_true, Bool.not_true, Bool.not_false, Bool.false_eq_true, decide_true, decide_false, decide_eq_true_eq, if_true, if_false, ↓reduceIte, Nat.reduceAdd, Nat.reduceLeDiff, blkF, k_aw, fz_tup, fz_pvs]
end Lk


namespace Lk
open PySem L2 Vm
def ownT : Row → List Trm
  | .set _ t => [t]
  | .tell t => [t]
  | .call _ _ ts => ts
  | .when t _ => [t]
  | .again _ _ => []
def ownN (r : Row) : List Str := (ownT r).flatMap Trm.names
def tot : List Trm → Nat
  | [] => 0
  | t :: ts => t.size + tot ts
theorem names_tot : ∀ ts : List Trm, (ts.flatMap Trm.names).length ≤ tot ts
  | [] => Nat.le_refl _
  | t :: ts => by
    have h1 := t.names_len
    have h2 := names_tot ts
    rw [List.flatMap_cons, List.length_append]
    show _ ≤ t.size + tot ts
    omega
end Lk


namespace Lk
open PySem L2 Vm
theorem sb_ass (r : SR) (a b : SM) : r.bind (sCons a b) = (r.bind a).bind b := by cases r <;> rfl
theorem own_d {r : Row} (g : r.Gd) : ∀ t ∈ ownT r, t.depth ≤ 2 := fun t ht => by
  cases r with
  | set x t' => unfold Row.Gd at g; obtain rfl : t = t' := by simpa [ownT] using ht
                exact g.2.2
  | tell t' => unfold Row.Gd at g; obtain rfl : t = t' := by simpa [ownT] using ht
               exact g.2
  | call x f ts => unfold Row.Gd at g; exact (g.2.2 t ht).2
  | when t' rs => unfold Row.Gd at g; obtain rfl : t = t' := by simpa [ownT] using ht
                  exact g.2.1
  | again m rs => cases ht
end Lk


namespace Lk
open PySem L2 Vm
def stepF (ns : List Int) (k : Nat) (fs : List Fnc) : Fnc :=
  if k = 0 ∧ cellF ns 4 / 4096 % 8 = 1 then ⟨(nmF ns).getD 0 "", [], [], (functionF (wsF ns) (fs.take 3) ((nmF ns).getD k "") (cellF ns (5 + k))).res⟩
  else functionF (wsF ns) (fs.take 3) ((nmF ns).getD k "") (cellF ns (5 + k))
def progL (ns : List Int) : Nat → Nat → List Fnc → List Fnc
  | 0, _, fs => fs
  | m + 1, k, fs => progL ns m (k + 1) (fs ++ [stepF ns k fs])
theorem step_gd (ns : List Int) (k : Nat) {fs : List Fnc} (g : ∀ f ∈ fs, f.Gd) : (stepF ns k fs).Gd := by
  have g3 : ∀ f ∈ fs.take 3, f.Gd := fun f hf => g f (List.mem_of_mem_take hf)
  have gf := gd_function (ws_ok ns).1 (ws_ok ns).2 g3 ((nmF ns).getD k "") (getD_ok (nm_ok ns).2 ok_nil k) (cellF ns (5 + k))
  unfold stepF
  split
  · exact ⟨getD_ok (nm_ok ns).2 ok_nil 0, fun x h => (by cases h), Nat.zero_le _, by unfold Row.Gds; trivial, by unfold Row.lvls; exact Nat.zero_le _, gf.rt⟩
  · exact gf
abbrev fr8 (ns : List Int) (p c k f : Option PV) : VEnv := [some (.scr ns), some (.int 2), some (.lst ((wsF ns).map PV.str)), some (.lst ((nmF ns).map PV.str)), p, c, k, f]
theorem prog_one (n : Nat) (ns : List Int) (k : Nat) (hk : k < 8) (fs : List Fnc) (g : ∀ f ∈ fs, f.Gd) (hl : fs.length ≤ 100) (c y z : Option PV) (st : VSt) :
    ∃ z', bodyP (gName 6) (fb__law_program_0 (Fm D (n + 15))) (.int (0 + (k : Int))) (fr8 ns (some (.tup (fs.map Fnc.pv))) c y z) st = .nx (fr8 ns (some (.tup ((fs ++ [stepF ns k fs]).map Fnc.pv))) c (some (.int (0 + (k : Int)))) z') st := by
  generalize hi : (0 + (k : Int)) = i
  have g3 : ∀ f ∈ fs.take 3, f.Gd := fun f hf => g f (List.mem_of_mem_take hf)
  have c4 : ∀ s, Fm D (n + 15) i__law_cell [.scr ns, .int 4] s = .ok (.int (cellF ns 4)) s := fun s => F_cell (n + 14) ns 4 s
  have ck : ∀ s, Fm D (n + 15) i__law_cell [.scr ns, .int (5 + i)] s = .ok (.int (cellF ns (5 + k))) s := fun s => by
    have := F_cell (n + 14) ns (5 + k) s
    rwa [show ((5 + k : Nat) : Int) = 5 + i by omega] at this
  have nl := (nm_ok ns).1
  have vn : ∀ s, vIx (.lst ((nmF ns).map PV.str)) (.int i) s = .ok (.str ((nmF ns).getD k "")) s := fun s => by
    have := v_word (ws := nmF ns) (i := i) (st := s) (by omega) (by omega)
    rwa [show i.toNat = k by omega] at this
  have vn0 : ∀ s, vIx (.lst ((nmF ns).map PV.str)) (.int 0) s = .ok (.str ((nmF ns).getD 0 "")) s := fun s => v_word (ws := nmF ns) (i := 0) (st := s) (by omega) (by omega)
  have ff : ∀ s, Fm D (n + 15) i__law_function [.int (cellF ns (5 + k)), .str ((nmF ns).getD k ""), .lst ((wsF ns).map PV.str), .lst ((fs.take 3).map Fnc.pv)] s = .ok (functionF (wsF ns) (fs.take 3) ((nmF ns).getD k "") (cellF ns (5 + k))).pv s := fun s =>
    F_function (ws_ok ns).1 (hsOk_of g3) (n + 1) _ _ s
  have va : ∀ (f : Fnc) (s : VSt), vAdd (.tup (fs.map Fnc.pv)) (.tup [f.pv]) s = .ok (.tup ((fs ++ [f]).map Fnc.pv)) s := fun f s => by
    rw [v_addt (by rw [List.length_map]; show fs.length + 1 ≤ _; omega), List.map_append]; rfl
  have v3 : ∀ (f : Fnc) (s : VSt), vIx f.pv (.int 3) s = .ok f.res.pv s := fun f s => v_it3
  unfold fb__law_program_0 stepF
  generalize cellF ns (5 + k) = x at ck ff ⊢
  by_cases k0 : k = 0
  · have i0 : decide (i = 0) = true := decide_eq_true (by omega)
    by_cases k1 : cellF ns 4 / 4096 % 8 = 1
    · have k1' : decide (cellF ns 4 / 4096 % 8 = 1) = true := decide_eq_true k1
      have va' : ∀ s, vAdd (.tup (fs.map Fnc.pv)) (.tup [.tup [.str ((nmF ns).getD 0 ""), .tup [], .tup [], (functionF (wsF ns) (fs.take 3) ((nmF ns).getD k "") x).res.pv]]) s = .ok (.tup ((fs ++ [(⟨(nmF ns).getD 0 "", [], [], (functionF (wsF ns) (fs.take 3) ((nmF ns).getD k "") x).res⟩ : Fnc)]).map Fnc.pv)) s := fun s => by
        have := va ⟨(nmF ns).getD 0 "", [], [], (functionF (wsF ns) (fs.take 3) ((nmF ns).getD k "") x).res⟩ s
        rw [show (⟨(nmF ns).getD 0 "", [], [], (functionF (wsF ns) (fs.take 3) ((nmF ns).getD k "") x).res⟩ : Fnc).pv = .tup [.str ((nmF ns).getD 0 ""), .tup [], .tup [], (functionF (wsF ns) (fs.take 3) ((nmF ns).getD k "") x).res.pv] from by unfold Fnc.pv; rw [pvs_map]; rfl] at this
        exact this
      rw [if_pos ⟨k0, k1⟩]
      refine ⟨some (.tup [.str ((nmF ns).getD 0 ""), .tup [], .tup [], (functionF (wsF ns) (fs.take 3) ((nmF ns).getD k "") x).res.pv]), ?_⟩
      simp -implicitDefEqProofs (disch := omega) only [x_raise, x_notL, end_ex, bind_ok, nox_ok, bind_ex, s_ex, sb_ex, s_ok, sb_nx, sb_rt, sb_ct, sb_bk, onB_bl, onBS_bl, x_var, x_c, x_bin, x_un, x_nil, x_cons, x_tup, x_lst, x_app, x_and, x_or, x_not, x_if, x_box, x_get, x_sl, x_onone, x_osome, x_snil, x_scons, x_set, x_expr, x_ret, x_retB, x_sif, x_bk, x_ct, x_aug, x_asg, x_gname, x_gnil, x_gcons, x_gtup, mkt0, mkl0, mkt1, mkl1, mkt2, mkl2, mkt3, mkl3, mkt4, mkl4, mkt5, mkl5, mkt6, mkl6, mkt7, mkl7, v_il0, v_it0, v_il1, v_it1, v_il2, v_it2, v_il3, v_it3, v_il4, v_it4, v_il5, v_it5, v_add, v_addI, v_sub, v_neg, v_mul, v_fdv, v_mod, v_cmp, v_eqs, v_nes, v_eqi, v_nei, v_eqb, v_ixc, opt_some, v_lenl, v_lent, v_lenc, v_tupt, v_tupl, v_intb, v_inti, v_max, v_isn, v_isnn, end_rt, end_nx, fz_int, fz_str, fz_bl, fz_non, List.getElem?_cons_zero, List.getElem?_cons_succ, List.set_cons_zero, List.set_cons_succ, List.length_cons, List.length_nil, List.take_length, Option.map_some, oldLoc, Bool.false_and, Bool.and_false, Bool.true_and, Bool.and_true, Bool.not_true, Bool.not_false, Bool.false_eq_true, decide_true, decide_false, decide_eq_true_eq, if_true, if_false, ↓reduceIte, Nat.reduceAdd, Nat.reduceLeDiff, x_body, c4, ck, vn, vn0, ff, va', v3, v_three, v_listt, i0, k1, Int.reduceAdd]
    · have k1' : decide (cellF ns 4 / 4096 % 8 = 1) = false := decide_eq_false k1
      rw [if_neg fun z => k1 z.2]
      refine ⟨some (functionF (wsF ns) (fs.take 3) ((nmF ns).getD k "") x).pv, ?_⟩
      simp -implicitDefEqProofs (disch := omega) only [x_raise, x_notL, end_ex, bind_ok, nox_ok, bind_ex, s_ex, sb_ex, s_ok, sb_nx, sb_rt, sb_ct, sb_bk, onB_bl, onBS_bl, x_var, x_c, x_bin, x_un, x_nil, x_cons, x_tup, x_lst, x_app, x_and, x_or, x_not, x_if, x_box, x_get, x_sl, x_onone, x_osome, x_snil, x_scons, x_set, x_expr, x_ret, x_retB, x_sif, x_bk, x_ct, x_aug, x_asg, x_gname, x_gnil, x_gcons, x_gtup, mkt0, mkl0, mkt1, mkl1, mkt2, mkl2, mkt3, mkl3, mkt4, mkl4, mkt5, mkl5, mkt6, mkl6, mkt7, mkl7, v_il0, v_it0, v_il1, v_it1, v_il2, v_it2, v_il3, v_it3, v_il4, v_it4, v_il5, v_it5, v_add, v_addI, v_sub, v_neg, v_mul, v_fdv, v_mod, v_cmp, v_eqs, v_nes, v_eqi, v_nei, v_eqb, v_ixc, opt_some, v_lenl, v_lent, v_lenc, v_tupt, v_tupl, v_intb, v_inti, v_max, v_isn, v_isnn, end_rt, end_nx, fz_int, fz_str, fz_bl, fz_non, List.getElem?_cons_zero, List.getElem?_cons_succ, List.set_cons_zero, List.set_cons_succ, List.length_cons, List.length_nil, List.take_length, Option.map_some, oldLoc, Bool.false_and, Bool.and_false, Bool.true_and, Bool.and_true, Bool.not_true, Bool.not_false, Bool.false_eq_true, decide_true, decide_false, decide_eq_true_eq, if_true, if_false, ↓reduceIte, Nat.reduceAdd, Nat.reduceLeDiff, x_body, c4, ck, vn, ff, va, v_three, v_listt, i0, k1', Int.reduceAdd]
  · have i0 : decide (i = 0) = false := decide_eq_false (by omega)
    rw [if_neg fun z => k0 z.1]
    refine ⟨some (functionF (wsF ns) (fs.take 3) ((nmF ns).getD k "") x).pv, ?_⟩
    simp -implicitDefEqProofs (disch := omega) only [x_raise, x_notL, end_ex, bind_ok, nox_ok, bind_ex, s_ex, sb_ex, s_ok, sb_nx, sb_rt, sb_ct, sb_bk, onB_bl, onBS_bl, x_var, x_c, x_bin, x_un, x_nil, x_cons, x_tup, x_lst, x_app, x_and, x_or, x_not, x_if, x_box, x_get, x_sl, x_onone, x_osome, x_snil, x_scons, x_set, x_expr, x_ret, x_retB, x_sif, x_bk, x_ct, x_aug, x_asg, x_gname, x_gnil, x_gcons, x_gtup, mkt0, mkl0, mkt1, mkl1, mkt2, mkl2, mkt3, mkl3, mkt4, mkl4, mkt5, mkl5, mkt6, mkl6, mkt7, mkl7, v_il0, v_it0, v_il1, v_it1, v_il2, v_it2, v_il3, v_it3, v_il4, v_it4, v_il5, v_it5, v_add, v_addI, v_sub, v_neg, v_mul, v_fdv, v_mod, v_cmp, v_eqs, v_nes, v_eqi, v_nei, v_eqb, v_ixc, opt_some, v_lenl, v_lent, v_lenc, v_tupt, v_tupl, v_intb, v_inti, v_max, v_isn, v_isnn, end_rt, end_nx, fz_int, fz_str, fz_bl, fz_non, List.getElem?_cons_zero, List.getElem?_cons_succ, List.set_cons_zero, List.set_cons_succ, List.length_cons, List.length_nil, List.take_length, Option.map_some, oldLoc, Bool.false_and, Bool.and_false, Bool.true_and, Bool.and_true, Bool.not_true, Bool.not_false, Bool.false_eq_true, decide_true, decide_false, decide_eq_true_eq, if_true, if_false, ↓reduceIte, Nat.reduceAdd, Nat.reduceLeDiff, x_body, ck, vn, ff, va, v_three, v_listt, i0, Int.reduceAdd]
end Lk


namespace Lk
open PySem L2 Vm
theorem progL_gd (ns : List Int) : ∀ (m k : Nat) (fs : List Fnc), (∀ f ∈ fs, f.Gd) → ∀ f ∈ progL ns m k fs, f.Gd
  | 0, k, fs, g => g
  | m + 1, k, fs, g => progL_gd ns m (k + 1) (fs ++ [stepF ns k fs]) fun f hf => by
    rcases List.mem_append.mp hf with z | z
    · exact g f z
    · obtain rfl : f = stepF ns k fs := by simpa using z
      exact step_gd ns k g
theorem step_lo (ns : List Int) (k : Nat) {fs : List Fnc} (g : ∀ f ∈ fs, f.Gd) : Row.lvls (stepF ns k fs).rows ≤ 2 := by
  have g3 : ∀ f ∈ fs.take 3, f.Gd := fun f hf => g f (List.mem_of_mem_take hf)
  unfold stepF
  split
  · show Row.lvls [] ≤ 2
    unfold Row.lvls; exact Nat.zero_le _
  · unfold functionF
    show Row.lvls (if manyF _ > 6 then _ else _) ≤ 2
    split
    · exact Nat.le_trans (gd_rows (ws_ok ns).1 (ws_ok ns).2 1 (fun h z => by cases z) _ _).2 (by omega)
    · exact (gd_rows (ws_ok ns).1 (ws_ok ns).2 2 g3 _ _).2
theorem progL_lo (ns : List Int) : ∀ (m k : Nat) (fs : List Fnc), (∀ f ∈ fs, f.Gd) → (∀ f ∈ fs, Row.lvls f.rows ≤ 2) → ∀ f ∈ progL ns m k fs, Row.lvls f.rows ≤ 2
  | 0, k, fs, _, l => l
  | m + 1, k, fs, g, l => progL_lo ns m (k + 1) (fs ++ [stepF ns k fs]) (progL_gd ns 1 k fs g) fun f hf => by
    rcases List.mem_append.mp hf with z | z
    · exact l f z
    · obtain rfl : f = stepF ns k fs := by simpa using z
      exact step_lo ns k g
theorem progL_len (ns : List Int) : ∀ (m k : Nat) (fs : List Fnc), (progL ns m k fs).length = fs.length + m
  | 0, k, fs => rfl
  | m + 1, k, fs => by
    show (progL ns m (k + 1) (fs ++ [stepF ns k fs])).length = _
    rw [progL_len ns m, List.length_append, List.length_singleton]; omega
theorem prog_loop (n : Nat) (ns : List Int) (c : Option PV) (st : VSt) : ∀ (m k : Nat) (fs : List Fnc) (y z : Option PV), k + m ≤ 8 → fs.length ≤ k → (∀ f ∈ fs, f.Gd) →
    ∃ y' z', forL (bodyP (gName 6) (fb__law_program_0 (Fm D (n + 15)))) ((List.range' k m).map fun (j : Nat) => PV.int (0 + (j : Int))) (fr8 ns (some (.tup (fs.map Fnc.pv))) c y z) st = .nx (fr8 ns (some (.tup ((progL ns m k fs).map Fnc.pv))) c y' z') st
  | 0, k, fs, y, z, _, _, _ => ⟨y, z, rfl⟩
  | m + 1, k, fs, y, z, hk, hl, g => by
    obtain ⟨z1, e1⟩ := prog_one n ns k (by omega) fs g (by omega) c y z st
    have gd := progL_gd ns 1 k fs g
    obtain ⟨y2, z2, e2⟩ := prog_loop n ns c st m (k + 1) (fs ++ [stepF ns k fs]) (some (.int (0 + (k : Int)))) z1 (by omega) (by rw [List.length_append]; show fs.length + 1 ≤ _; omega) gd
    refine ⟨y2, z2, ?_⟩
    rw [List.range'_succ, List.map_cons, forL_cons, e1]
    exact e2
def cntN (ns : List Int) : Int := if cellF ns 4 / 64 % 8 = 1 then 1 + (cellF ns 4 + 2) % 4 + 4 else 1 + (cellF ns 4 + 2) % 4
theorem cntN_r (ns : List Int) : 1 ≤ cntN ns ∧ cntN ns ≤ 8 := by
  unfold cntN
  split <;> omega
theorem prog_ne (ns : List Int) : progL ns (cntN ns).toNat 0 [] ≠ [] := fun z => by
  have hlen := progL_len ns (cntN ns).toNat 0 []
  obtain ⟨r1, r2⟩ := cntN_r ns
  rw [z] at hlen
  have : 0 = 0 + (cntN ns).toNat := hlen
  omega
/-- the drawn functions ahead of the last one, the last one, the program -/
def headsF (ns : List Int) : List Fnc := (progL ns (cntN ns).toNat 0 []).dropLast
def lastF (ns : List Int) : Fnc := (progL ns (cntN ns).toNat 0 []).getLast (prog_ne ns)
def progF (ns : List Int) : List Fnc := loopF (headsF ns) (lastF ns) (cellF ns 4 / 4)
theorem heads_last (ns : List Int) : headsF ns ++ [lastF ns] = progL ns (cntN ns).toNat 0 [] := List.dropLast_concat_getLast (prog_ne ns)
theorem heads_gd (ns : List Int) : ∀ h ∈ headsF ns ++ [lastF ns], h.Gd ∧ Row.lvls h.rows ≤ 2 := by
  rw [heads_last]
  exact fun h hh => ⟨progL_gd ns (cntN ns).toNat 0 [] (fun f h => by cases h) h hh, progL_lo ns _ 0 [] (fun f h => by cases h) (fun f h => by cases h) h hh⟩
theorem heads_len (ns : List Int) : (headsF ns).length ≤ 7 := by
  have hlen := progL_len ns (cntN ns).toNat 0 []
  obtain ⟨r1, r2⟩ := cntN_r ns
  unfold headsF
  rw [List.length_dropLast, hlen]
  show 0 + (cntN ns).toNat - 1 ≤ 7
  omega
theorem F_program (n : Nat) (ns : List Int) (st : VSt) : Fm D (n + 16) i__law_program [.scr ns, .int 2] st = .ok (.tup ((progF ns).map Fnc.pv)) st := by
  obtain ⟨r1, r2⟩ := cntN_r ns
  have hlen := progL_len ns (cntN ns).toNat 0 []
  have hgd := progL_gd ns (cntN ns).toNat 0 [] fun f h => by cases h
  have hne := prog_ne ns
  have hsp := List.dropLast_concat_getLast hne
  have fl := F_looped (n + 14) (progL ns (cntN ns).toNat 0 []).dropLast ((progL ns (cntN ns).toNat 0 []).getLast hne) (hgd _ (List.getLast_mem hne)) (by rw [List.length_dropLast, hlen]; show 0 + (cntN ns).toNat - 1 ≤ 1000; omega) (cellF ns 4 / 4) st
  rw [hsp] at fl
  obtain ⟨y, z, lp⟩ := prog_loop n ns (some (.int (cntN ns))) st (cntN ns).toNat 0 [] none none (by omega) (Nat.le_refl _) fun f h => by cases h
  rw [c__law_program]
  have c2 : ∀ s, Fm D (n + 15) i__law_cell [.scr ns, .int 2] s = .ok (.int (cellF ns 2)) s := fun s => F_cell (n + 14) ns 2 s
  have c3 : ∀ s, Fm D (n + 15) i__law_cell [.scr ns, .int 3] s = .ok (.int (cellF ns 3)) s := fun s => F_cell (n + 14) ns 3 s
  have c4 : ∀ s, Fm D (n + 15) i__law_cell [.scr ns, .int 4] s = .ok (.int (cellF ns 4)) s := fun s => F_cell (n + 14) ns 4 s
  have hv : ∀ s, Fm D (n + 15) i__law_variables [.scr ns, .int 2] s = .ok (.lst ((wsF ns).map PV.str)) s := fun s => F_vars (n + 13) ns s
  have q0 : q__law_program_0 (Fm D (n + 15)) [some (.scr ns), some (.int 2), none, none, none, none, none, none] st = .nx [some (.scr ns), some (.int 2), some (.lst ((wsF ns).map PV.str)), none, none, none, none, none] st := by
    unfold q__law_program_0
    simp -implicitDefEqProofs (disch := omega) only [x_raise, x_notL, end_ex, bind_ok, nox_ok, bind_ex, s_ex, sb_ex, s_ok, sb_nx, sb_rt, sb_ct, sb_bk, onB_bl, onBS_bl, x_var, x_c, x_bin, x_un, x_nil, x_cons, x_tup, x_lst, x_app, x_and, x_or, x_not, x_if, x_box, x_get, x_sl, x_onone, x_osome, x_snil, x_scons, x_set, x_expr, x_ret, x_retB, x_sif, x_bk, x_ct, x_aug, x_asg, x_gname, x_gnil, x_gcons, x_gtup, mkt0, mkl0, mkt1, mkl1, mkt2, mkl2, mkt3, mkl3, mkt4, mkl4, mkt5, mkl5, mkt6, mkl6, mkt7, mkl7, v_il0, v_it0, v_il1, v_it1, v_il2, v_it2, v_il3, v_it3, v_il4, v_it4, v_il5, v_it5, v_add, v_addI, v_sub, v_neg, v_mul, v_fdv, v_mod, v_cmp, v_eqs, v_nes, v_eqi, v_nei, v_eqb, v_ixc, opt_some, v_lenl, v_lent, v_lenc, v_tupt, v_tupl, v_intb, v_inti, v_max, v_isn, v_isnn, end_rt, end_nx, fz_int, fz_str, fz_bl, fz_non, List.getElem?_cons_zero, List.getElem?_cons_succ, List.set_cons_zero, List.set_cons_succ, List.length_cons, List.length_nil, List.take_length, Option.map_some, oldLoc, Bool.false_and, Bool.and_false, Bool.true_and, Bool.and_true, Bool.not_true, Bool.not_false, Bool.false_eq_true, decide_true, decide_false, decide_eq_true_eq, if_true, if_false, ↓reduceIte, Nat.reduceAdd, Nat.reduceLeDiff, hv]
  have q1 : q__law_program_1 (Fm D (n + 15)) [some (.scr ns), some (.int 2), some (.lst ((wsF ns).map PV.str)), none, none, none, none, none] st = .nx [some (.scr ns), some (.int 2), some (.lst ((wsF ns).map PV.str)), some (.lst ((nmF ns).map PV.str)), none, none, none, none] st := by
    unfold q__law_program_1 nmF
    by_cases k : cellF ns 3 % 8 = 3
    · have w : ∀ s, Fm D (n + 15) i__law_words [.int (cellF ns 2), .int 8] s = .ok (.lst ((wordsF (cellF ns 2) 8).map PV.str)) s := fun s => F_words (n + 14) _ 8 (by omega) s
      rw [if_pos k]
      simp -implicitDefEqProofs (disch := omega) only [x_raise, x_notL, end_ex, bind_ok, nox_ok, bind_ex, s_ex, sb_ex, s_ok, sb_nx, sb_rt, sb_ct, sb_bk, onB_bl, onBS_bl, x_var, x_c, x_bin, x_un, x_nil, x_cons, x_tup, x_lst, x_app, x_and, x_or, x_not, x_if, x_box, x_get, x_sl, x_onone, x_osome, x_snil, x_scons, x_set, x_expr, x_ret, x_retB, x_sif, x_bk, x_ct, x_aug, x_asg, x_gname, x_gnil, x_gcons, x_gtup, mkt0, mkl0, mkt1, mkl1, mkt2, mkl2, mkt3, mkl3, mkt4, mkl4, mkt5, mkl5, mkt6, mkl6, mkt7, mkl7, v_il0, v_it0, v_il1, v_it1, v_il2, v_it2, v_il3, v_it3, v_il4, v_it4, v_il5, v_it5, v_add, v_addI, v_sub, v_neg, v_mul, v_fdv, v_mod, v_cmp, v_eqs, v_nes, v_eqi, v_nei, v_eqb, v_ixc, opt_some, v_lenl, v_lent, v_lenc, v_tupt, v_tupl, v_intb, v_inti, v_max, v_isn, v_isnn, end_rt, end_nx, fz_int, fz_str, fz_bl, fz_non, List.getElem?_cons_zero, List.getElem?_cons_succ, List.set_cons_zero, List.set_cons_succ, List.length_cons, List.length_nil, List.take_length, Option.map_some, oldLoc, Bool.false_and, Bool.and_false, Bool.true_and, Bool.and_true, Bool.not_true, Bool.not_false, Bool.false_eq_true, decide_true, decide_false, decide_eq_true_eq, if_true, if_false, ↓reduceIte, Nat.reduceAdd, Nat.reduceLeDiff, c2, c3, k, w, Int.reduceAdd, Int.reduceSub]
    · have w : ∀ s, Fm D (n + 15) i__law_words [.int (cellF ns 3), .int 8] s = .ok (.lst ((wordsF (cellF ns 3) 8).map PV.str)) s := fun s => F_words (n + 14) _ 8 (by omega) s
      have k' : decide (cellF ns 3 % 8 = 3) = false := decide_eq_false k
      rw [if_neg k]
      simp -implicitDefEqProofs (disch := omega) only [x_raise, x_notL, end_ex, bind_ok, nox_ok, bind_ex, s_ex, sb_ex, s_ok, sb_nx, sb_rt, sb_ct, sb_bk, onB_bl, onBS_bl, x_var, x_c, x_bin, x_un, x_nil, x_cons, x_tup, x_lst, x_app, x_and, x_or, x_not, x_if, x_box, x_get, x_sl, x_onone, x_osome, x_snil, x_scons, x_set, x_expr, x_ret, x_retB, x_sif, x_bk, x_ct, x_aug, x_asg, x_gname, x_gnil, x_gcons, x_gtup, mkt0, mkl0, mkt1, mkl1, mkt2, mkl2, mkt3, mkl3, mkt4, mkl4, mkt5, mkl5, mkt6, mkl6, mkt7, mkl7, v_il0, v_it0, v_il1, v_it1, v_il2, v_it2, v_il3, v_it3, v_il4, v_it4, v_il5, v_it5, v_add, v_addI, v_sub, v_neg, v_mul, v_fdv, v_mod, v_cmp, v_eqs, v_nes, v_eqi, v_nei, v_eqb, v_ixc, opt_some, v_lenl, v_lent, v_lenc, v_tupt, v_tupl, v_intb, v_inti, v_max, v_isn, v_isnn, end_rt, end_nx, fz_int, fz_str, fz_bl, fz_non, List.getElem?_cons_zero, List.getElem?_cons_succ, List.set_cons_zero, List.set_cons_succ, List.length_cons, List.length_nil, List.take_length, Option.map_some, oldLoc, Bool.false_and, Bool.and_false, Bool.true_and, Bool.and_true, Bool.not_true, Bool.not_false, Bool.false_eq_true, decide_true, decide_false, decide_eq_true_eq, if_true, if_false, ↓reduceIte, Nat.reduceAdd, Nat.reduceLeDiff, c2, c3, k', w, Int.reduceAdd, Int.sub_zero]
  have q2 : q__law_program_2 (Fm D (n + 15)) [some (.scr ns), some (.int 2), some (.lst ((wsF ns).map PV.str)), some (.lst ((nmF ns).map PV.str)), none, none, none, none] st = .nx (fr8 ns (some (.tup [])) none none none) st := by
    unfold q__law_program_2
    simp -implicitDefEqProofs (disch := omega) only [x_raise, x_notL, end_ex, bind_ok, nox_ok, bind_ex, s_ex, sb_ex, s_ok, sb_nx, sb_rt, sb_ct, sb_bk, onB_bl, onBS_bl, x_var, x_c, x_bin, x_un, x_nil, x_cons, x_tup, x_lst, x_app, x_and, x_or, x_not, x_if, x_box, x_get, x_sl, x_onone, x_osome, x_snil, x_scons, x_set, x_expr, x_ret, x_retB, x_sif, x_bk, x_ct, x_aug, x_asg, x_gname, x_gnil, x_gcons, x_gtup, mkt0, mkl0, mkt1, mkl1, mkt2, mkl2, mkt3, mkl3, mkt4, mkl4, mkt5, mkl5, mkt6, mkl6, mkt7, mkl7, v_il0, v_it0, v_il1, v_it1, v_il2, v_it2, v_il3, v_it3, v_il4, v_it4, v_il5, v_it5, v_add, v_addI, v_sub, v_neg, v_mul, v_fdv, v_mod, v_cmp, v_eqs, v_nes, v_eqi, v_nei, v_eqb, v_ixc, opt_some, v_lenl, v_lent, v_lenc, v_tupt, v_tupl, v_intb, v_inti, v_max, v_isn, v_isnn, end_rt, end_nx, fz_int, fz_str, fz_bl, fz_non, List.getElem?_cons_zero, List.getElem?_cons_succ, List.set_cons_zero, List.set_cons_succ, List.length_cons, List.length_nil, List.take_length, Option.map_some, oldLoc, Bool.false_and, Bool.and_false, Bool.true_and, Bool.and_true, Bool.not_true, Bool.not_false, Bool.false_eq_true, decide_true, decide_false, decide_eq_true_eq, if_true, if_false, ↓reduceIte, Nat.reduceAdd, Nat.reduceLeDiff]
  have q34 : ∃ q, q = cntN ns ∧ (q__law_program_3 (Fm D (n + 15)) (fr8 ns (some (.tup [])) none none none) st).bind (q__law_program_4 (Fm D (n + 15))) = .nx (fr8 ns (some (.tup [])) (some (.int q)) none none) st := by
    unfold q__law_program_3 q__law_program_4 cntN
    by_cases k : cellF ns 4 / 64 % 8 = 1
    · refine ⟨_, by rw [if_pos k], ?_⟩
      simp -implicitDefEqProofs (disch := omega) only [x_raise, x_notL, end_ex, bind_ok, nox_ok, bind_ex, s_ex, sb_ex, s_ok, sb_nx, sb_rt, sb_ct, sb_bk, onB_bl, onBS_bl, x_var, x_c, x_bin, x_un, x_nil, x_cons, x_tup, x_lst, x_app, x_and, x_or, x_not, x_if, x_box, x_get, x_sl, x_onone, x_osome, x_snil, x_scons, x_set, x_expr, x_ret, x_retB, x_sif, x_bk, x_ct, x_aug, x_asg, x_gname, x_gnil, x_gcons, x_gtup, mkt0, mkl0, mkt1, mkl1, mkt2, mkl2, mkt3, mkl3, mkt4, mkl4, mkt5, mkl5, mkt6, mkl6, mkt7, mkl7, v_il0, v_it0, v_il1, v_it1, v_il2, v_it2, v_il3, v_it3, v_il4, v_it4, v_il5, v_it5, v_add, v_addI, v_sub, v_neg, v_mul, v_fdv, v_mod, v_cmp, v_eqs, v_nes, v_eqi, v_nei, v_eqb, v_ixc, opt_some, v_lenl, v_lent, v_lenc, v_tupt, v_tupl, v_intb, v_inti, v_max, v_isn, v_isnn, end_rt, end_nx, fz_int, fz_str, fz_bl, fz_non, List.getElem?_cons_zero, List.getElem?_cons_succ, List.set_cons_zero, List.set_cons_succ, List.length_cons, List.length_nil, List.take_length, Option.map_some, oldLoc, Bool.false_and, Bool.and_false, Bool.true_and, Bool.and_true, Bool.not_true, Bool.not_false, Bool.false_eq_true, decide_true, decide_false, decide_eq_true_eq, if_true, if_false, ↓reduceIte, Nat.reduceAdd, Nat.reduceLeDiff, c4, k, Int.reduceAdd]
    · have k' : decide (cellF ns 4 / 64 % 8 = 1) = false := decide_eq_false k
      refine ⟨_, by rw [if_neg k], ?_⟩
      simp -implicitDefEqProofs (disch := omega) only [x_raise, x_notL, end_ex, bind_ok, nox_ok, bind_ex, s_ex, sb_ex, s_ok, sb_nx, sb_rt, sb_ct, sb_bk, onB_bl, onBS_bl, x_var, x_c, x_bin, x_un, x_nil, x_cons, x_tup, x_lst, x_app, x_and, x_or, x_not, x_if, x_box, x_get, x_sl, x_onone, x_osome, x_snil, x_scons, x_set, x_expr, x_ret, x_retB, x_sif, x_bk, x_ct, x_aug, x_asg, x_gname, x_gnil, x_gcons, x_gtup, mkt0, mkl0, mkt1, mkl1, mkt2, mkl2, mkt3, mkl3, mkt4, mkl4, mkt5, mkl5, mkt6, mkl6, mkt7, mkl7, v_il0, v_it0, v_il1, v_it1, v_il2, v_it2, v_il3, v_it3, v_il4, v_it4, v_il5, v_it5, v_add, v_addI, v_sub, v_neg, v_mul, v_fdv, v_mod, v_cmp, v_eqs, v_nes, v_eqi, v_nei, v_eqb, v_ixc, opt_some, v_lenl, v_lent, v_lenc, v_tupt, v_tupl, v_intb, v_inti, v_max, v_isn, v_isnn, end_rt, end_nx, fz_int, fz_str, fz_bl, fz_non, List.getElem?_cons_zero, List.getElem?_cons_succ, List.set_cons_zero, List.set_cons_succ, List.length_cons, List.length_nil, List.take_length, Option.map_some, oldLoc, Bool.false_and, Bool.and_false, Bool.true_and, Bool.and_true, Bool.not_true, Bool.not_false, Bool.false_eq_true, decide_true, decide_false, decide_eq_true_eq, if_true, if_false, ↓reduceIte, Nat.reduceAdd, Nat.reduceLeDiff, c4, k', Int.reduceAdd]
  obtain ⟨q, rfl, q34⟩ := q34
  have q5 : q__law_program_5 (Fm D (n + 15)) (fr8 ns (some (.tup [])) (some (.int (cntN ns))) none none) st = .nx (fr8 ns (some (.tup ((progL ns (cntN ns).toNat 0 []).map Fnc.pv))) (some (.int (cntN ns))) y z) st := by
    have hf := for_rng (a := eVar 5) (g := gName 6) (body := fb__law_program_0 (Fm D (n + 15))) (env := fr8 ns (some (.tup [])) (some (.int (cntN ns))) none none) (st := st) (st' := st) (i := cntN ns) rfl (by omega) (by omega)
    rw [List.range_eq_range'] at hf
    exact hf.trans lp
  have q6 : q__law_program_6 (Fm D (n + 15)) (fr8 ns (some (.tup ((progL ns (cntN ns).toNat 0 []).map Fnc.pv))) (some (.int (cntN ns))) y z) st = .rt (.tup ((loopF (progL ns (cntN ns).toNat 0 []).dropLast ((progL ns (cntN ns).toNat 0 []).getLast hne) (cellF ns 4 / 4)).map Fnc.pv)) st := by
    unfold q__law_program_6
    simp -implicitDefEqProofs (disch := omega) only [x_raise, x_notL, end_ex, bind_ok, nox_ok, bind_ex, s_ex, sb_ex, s_ok, sb_nx, sb_rt, sb_ct, sb_bk, onB_bl, onBS_bl, x_var, x_c, x_bin, x_un, x_nil, x_cons, x_tup, x_lst, x_app, x_and, x_or, x_not, x_if, x_box, x_get, x_sl, x_onone, x_osome, x_snil, x_scons, x_set, x_expr, x_ret, x_retB, x_sif, x_bk, x_ct, x_aug, x_asg, x_gname, x_gnil, x_gcons, x_gtup, mkt0, mkl0, mkt1, mkl1, mkt2, mkl2, mkt3, mkl3, mkt4, mkl4, mkt5, mkl5, mkt6, mkl6, mkt7, mkl7, v_il0, v_it0, v_il1, v_it1, v_il2, v_it2, v_il3, v_it3, v_il4, v_it4, v_il5, v_it5, v_add, v_addI, v_sub, v_neg, v_mul, v_fdv, v_mod, v_cmp, v_eqs, v_nes, v_eqi, v_nei, v_eqb, v_ixc, opt_some, v_lenl, v_lent, v_lenc, v_tupt, v_tupl, v_intb, v_inti, v_max, v_isn, v_isnn, end_rt, end_nx, fz_int, fz_str, fz_bl, fz_non, List.getElem?_cons_zero, List.getElem?_cons_succ, List.set_cons_zero, List.set_cons_succ, List.length_cons, List.length_nil, List.take_length, Option.map_some, oldLoc, Bool.false_and, Bool.and_false, Bool.true_and, Bool.and_true, Bool.not_true, Bool.not_false, Bool.false_eq_true, decide_true, decide_false, decide_eq_true_eq, if_true, if_false, ↓reduceIte, Nat.reduceAdd, Nat.reduceLeDiff, c4, fl, Int.reduceAdd]
  have fz : ∀ fs : List Fnc, freeze st st.length (.tup (fs.map Fnc.pv)) = .tup (fs.map Fnc.pv) := fun fs => freeze_pure (.tup (fs.map Fnc.pv)) (fncs_pure fs)
  rw [b__law_program_q, x_scons, q0, sb_nx, x_scons, q1, sb_nx, x_scons, q2, sb_nx, x_scons]
  show endI false st.length ((q__law_program_3 (Fm D (n + 15)) (fr8 ns (some (.tup [])) none none none) st).bind (sCons (q__law_program_4 (Fm D (n + 15))) (sCons (q__law_program_5 (Fm D (n + 15))) (sCons (q__law_program_6 (Fm D (n + 15))) sNil)))) = _
  have ass : ∀ (r : SR) (a b : SM), r.bind (sCons a b) = (r.bind a).bind b := fun r a b => by cases r <;> rfl
  rw [ass, q34, sb_nx, x_scons, q5, sb_nx, x_scons, q6, sb_rt, end_rt, fz, List.take_length]
  exact Eq.trans rfl rfl
end Lk


namespace Lk
open PySem L2 Vm
/-! ## how much stands in a row -/
mutual
def Row.sz : Row → Nat
  | .set _ t => t.size + 1
  | .tell t => t.size + 1
  | .call _ _ ts => tot ts + 1
  | .when t rs => t.size + Row.szs rs + 1
  | .again _ rs => Row.szs rs + 1
def Row.szs : List Row → Nat
  | [] => 0
  | r :: rs => r.sz + Row.szs rs
end
theorem szs_cons (r : Row) (rs : List Row) : Row.szs (r :: rs) = r.sz + Row.szs rs := by rw [Row.szs]
theorem szs_nil : Row.szs [] = 0 := by rw [Row.szs]
theorem sz_when (t : Trm) (rs : List Row) : (Row.when t rs).sz = t.size + Row.szs rs + 1 := by rw [Row.sz]
theorem sz_again (t : Int) (rs : List Row) : (Row.again t rs).sz = Row.szs rs + 1 := by rw [Row.sz]
theorem lvls_cons (r : Row) (rs : List Row) : Row.lvls (r :: rs) = max r.lvl (Row.lvls rs) := by rw [Row.lvls]
theorem lvl_when (t : Trm) (rs : List Row) : (Row.when t rs).lvl = Row.lvls rs + 1 := by rw [Row.lvl]
theorem lvl_again (t : Int) (rs : List Row) : (Row.again t rs).lvl = Row.lvls rs + 1 := by rw [Row.lvl]
theorem gds_cons (r : Row) (rs : List Row) : Row.Gds (r :: rs) ↔ r.Gd ∧ Row.Gds rs := by rw [Row.Gds]
theorem gd_when {t : Trm} {rs : List Row} (g : (Row.when t rs).Gd) : Row.Gds rs := by unfold Row.Gd at g; exact g.2.2
theorem gd_again {t : Int} {rs : List Row} (g : (Row.again t rs).Gd) : Row.Gds rs := by unfold Row.Gd at g; exact g.2.2
theorem tot_own (r : Row) : tot (ownT r) ≤ r.sz := by
  cases r with
  | set x t => rw [Row.sz]; show tot [t] ≤ _; unfold tot tot; omega
  | tell t => rw [Row.sz]; show tot [t] ≤ _; unfold tot tot; omega
  | call x f ts => rw [Row.sz]; exact Nat.le_succ _
  | when t rs => rw [Row.sz]; show tot [t] ≤ _; unfold tot tot; omega
  | again m rs => exact Nat.zero_le _
theorem size_tot {t : Trm} : ∀ {ts : List Trm}, t ∈ ts → t.size ≤ tot ts
  | [], h => by cases h
  | s :: ts, h => by
    unfold tot
    rcases List.mem_cons.mp h with rfl | h
    · omega
    · have := size_tot h; omega
theorem kindB (r : Row) : (∃ t rs, r = .when t rs) ∨ (∃ m rs, r = .again m rs) ∨ blkF r = [] := by
  cases r with
  | when t rs => exact .inl ⟨t, rs, rfl⟩
  | again m rs => exact .inr (.inl ⟨m, rs, rfl⟩)
  | _ => exact .inr (.inr rfl)
theorem blk_gd {r : Row} (g : r.Gd) : Row.Gds (blkF r) := by
  cases r with
  | when t rs => exact gd_when g
  | again m rs => exact gd_again g
  | _ => show Row.Gds []; unfold Row.Gds; trivial
theorem blk_sz (r : Row) : Row.szs (blkF r) ≤ r.sz := by
  cases r with
  | when t rs => rw [sz_when]; show Row.szs rs ≤ _; omega
  | again m rs => rw [sz_again]; show Row.szs rs ≤ _; omega
  | _ => show Row.szs [] ≤ _; rw [szs_nil]; omega
theorem sz_mem {r : Row} : ∀ {rs : List Row}, r ∈ rs → r.sz ≤ Row.szs rs
  | [], h => by cases h
  | s :: rs, h => by
    rw [szs_cons]
    rcases List.mem_cons.mp h with rfl | h
    · omega
    · have := sz_mem h; omega
theorem lvl_mem {r : Row} : ∀ {rs : List Row}, r ∈ rs → r.lvl ≤ Row.lvls rs
  | [], h => by cases h
  | s :: rs, h => by
    rw [lvls_cons]
    rcases List.mem_cons.mp h with rfl | h
    · omega
    · have := lvl_mem h; omega
theorem gd_mem {r : Row} : ∀ {rs : List Row}, Row.Gds rs → r ∈ rs → r.Gd
  | [], _, h => by cases h
  | s :: rs, g, h => by
    rw [gds_cons] at g
    rcases List.mem_cons.mp h with rfl | h
    · exact g.1
    · exact gd_mem g.2 h
/-! ## the program's small functions on rows -/
theorem fz_trms {s : VSt} {k : Nat} (ts : List Trm) : freezes s k (ts.map Trm.pv) = ts.map Trm.pv := freezes_pure _ (trms_pure ts)
theorem F_own_terms {n : Nat} (h : 1 ≤ n) (r : Row) (st : VSt) : Fm D n i_own_terms [r.pv] st = .ok (.tup ((ownT r).map Trm.pv)) st := by
  obtain ⟨m, rfl⟩ := ge_add h
  rw [c_own_terms]
  unfold b_own_terms
  cases r with
  | set x t => rw [Row.pv]; simp -implicitDefEqProofs (disch := omega) only [x_raise, x_notL, end_ex, bind_ok, nox_ok, bind_ex, s_ex, sb_ex, s_ok, sb_nx, sb_rt, sb_ct, sb_bk, onB_bl, onBS_bl, x_var, x_c, x_bin, x_un, x_nil, x_cons, x_tup, x_lst, x_app, x_and, x_or, x_not, x_if, x_box, x_get, x_sl, x_onone, x_osome, x_snil, x_scons, x_set, x_expr, x_ret, x_retB, x_sif, x_bk, x_ct, x_aug, x_asg, x_gname, x_gnil, x_gcons, x_gtup, mkt0, mkl0, mkt1, mkl1, mkt2, mkl2, mkt3, mkl3, mkt4, mkl4, mkt5, mkl5, mkt6, mkl6, mkt7, mkl7, v_il0, v_it0, v_il1, v_it1, v_il2, v_it2, v_il3, v_it3, v_il4, v_it4, v_il5, v_it5, v_add, v_addI, v_sub, v_neg, v_mul, v_fdv, v_mod, v_cmp, v_eqs, v_nes, v_eqi, v_nei, v_eqb, v_ixc, opt_some, v_lenl, v_lent, v_lenc, v_tupt, v_tupl, v_intb, v_inti, v_max, v_isn, v_isnn, end_rt, end_nx, fz_int, fz_str, fz_bl, fz_non, List.getElem?_cons_zero, List.getElem?_cons_succ, List.set_cons_zero, List.set_cons_succ, List.length_cons, List.length_nil, List.take_length, Option.map_some, oldLoc, Bool.false_and, Bool.and_false, Bool.true_and, Bool.and_true, Bool.not_true, Bool.not_false, Bool.false_eq_true, decide_true, decide_false, decide_eq_true_eq, if_true, if_false, ↓reduceIte, Nat.reduceAdd, Nat.reduceLeDiff, ownT, List.map_cons, List.map_nil, fz_tup, fzs_cons, fzs_nil, fz_tm]
  | tell t => rw [Row.pv]; simp -implicitDefEqProofs (disch := omega) only [x_raise, x_notL, end_ex, bind_ok, nox_ok, bind_ex, s_ex, sb_ex, s_ok, sb_nx, sb_rt, sb_ct, sb_bk, onB_bl, onBS_bl, x_var, x_c, x_bin, x_un, x_nil, x_cons, x_tup, x_lst, x_app, x_and, x_or, x_not, x_if, x_box, x_get, x_sl, x_onone, x_osome, x_snil, x_scons, x_set, x_expr, x_ret, x_retB, x_sif, x_bk, x_ct, x_aug, x_asg, x_gname, x_gnil, x_gcons, x_gtup, mkt0, mkl0, mkt1, mkl1, mkt2, mkl2, mkt3, mkl3, mkt4, mkl4, mkt5, mkl5, mkt6, mkl6, mkt7, mkl7, v_il0, v_it0, v_il1, v_it1, v_il2, v_it2, v_il3, v_it3, v_il4, v_it4, v_il5, v_it5, v_add, v_addI, v_sub, v_neg, v_mul, v_fdv, v_mod, v_cmp, v_eqs, v_nes, v_eqi, v_nei, v_eqb, v_ixc, opt_some, v_lenl, v_lent, v_lenc, v_tupt, v_tupl, v_intb, v_inti, v_max, v_isn, v_isnn, end_rt, end_nx, fz_int, fz_str, fz_bl, fz_non, List.getElem?_cons_zero, List.getElem?_cons_succ, List.set_cons_zero, List.set_cons_succ, List.length_cons, List.length_nil, List.take_length, Option.map_some, oldLoc, Bool.false_and, Bool.and_false, Bool.true_and, Bool.and_true, Bool.not_true, Bool.not_false, Bool.false_eq_true, decide_true, decide_false, decide_eq_true_eq, if_true, if_false, ↓reduceIte, Nat.reduceAdd, Nat.reduceLeDiff, ownT, k_ts, k_tc, k_ta, List.map_cons, List.map_nil, fz_tup, fzs_cons, fzs_nil, fz_tm]
  | call x f ts => rw [Row.pv]; simp -implicitDefEqProofs (disch := omega) only [x_raise, x_notL, end_ex, bind_ok, nox_ok, bind_ex, s_ex, sb_ex, s_ok, sb_nx, sb_rt, sb_ct, sb_bk, onB_bl, onBS_bl, x_var, x_c, x_bin, x_un, x_nil, x_cons, x_tup, x_lst, x_app, x_and, x_or, x_not, x_if, x_box, x_get, x_sl, x_onone, x_osome, x_snil, x_scons, x_set, x_expr, x_ret, x_retB, x_sif, x_bk, x_ct, x_aug, x_asg, x_gname, x_gnil, x_gcons, x_gtup, mkt0, mkl0, mkt1, mkl1, mkt2, mkl2, mkt3, mkl3, mkt4, mkl4, mkt5, mkl5, mkt6, mkl6, mkt7, mkl7, v_il0, v_it0, v_il1, v_it1, v_il2, v_it2, v_il3, v_it3, v_il4, v_it4, v_il5, v_it5, v_add, v_addI, v_sub, v_neg, v_mul, v_fdv, v_mod, v_cmp, v_eqs, v_nes, v_eqi, v_nei, v_eqb, v_ixc, opt_some, v_lenl, v_lent, v_lenc, v_tupt, v_tupl, v_intb, v_inti, v_max, v_isn, v_isnn, end_rt, end_nx, fz_int, fz_str, fz_bl, fz_non, List.getElem?_cons_zero, List.getElem?_cons_succ, List.set_cons_zero, List.set_cons_succ, List.length_cons, List.length_nil, List.take_length, Option.map_some, oldLoc, Bool.false_and, Bool.and_false, Bool.true_and, Bool.and_true, Bool.not_true, Bool.not_false, Bool.false_eq_true, decide_true, decide_false, decide_eq_true_eq, if_true, if_false, ↓reduceIte, Nat.reduceAdd, Nat.reduceLeDiff, ownT, k_cs, fz_tup, fz_trms]
  | when t rs => rw [Row.pv]; simp -implicitDefEqProofs (disch := omega) only [x_raise, x_notL, end_ex, bind_ok, nox_ok, bind_ex, s_ex, sb_ex, s_ok, sb_nx, sb_rt, sb_ct, sb_bk, onB_bl, onBS_bl, x_var, x_c, x_bin, x_un, x_nil, x_cons, x_tup, x_lst, x_app, x_and, x_or, x_not, x_if, x_box, x_get, x_sl, x_onone, x_osome, x_snil, x_scons, x_set, x_expr, x_ret, x_retB, x_sif, x_bk, x_ct, x_aug, x_asg, x_gname, x_gnil, x_gcons, x_gtup, mkt0, mkl0, mkt1, mkl1, mkt2, mkl2, mkt3, mkl3, mkt4, mkl4, mkt5, mkl5, mkt6, mkl6, mkt7, mkl7, v_il0, v_it0, v_il1, v_it1, v_il2, v_it2, v_il3, v_it3, v_il4, v_it4, v_il5, v_it5, v_add, v_addI, v_sub, v_neg, v_mul, v_fdv, v_mod, v_cmp, v_eqs, v_nes, v_eqi, v_nei, v_eqb, v_ixc, opt_some, v_lenl, v_lent, v_lenc, v_tupt, v_tupl, v_intb, v_inti, v_max, v_isn, v_isnn, end_rt, end_nx, fz_int, fz_str, fz_bl, fz_non, List.getElem?_cons_zero, List.getElem?_cons_succ, List.set_cons_zero, List.set_cons_succ, List.length_cons, List.length_nil, List.take_length, Option.map_some, oldLoc, Bool.false_and, Bool.and_false, Bool.true_and, Bool.and_true, Bool.not_true, Bool.not_false, Bool.false_eq_true, decide_true, decide_false, decide_eq_true_eq, if_true, if_false, ↓reduceIte, Nat.reduceAdd, Nat.reduceLeDiff, ownT, k_ws, k_wc, k_wa, List.map_cons, List.map_nil, fz_tup, fzs_cons, fzs_nil, fz_tm]
  | again m rs => rw [Row.pv]; simp -implicitDefEqProofs (disch := omega) only [x_raise, x_notL, end_ex, bind_ok, nox_ok, bind_ex, s_ex, sb_ex, s_ok, sb_nx, sb_rt, sb_ct, sb_bk, onB_bl, onBS_bl, x_var, x_c, x_bin, x_un, x_nil, x_cons, x_tup, x_lst, x_app, x_and, x_or, x_not, x_if, x_box, x_get, x_sl, x_onone, x_osome, x_snil, x_scons, x_set, x_expr, x_ret, x_retB, x_sif, x_bk, x_ct, x_aug, x_asg, x_gname, x_gnil, x_gcons, x_gtup, mkt0, mkl0, mkt1, mkl1, mkt2, mkl2, mkt3, mkl3, mkt4, mkl4, mkt5, mkl5, mkt6, mkl6, mkt7, mkl7, v_il0, v_it0, v_il1, v_it1, v_il2, v_it2, v_il3, v_it3, v_il4, v_it4, v_il5, v_it5, v_add, v_addI, v_sub, v_neg, v_mul, v_fdv, v_mod, v_cmp, v_eqs, v_nes, v_eqi, v_nei, v_eqb, v_ixc, opt_some, v_lenl, v_lent, v_lenc, v_tupt, v_tupl, v_intb, v_inti, v_max, v_isn, v_isnn, end_rt, end_nx, fz_int, fz_str, fz_bl, fz_non, List.getElem?_cons_zero, List.getElem?_cons_succ, List.set_cons_zero, List.set_cons_succ, List.length_cons, List.length_nil, List.take_length, Option.map_some, oldLoc, Bool.false_and, Bool.and_false, Bool.true_and, Bool.and_true, Bool.not_true, Bool.not_false, Bool.false_eq_true, decide_true, decide_false, decide_eq_true_eq, if_true, if_false, ↓reduceIte, Nat.reduceAdd, Nat.reduceLeDiff, ownT, k_as, k_ac, List.map_nil, fz_tup, fzs_nil]
theorem F_own_set {n : Nat} (h : 1 ≤ n) (r : Row) (st : VSt) : Fm D n i_own_set [r.pv] st = .ok (optS (tgtF r)) st := by
  obtain ⟨m, rfl⟩ := ge_add h
  rw [c_own_set]
  unfold b_own_set
  cases r with
  | set x t => rw [Row.pv]; simp -implicitDefEqProofs (disch := omega) only [x_raise, x_notL, end_ex, bind_ok, nox_ok, bind_ex, s_ex, sb_ex, s_ok, sb_nx, sb_rt, sb_ct, sb_bk, onB_bl, onBS_bl, x_var, x_c, x_bin, x_un, x_nil, x_cons, x_tup, x_lst, x_app, x_and, x_or, x_not, x_if, x_box, x_get, x_sl, x_onone, x_osome, x_snil, x_scons, x_set, x_expr, x_ret, x_retB, x_sif, x_bk, x_ct, x_aug, x_asg, x_gname, x_gnil, x_gcons, x_gtup, mkt0, mkl0, mkt1, mkl1, mkt2, mkl2, mkt3, mkl3, mkt4, mkl4, mkt5, mkl5, mkt6, mkl6, mkt7, mkl7, v_il0, v_it0, v_il1, v_it1, v_il2, v_it2, v_il3, v_it3, v_il4, v_it4, v_il5, v_it5, v_add, v_addI, v_sub, v_neg, v_mul, v_fdv, v_mod, v_cmp, v_eqs, v_nes, v_eqi, v_nei, v_eqb, v_ixc, opt_some, v_lenl, v_lent, v_lenc, v_tupt, v_tupl, v_intb, v_inti, v_max, v_isn, v_isnn, end_rt, end_nx, fz_int, fz_str, fz_bl, fz_non, List.getElem?_cons_zero, List.getElem?_cons_succ, List.set_cons_zero, List.set_cons_succ, List.length_cons, List.length_nil, List.take_length, Option.map_some, oldLoc, Bool.false_and, Bool.and_false, Bool.true_and, Bool.and_true, Bool.not_true, Bool.not_false, Bool.false_eq_true, decide_true, decide_false, decide_eq_true_eq, if_true, if_false, ↓reduceIte, Nat.reduceAdd, Nat.reduceLeDiff, tgtF, optS]
  | tell t => rw [Row.pv]; simp -implicitDefEqProofs (disch := omega) only [x_raise, x_notL, end_ex, bind_ok, nox_ok, bind_ex, s_ex, sb_ex, s_ok, sb_nx, sb_rt, sb_ct, sb_bk, onB_bl, onBS_bl, x_var, x_c, x_bin, x_un, x_nil, x_cons, x_tup, x_lst, x_app, x_and, x_or, x_not, x_if, x_box, x_get, x_sl, x_onone, x_osome, x_snil, x_scons, x_set, x_expr, x_ret, x_retB, x_sif, x_bk, x_ct, x_aug, x_asg, x_gname, x_gnil, x_gcons, x_gtup, mkt0, mkl0, mkt1, mkl1, mkt2, mkl2, mkt3, mkl3, mkt4, mkl4, mkt5, mkl5, mkt6, mkl6, mkt7, mkl7, v_il0, v_it0, v_il1, v_it1, v_il2, v_it2, v_il3, v_it3, v_il4, v_it4, v_il5, v_it5, v_add, v_addI, v_sub, v_neg, v_mul, v_fdv, v_mod, v_cmp, v_eqs, v_nes, v_eqi, v_nei, v_eqb, v_ixc, opt_some, v_lenl, v_lent, v_lenc, v_tupt, v_tupl, v_intb, v_inti, v_max, v_isn, v_isnn, end_rt, end_nx, fz_int, fz_str, fz_bl, fz_non, List.getElem?_cons_zero, List.getElem?_cons_succ, List.set_cons_zero, List.set_cons_succ, List.length_cons, List.length_nil, List.take_length, Option.map_some, oldLoc, Bool.false_and, Bool.and_false, Bool.true_and, Bool.and_true, Bool.not_true, Bool.not_false, Bool.false_eq_true, decide_true, decide_false, decide_eq_true_eq, if_true, if_false, ↓reduceIte, Nat.reduceAdd, Nat.reduceLeDiff, tgtF, optS, k_ts, k_tc]
  | call x f ts => rw [Row.pv]; simp -implicitDefEqProofs (disch := omega) only [x_raise, x_notL, end_ex, bind_ok, nox_ok, bind_ex, s_ex, sb_ex, s_ok, sb_nx, sb_rt, sb_ct, sb_bk, onB_bl, onBS_bl, x_var, x_c, x_bin, x_un, x_nil, x_cons, x_tup, x_lst, x_app, x_and, x_or, x_not, x_if, x_box, x_get, x_sl, x_onone, x_osome, x_snil, x_scons, x_set, x_expr, x_ret, x_retB, x_sif, x_bk, x_ct, x_aug, x_asg, x_gname, x_gnil, x_gcons, x_gtup, mkt0, mkl0, mkt1, mkl1, mkt2, mkl2, mkt3, mkl3, mkt4, mkl4, mkt5, mkl5, mkt6, mkl6, mkt7, mkl7, v_il0, v_it0, v_il1, v_it1, v_il2, v_it2, v_il3, v_it3, v_il4, v_it4, v_il5, v_it5, v_add, v_addI, v_sub, v_neg, v_mul, v_fdv, v_mod, v_cmp, v_eqs, v_nes, v_eqi, v_nei, v_eqb, v_ixc, opt_some, v_lenl, v_lent, v_lenc, v_tupt, v_tupl, v_intb, v_inti, v_max, v_isn, v_isnn, end_rt, end_nx, fz_int, fz_str, fz_bl, fz_non, List.getElem?_cons_zero, List.getElem?_cons_succ, List.set_cons_zero, List.set_cons_succ, List.length_cons, List.length_nil, List.take_length, Option.map_some, oldLoc, Bool.false_and, Bool.and_false, Bool.true_and, Bool.and_true, Bool.not_true, Bool.not_false, Bool.false_eq_true, decide_true, decide_false, decide_eq_true_eq, if_true, if_false, ↓reduceIte, Nat.reduceAdd, Nat.reduceLeDiff, tgtF, k_cs, fz_opt]
  | when t rs => rw [Row.pv]; simp -implicitDefEqProofs (disch := omega) only [x_raise, x_notL, end_ex, bind_ok, nox_ok, bind_ex, s_ex, sb_ex, s_ok, sb_nx, sb_rt, sb_ct, sb_bk, onB_bl, onBS_bl, x_var, x_c, x_bin, x_un, x_nil, x_cons, x_tup, x_lst, x_app, x_and, x_or, x_not, x_if, x_box, x_get, x_sl, x_onone, x_osome, x_snil, x_scons, x_set, x_expr, x_ret, x_retB, x_sif, x_bk, x_ct, x_aug, x_asg, x_gname, x_gnil, x_gcons, x_gtup, mkt0, mkl0, mkt1, mkl1, mkt2, mkl2, mkt3, mkl3, mkt4, mkl4, mkt5, mkl5, mkt6, mkl6, mkt7, mkl7, v_il0, v_it0, v_il1, v_it1, v_il2, v_it2, v_il3, v_it3, v_il4, v_it4, v_il5, v_it5, v_add, v_addI, v_sub, v_neg, v_mul, v_fdv, v_mod, v_cmp, v_eqs, v_nes, v_eqi, v_nei, v_eqb, v_ixc, opt_some, v_lenl, v_lent, v_lenc, v_tupt, v_tupl, v_intb, v_inti, v_max, v_isn, v_isnn, end_rt, end_nx, fz_int, fz_str, fz_bl, fz_non, List.getElem?_cons_zero, List.getElem?_cons_succ, List.set_cons_zero, List.set_cons_succ, List.length_cons, List.length_nil, List.take_length, Option.map_some, oldLoc, Bool.false_and, Bool.and_false, Bool.true_and, Bool.and_true, Bool.not_true, Bool.not_false, Bool.false_eq_true, decide_true, decide_false, decide_eq_true_eq, if_true, if_false, ↓reduceIte, Nat.reduceAdd, Nat.reduceLeDiff, tgtF, optS, k_ws, k_wc]
  | again m rs => rw [Row.pv]; simp -implicitDefEqProofs (disch := omega) only [x_raise, x_notL, end_ex, bind_ok, nox_ok, bind_ex, s_ex, sb_ex, s_ok, sb_nx, sb_rt, sb_ct, sb_bk, onB_bl, onBS_bl, x_var, x_c, x_bin, x_un, x_nil, x_cons, x_tup, x_lst, x_app, x_and, x_or, x_not, x_if, x_box, x_get, x_sl, x_onone, x_osome, x_snil, x_scons, x_set, x_expr, x_ret, x_retB, x_sif, x_bk, x_ct, x_aug, x_asg, x_gname, x_gnil, x_gcons, x_gtup, mkt0, mkl0, mkt1, mkl1, mkt2, mkl2, mkt3, mkl3, mkt4, mkl4, mkt5, mkl5, mkt6, mkl6, mkt7, mkl7, v_il0, v_it0, v_il1, v_it1, v_il2, v_it2, v_il3, v_it3, v_il4, v_it4, v_il5, v_it5, v_add, v_addI, v_sub, v_neg, v_mul, v_fdv, v_mod, v_cmp, v_eqs, v_nes, v_eqi, v_nei, v_eqb, v_ixc, opt_some, v_lenl, v_lent, v_lenc, v_tupt, v_tupl, v_intb, v_inti, v_max, v_isn, v_isnn, end_rt, end_nx, fz_int, fz_str, fz_bl, fz_non, List.getElem?_cons_zero, List.getElem?_cons_succ, List.set_cons_zero, List.set_cons_succ, List.length_cons, List.length_nil, List.take_length, Option.map_some, oldLoc, Bool.false_and, Bool.and_false, Bool.true_and, Bool.and_true, Bool.not_true, Bool.not_false, Bool.false_eq_true, decide_true, decide_false, decide_eq_true_eq, if_true, if_false, ↓reduceIte, Nat.reduceAdd, Nat.reduceLeDiff, tgtF, optS, k_as, k_ac]
def hasB : Row → Bool
  | .when _ _ => true
  | .again _ _ => true
  | _ => false
theorem F_has_rows {n : Nat} (h : 1 ≤ n) (r : Row) (st : VSt) : Fm D n i_has_rows [r.pv] st = .ok (.bl (hasB r)) st := by
  obtain ⟨m, rfl⟩ := ge_add h
  rw [c_has_rows]
  unfold b_has_rows
  cases r with
  | set x t => rw [Row.pv]; simp -implicitDefEqProofs (disch := omega) only [x_raise, x_notL, end_ex, bind_ok, nox_ok, bind_ex, s_ex, sb_ex, s_ok, sb_nx, sb_rt, sb_ct, sb_bk, onB_bl, onBS_bl, x_var, x_c, x_bin, x_un, x_nil, x_cons, x_tup, x_lst, x_app, x_and, x_or, x_not, x_if, x_box, x_get, x_sl, x_onone, x_osome, x_snil, x_scons, x_set, x_expr, x_ret, x_retB, x_sif, x_bk, x_ct, x_aug, x_asg, x_gname, x_gnil, x_gcons, x_gtup, mkt0, mkl0, mkt1, mkl1, mkt2, mkl2, mkt3, mkl3, mkt4, mkl4, mkt5, mkl5, mkt6, mkl6, mkt7, mkl7, v_il0, v_it0, v_il1, v_it1, v_il2, v_it2, v_il3, v_it3, v_il4, v_it4, v_il5, v_it5, v_add, v_addI, v_sub, v_neg, v_mul, v_fdv, v_mod, v_cmp, v_eqs, v_nes, v_eqi, v_nei, v_eqb, v_ixc, opt_some, v_lenl, v_lent, v_lenc, v_tupt, v_tupl, v_intb, v_inti, v_max, v_isn, v_isnn, end_rt, end_nx, fz_int, fz_str, fz_bl, fz_non, List.getElem?_cons_zero, List.getElem?_cons_succ, List.set_cons_zero, List.set_cons_succ, List.length_cons, List.length_nil, List.take_length, Option.map_some, oldLoc, Bool.false_and, Bool.and_false, Bool.true_and, Bool.and_true, Bool.not_true, Bool.not_false, Bool.false_eq_true, decide_true, decide_false, decide_eq_true_eq, if_true, if_false, ↓reduceIte, Nat.reduceAdd, Nat.reduceLeDiff, hasB, k_sw, k_sa]
  | tell t => rw [Row.pv]; simp -implicitDefEqProofs (disch := omega) only [x_raise, x_notL, end_ex, bind_ok, nox_ok, bind_ex, s_ex, sb_ex, s_ok, sb_nx, sb_rt, sb_ct, sb_bk, onB_bl, onBS_bl, x_var, x_c, x_bin, x_un, x_nil, x_cons, x_tup, x_lst, x_app, x_and, x_or, x_not, x_if, x_box, x_get, x_sl, x_onone, x_osome, x_snil, x_scons, x_set, x_expr, x_ret, x_retB, x_sif, x_bk, x_ct, x_aug, x_asg, x_gname, x_gnil, x_gcons, x_gtup, mkt0, mkl0, mkt1, mkl1, mkt2, mkl2, mkt3, mkl3, mkt4, mkl4, mkt5, mkl5, mkt6, mkl6, mkt7, mkl7, v_il0, v_it0, v_il1, v_it1, v_il2, v_it2, v_il3, v_it3, v_il4, v_it4, v_il5, v_it5, v_add, v_addI, v_sub, v_neg, v_mul, v_fdv, v_mod, v_cmp, v_eqs, v_nes, v_eqi, v_nei, v_eqb, v_ixc, opt_some, v_lenl, v_lent, v_lenc, v_tupt, v_tupl, v_intb, v_inti, v_max, v_isn, v_isnn, end_rt, end_nx, fz_int, fz_str, fz_bl, fz_non, List.getElem?_cons_zero, List.getElem?_cons_succ, List.set_cons_zero, List.set_cons_succ, List.length_cons, List.length_nil, List.take_length, Option.map_some, oldLoc, Bool.false_and, Bool.and_false, Bool.true_and, Bool.and_true, Bool.not_true, Bool.not_false, Bool.false_eq_true, decide_true, decide_false, decide_eq_true_eq, if_true, if_false, ↓reduceIte, Nat.reduceAdd, Nat.reduceLeDiff, hasB, k_tw, k_ta]
  | call x f ts => rw [Row.pv]; simp -implicitDefEqProofs (disch := omega) only [x_raise, x_notL, end_ex, bind_ok, nox_ok, bind_ex, s_ex, sb_ex, s_ok, sb_nx, sb_rt, sb_ct, sb_bk, onB_bl, onBS_bl, x_var, x_c, x_bin, x_un, x_nil, x_cons, x_tup, x_lst, x_app, x_and, x_or, x_not, x_if, x_box, x_get, x_sl, x_onone, x_osome, x_snil, x_scons, x_set, x_expr, x_ret, x_retB, x_sif, x_bk, x_ct, x_aug, x_asg, x_gname, x_gnil, x_gcons, x_gtup, mkt0, mkl0, mkt1, mkl1, mkt2, mkl2, mkt3, mkl3, mkt4, mkl4, mkt5, mkl5, mkt6, mkl6, mkt7, mkl7, v_il0, v_it0, v_il1, v_it1, v_il2, v_it2, v_il3, v_it3, v_il4, v_it4, v_il5, v_it5, v_add, v_addI, v_sub, v_neg, v_mul, v_fdv, v_mod, v_cmp, v_eqs, v_nes, v_eqi, v_nei, v_eqb, v_ixc, opt_some, v_lenl, v_lent, v_lenc, v_tupt, v_tupl, v_intb, v_inti, v_max, v_isn, v_isnn, end_rt, end_nx, fz_int, fz_str, fz_bl, fz_non, List.getElem?_cons_zero, List.getElem?_cons_succ, List.set_cons_zero, List.set_cons_succ, List.length_cons, List.length_nil, List.take_length, Option.map_some, oldLoc, Bool.false_and, Bool.and_false, Bool.true_and, Bool.and_true, Bool.not_true, Bool.not_false, Bool.false_eq_true, decide_true, decide_false, decide_eq_true_eq, if_true, if_false, ↓reduceIte, Nat.reduceAdd, Nat.reduceLeDiff, hasB, k_cw, k_ca]
  | when t rs => rw [Row.pv]; simp -implicitDefEqProofs (disch := omega) only [x_raise, x_notL, end_ex, bind_ok, nox_ok, bind_ex, s_ex, sb_ex, s_ok, sb_nx, sb_rt, sb_ct, sb_bk, onB_bl, onBS_bl, x_var, x_c, x_bin, x_un, x_nil, x_cons, x_tup, x_lst, x_app, x_and, x_or, x_not, x_if, x_box, x_get, x_sl, x_onone, x_osome, x_snil, x_scons, x_set, x_expr, x_ret, x_retB, x_sif, x_bk, x_ct, x_aug, x_asg, x_gname, x_gnil, x_gcons, x_gtup, mkt0, mkl0, mkt1, mkl1, mkt2, mkl2, mkt3, mkl3, mkt4, mkl4, mkt5, mkl5, mkt6, mkl6, mkt7, mkl7, v_il0, v_it0, v_il1, v_it1, v_il2, v_it2, v_il3, v_it3, v_il4, v_it4, v_il5, v_it5, v_add, v_addI, v_sub, v_neg, v_mul, v_fdv, v_mod, v_cmp, v_eqs, v_nes, v_eqi, v_nei, v_eqb, v_ixc, opt_some, v_lenl, v_lent, v_lenc, v_tupt, v_tupl, v_intb, v_inti, v_max, v_isn, v_isnn, end_rt, end_nx, fz_int, fz_str, fz_bl, fz_non, List.getElem?_cons_zero, List.getElem?_cons_succ, List.set_cons_zero, List.set_cons_succ, List.length_cons, List.length_nil, List.take_length, Option.map_some, oldLoc, Bool.false_and, Bool.and_false, Bool.true_and, Bool.and_true, Bool.not_true, Bool.not_false, Bool.false_eq_true, decide_true, decide_false, decide_eq_true_eq, if_true, if_false, ↓reduceIte, Nat.reduceAdd, Nat.reduceLeDiff, hasB]
  | again m rs => rw [Row.pv]; simp -implicitDefEqProofs (disch := omega) only [x_raise, x_notL, end_ex, bind_ok, nox_ok, bind_ex, s_ex, sb_ex, s_ok, sb_nx, sb_rt, sb_ct, sb_bk, onB_bl, onBS_bl, x_var, x_c, x_bin, x_un, x_nil, x_cons, x_tup, x_lst, x_app, x_and, x_or, x_not, x_if, x_box, x_get, x_sl, x_onone, x_osome, x_snil, x_scons, x_set, x_expr, x_ret, x_retB, x_sif, x_bk, x_ct, x_aug, x_asg, x_gname, x_gnil, x_gcons, x_gtup, mkt0, mkl0, mkt1, mkl1, mkt2, mkl2, mkt3, mkl3, mkt4, mkl4, mkt5, mkl5, mkt6, mkl6, mkt7, mkl7, v_il0, v_it0, v_il1, v_it1, v_il2, v_it2, v_il3, v_it3, v_il4, v_it4, v_il5, v_it5, v_add, v_addI, v_sub, v_neg, v_mul, v_fdv, v_mod, v_cmp, v_eqs, v_nes, v_eqi, v_nei, v_eqb, v_ixc, opt_some, v_lenl, v_lent, v_lenc, v_tupt, v_tupl, v_intb, v_inti, v_max, v_isn, v_isnn, end_rt, end_nx, fz_int, fz_str, fz_bl, fz_non, List.getElem?_cons_zero, List.getElem?_cons_succ, List.set_cons_zero, List.set_cons_succ, List.length_cons, List.length_nil, List.take_length, Option.map_some, oldLoc, Bool.false_and, Bool.and_false, Bool.true_and, Bool.and_true, Bool.not_true, Bool.not_false, Bool.false_eq_true, decide_true, decide_false, decide_eq_true_eq, if_true, if_false, ↓reduceIte, Nat.reduceAdd, Nat.reduceLeDiff, hasB, k_aw]
theorem v_r2w {t : Trm} {rs : List Row} {s : VSt} : vIx (Row.when t rs).pv (.int 2) s = .ok (.tup (Row.pvs rs)) s := by rw [Row.pv]; exact v_it2
theorem v_r2a {t : Int} {rs : List Row} {s : VSt} : vIx (Row.again t rs).pv (.int 2) s = .ok (.tup (Row.pvs rs)) s := by rw [Row.pv]; exact v_it2
theorem F_rows_within {n : Nat} (h : 2 ≤ n) (r : Row) (st : VSt) : Fm D n i_rows_within [r.pv] st = .ok (.tup (Row.pvs (blkF r))) st := by
  obtain ⟨m, rfl⟩ := ge_add h
  rw [c_rows_within]
  unfold b_rows_within
  have p0 : Row.pvs [] = [] := by rw [Row.pvs]
  have hh := fun s => F_has_rows (n := m + 1) (by omega) r s
  cases r with
  | when t rs => simp -implicitDefEqProofs (disch := omega) only [x_raise, x_notL, end_ex, bind_ok, nox_ok, bind_ex, s_ex, sb_ex, s_ok, sb_nx, sb_rt, sb_ct, sb_bk, onB_bl, onBS_bl, x_var, x_c, x_bin, x_un, x_nil, x_cons, x_tup, x_lst, x_app, x_and, x_or, x_not, x_if, x_box, x_get, x_sl, x_onone, x_osome, x_snil, x_scons, x_set, x_expr, x_ret, x_retB, x_sif, x_bk, x_ct, x_aug, x_asg, x_gname, x_gnil, x_gcons, x_gtup, mkt0, mkl0, mkt1, mkl1, mkt2, mkl2, mkt3, mkl3, mkt4, mkl4, mkt5, mkl5, mkt6, mkl6, mkt7, mkl7, v_il0, v_it0, v_il1, v_it1, v_il2, v_it2, v_il3, v_it3, v_il4, v_it4, v_il5, v_it5, v_add, v_addI, v_sub, v_neg, v_mul, v_fdv, v_mod, v_cmp, v_eqs, v_nes, v_eqi, v_nei, v_eqb, v_ixc, opt_some, v_lenl, v_lent, v_lenc, v_tupt, v_tupl, v_intb, v_inti, v_max, v_isn, v_isnn, end_rt, end_nx, fz_int, fz_str, fz_bl, fz_non, List.getElem?_cons_zero, List.getElem?_cons_succ, List.set_cons_zero, List.set_cons_succ, List.length_cons, List.length_nil, List.take_length, Option.map_some, oldLoc, Bool.false_and, Bool.and_false, Bool.true_and, Bool.and_true, Bool.not_true, Bool.not_false, Bool.false_eq_true, decide_true, decide_false, decide_eq_true_eq, if_true, if_false, ↓reduceIte, Nat.reduceAdd, Nat.reduceLeDiff, hh, hasB, blkF, v_r2w, fz_tup, fz_pvs]
  | again t rs => simp -implicitDefEqProofs (disch := omega) only [x_raise, x_notL, end_ex, bind_ok, nox_ok, bind_ex, s_ex, sb_ex, s_ok, sb_nx, sb_rt, sb_ct, sb_bk, onB_bl, onBS_bl, x_var, x_c, x_bin, x_un, x_nil, x_cons, x_tup, x_lst, x_app, x_and, x_or, x_not, x_if, x_box, x_get, x_sl, x_onone, x_osome, x_snil, x_scons, x_set, x_expr, x_ret, x_retB, x_sif, x_bk, x_ct, x_aug, x_asg, x_gname, x_gnil, x_gcons, x_gtup, mkt0, mkl0, mkt1, mkl1, mkt2, mkl2, mkt3, mkl3, mkt4, mkl4, mkt5, mkl5, mkt6, mkl6, mkt7, mkl7, v_il0, v_it0, v_il1, v_it1, v_il2, v_it2, v_il3, v_it3, v_il4, v_it4, v_il5, v_it5, v_add, v_addI, v_sub, v_neg, v_mul, v_fdv, v_mod, v_cmp, v_eqs, v_nes, v_eqi, v_nei, v_eqb, v_ixc, opt_some, v_lenl, v_lent, v_lenc, v_tupt, v_tupl, v_intb, v_inti, v_max, v_isn, v_isnn, end_rt, end_nx, fz_int, fz_str, fz_bl, fz_non, List.getElem?_cons_zero, List.getElem?_cons_succ, List.set_cons_zero, List.set_cons_succ, List.length_cons, List.length_nil, List.take_length, Option.map_some, oldLoc, Bool.false_and, Bool.and_false, Bool.true_and, Bool.and_true, Bool.not_true, Bool.not_false, Bool.false_eq_true, decide_true, decide_false, decide_eq_true_eq, if_true, if_false, ↓reduceIte, Nat.reduceAdd, Nat.reduceLeDiff, hh, hasB, blkF, v_r2a, fz_tup, fz_pvs]
  | _ => simp -implicitDefEqProofs (disch := omega) only [x_raise, x_notL, end_ex, bind_ok, nox_ok, bind_ex, s_ex, sb_ex, s_ok, sb_nx, sb_rt, sb_ct, sb_bk, onB_bl, onBS_bl, x_var, x_c, x_bin, x_un, x_nil, x_cons, x_tup, x_lst, x_app, x_and, x_or, x_not, x_if, x_box, x_get, x_sl, x_onone, x_osome, x_snil, x_scons, x_set, x_expr, x_ret, x_retB, x_sif, x_bk, x_ct, x_aug, x_asg, x_gname, x_gnil, x_gcons, x_gtup, mkt0, mkl0, mkt1, mkl1, mkt2, mkl2, mkt3, mkl3, mkt4, mkl4, mkt5, mkl5, mkt6, mkl6, mkt7, mkl7, v_il0, v_it0, v_il1, v_it1, v_il2, v_it2, v_il3, v_it3, v_il4, v_it4, v_il5, v_it5, v_add, v_addI, v_sub, v_neg, v_mul, v_fdv, v_mod, v_cmp, v_eqs, v_nes, v_eqi, v_nei, v_eqb, v_ixc, opt_some, v_lenl, v_lent, v_lenc, v_tupt, v_tupl, v_intb, v_inti, v_max, v_isn, v_isnn, end_rt, end_nx, fz_int, fz_str, fz_bl, fz_non, List.getElem?_cons_zero, List.getElem?_cons_succ, List.set_cons_zero, List.set_cons_succ, List.length_cons, List.length_nil, List.take_length, Option.map_some, oldLoc, Bool.false_and, Bool.and_false, Bool.true_and, Bool.and_true, Bool.not_true, Bool.not_false, Bool.false_eq_true, decide_true, decide_false, decide_eq_true_eq, if_true, if_false, ↓reduceIte, Nat.reduceAdd, Nat.reduceLeDiff, hh, hasB, blkF, p0, fz_tup, fzs_nil]
theorem F_nin {n : Nat} (t : Trm) (h : t.depth + 2 ≤ n) (hs : t.size < 1000000) (st : VSt) : Fm D n i_names_in [t.pv] st = .ok (.lst (t.once.map PV.str)) st := by
  have := F_names_in t (n - t.depth - 2) st hs
  rwa [show n - t.depth - 2 + t.depth + 2 = n by omega] at this
theorem once_len (t : Trm) : t.once.length ≤ t.size := by
  have h1 := puts_len t.names []
  have h2 := t.names_len
  unfold Trm.once
  simp only [List.length_nil] at h1
  omega
/-- a row's own names, term by term -/
def ownO (r : Row) : List Str := (ownT r).flatMap Trm.once
theorem onces_tot : ∀ ts : List Trm, (ts.flatMap Trm.once).length ≤ tot ts
  | [] => Nat.le_refl _
  | t :: ts => by
    have h1 := once_len t
    have h2 := onces_tot ts
    rw [List.flatMap_cons, List.length_append]
    show _ ≤ t.size + tot ts
    omega
theorem ownO_len (r : Row) : (ownO r).length ≤ r.sz := Nat.le_trans (onces_tot _) (tot_own r)
theorem fm_map {α β γ : Type} (f : α → List β) (g : β → γ) : ∀ xs : List α, (xs.flatMap f).map g = xs.flatMap fun x => (f x).map g
  | [] => rfl
  | x :: xs => by rw [List.flatMap_cons, List.flatMap_cons, List.map_append, fm_map f g xs]
theorem map_fm {α β γ : Type} (h : α → β) (f : β → List γ) : ∀ xs : List α, (xs.map h).flatMap f = xs.flatMap fun x => f (h x)
  | [] => rfl
  | x :: xs => by rw [List.map_cons, List.flatMap_cons, List.flatMap_cons, map_fm h f xs]
theorem fm_congr {α β : Type} {f g : α → List β} : ∀ {xs : List α}, (∀ x ∈ xs, f x = g x) → xs.flatMap f = xs.flatMap g
  | [], _ => rfl
  | x :: xs, h => by rw [List.flatMap_cons, List.flatMap_cons, h x List.mem_cons_self, fm_congr fun y hy => h y (List.mem_cons_of_mem _ hy)]
theorem F_own_names {n : Nat} (h : 6 ≤ n) {r : Row} (g : r.Gd) (hz : r.sz < 1000000) (st : VSt) : Fm D n i_own_names [r.pv] st = .ok (.lst ((ownO r).map PV.str)) st := by
  obtain ⟨m, rfl⟩ := ge_add h
  rw [c_own_names]
  unfold b_own_names
  have ho := fun s => F_own_terms (n := m + 5) (by omega) r s
  have ft := tot_own r
  have hd := own_d g
  have key : eComp2 (iSeq (eApp (Fm D (m + 5) i_own_terms) (aCons (eVar 0) aNil))) (gName 1) (iSeq (eApp (Fm D (m + 5) i_names_in) (aCons (eVar 1) aNil))) (gName 2) (eVar 2) [1, 2] [2] [some r.pv, none, none] st = .ok (.lst ((ownO r).map PV.str)) st := by
    have hn : ∀ t ∈ ownT r, ∀ s, Fm D (m + 5) i_names_in [t.pv] s = .ok (.lst (t.once.map PV.str)) s := fun t ht s => F_nin t (by have := hd t ht; omega) (by have := size_tot ht; omega) s
    have inj : ∀ ts : List Trm, (∀ t ∈ ts, ∀ s, Fm D (m + 5) i_names_in [t.pv] s = .ok (.lst (t.once.map PV.str)) s) → ∃ f : PV → List PV, ∀ t ∈ ts, f t.pv = t.once.map PV.str := fun ts hts =>
      ⟨fun p => match Fm D (m + 5) i_names_in [p] st with
        | .ok (.lst xs) _ => xs
        | _ => [], fun t ht => by simp only [hts t ht st]⟩
    obtain ⟨f, hf⟩ := inj (ownT r) hn
    have hfl : ((ownT r).map Trm.pv).flatMap f = (ownO r).map PV.str := by
      rw [map_fm, ownO, fm_map]
      exact fm_congr fun t ht => hf t ht
    have hlen := ownO_len r
    rw [comp2_gen (j := .seq (.tup ((ownT r).map Trm.pv))) (xs := (ownT r).map Trm.pv) (f := f) (fe := fun _ y => y) ?_ (fun s => rfl) (fun x hx => ?_) (fun x hx y hy => ?_) (by rw [hfl, List.length_map]; omega)]
    · simp only [List.map_id']
      rw [hfl]
    · exact i_tup (by simp -implicitDefEqProofs (disch := omega) only [x_raise, x_notL, end_ex, bind_ok, nox_ok, bind_ex, s_ex, sb_ex, s_ok, sb_nx, sb_rt, sb_ct, sb_bk, onB_bl, onBS_bl, x_var, x_c, x_bin, x_un, x_nil, x_cons, x_tup, x_lst, x_app, x_and, x_or, x_not, x_if, x_box, x_get, x_sl, x_onone, x_osome, x_snil, x_scons, x_set, x_expr, x_ret, x_retB, x_sif, x_bk, x_ct, x_aug, x_asg, x_gname, x_gnil, x_gcons, x_gtup, mkt0, mkl0, mkt1, mkl1, mkt2, mkl2, mkt3, mkl3, mkt4, mkl4, mkt5, mkl5, mkt6, mkl6, mkt7, mkl7, v_il0, v_it0, v_il1, v_it1, v_il2, v_it2, v_il3, v_it3, v_il4, v_it4, v_il5, v_it5, v_add, v_addI, v_sub, v_neg, v_mul, v_fdv, v_mod, v_cmp, v_eqs, v_nes, v_eqi, v_nei, v_eqb, v_ixc, opt_some, v_lenl, v_lent, v_lenc, v_tupt, v_tupl, v_intb, v_inti, v_max, v_isn, v_isnn, end_rt, end_nx, fz_int, fz_str, fz_bl, fz_non, List.getElem?_cons_zero, List.getElem?_cons_succ, List.set_cons_zero, List.set_cons_succ, List.length_cons, List.length_nil, List.take_length, Option.map_some, oldLoc, Bool.false_and, Bool.and_false, Bool.true_and, Bool.and_true, Bool.not_true, Bool.not_false, Bool.false_eq_true, decide_true, decide_false, decide_eq_true_eq, if_true, if_false, ↓reduceIte, Nat.reduceAdd, Nat.reduceLeDiff, ho])
    · obtain ⟨t, ht, rfl⟩ := List.mem_map.mp hx
      refine ⟨.seq (.lst (t.once.map PV.str)), i_lst ?_, fun s => by rw [hf t ht]; rfl⟩
      have hn' := hn t ht
      simp -implicitDefEqProofs (disch := omega) only [x_raise, x_notL, end_ex, bind_ok, nox_ok, bind_ex, s_ex, sb_ex, s_ok, sb_nx, sb_rt, sb_ct, sb_bk, onB_bl, onBS_bl, x_var, x_c, x_bin, x_un, x_nil, x_cons, x_tup, x_lst, x_app, x_and, x_or, x_not, x_if, x_box, x_get, x_sl, x_onone, x_osome, x_snil, x_scons, x_set, x_expr, x_ret, x_retB, x_sif, x_bk, x_ct, x_aug, x_asg, x_gname, x_gnil, x_gcons, x_gtup, mkt0, mkl0, mkt1, mkl1, mkt2, mkl2, mkt3, mkl3, mkt4, mkl4, mkt5, mkl5, mkt6, mkl6, mkt7, mkl7, v_il0, v_it0, v_il1, v_it1, v_il2, v_it2, v_il3, v_it3, v_il4, v_it4, v_il5, v_it5, v_add, v_addI, v_sub, v_neg, v_mul, v_fdv, v_mod, v_cmp, v_eqs, v_nes, v_eqi, v_nei, v_eqb, v_ixc, opt_some, v_lenl, v_lent, v_lenc, v_tupt, v_tupl, v_intb, v_inti, v_max, v_isn, v_isnn, end_rt, end_nx, fz_int, fz_str, fz_bl, fz_non, List.getElem?_cons_zero, List.getElem?_cons_succ, List.set_cons_zero, List.set_cons_succ, List.length_cons, List.length_nil, List.take_length, Option.map_some, oldLoc, Bool.false_and, Bool.and_false, Bool.true_and, Bool.and_true, Bool.not_true, Bool.not_false, Bool.false_eq_true, decide_true, decide_false, decide_eq_true_eq, if_true, if_false, ↓reduceIte, Nat.reduceAdd, Nat.reduceLeDiff, hn', List.set_cons_zero, List.set_cons_succ]
    · simp -implicitDefEqProofs (disch := omega) only [x_raise, x_notL, end_ex, bind_ok, nox_ok, bind_ex, s_ex, sb_ex, s_ok, sb_nx, sb_rt, sb_ct, sb_bk, onB_bl, onBS_bl, x_var, x_c, x_bin, x_un, x_nil, x_cons, x_tup, x_lst, x_app, x_and, x_or, x_not, x_if, x_box, x_get, x_sl, x_onone, x_osome, x_snil, x_scons, x_set, x_expr, x_ret, x_retB, x_sif, x_bk, x_ct, x_aug, x_asg, x_gname, x_gnil, x_gcons, x_gtup, mkt0, mkl0, mkt1, mkl1, mkt2, mkl2, mkt3, mkl3, mkt4, mkl4, mkt5, mkl5, mkt6, mkl6, mkt7, mkl7, v_il0, v_it0, v_il1, v_it1, v_il2, v_it2, v_il3, v_it3, v_il4, v_it4, v_il5, v_it5, v_add, v_addI, v_sub, v_neg, v_mul, v_fdv, v_mod, v_cmp, v_eqs, v_nes, v_eqi, v_nei, v_eqb, v_ixc, opt_some, v_lenl, v_lent, v_lenc, v_tupt, v_tupl, v_intb, v_inti, v_max, v_isn, v_isnn, end_rt, end_nx, fz_int, fz_str, fz_bl, fz_non, List.getElem?_cons_zero, List.getElem?_cons_succ, List.set_cons_zero, List.set_cons_succ, List.length_cons, List.length_nil, List.take_length, Option.map_some, oldLoc, Bool.false_and, Bool.and_false, Bool.true_and, Bool.and_true, Bool.not_true, Bool.not_false, Bool.false_eq_true, decide_true, decide_false, decide_eq_true_eq, if_true, if_false, ↓reduceIte, Nat.reduceAdd, Nat.reduceLeDiff, List.set_cons_zero, List.set_cons_succ]
  have hp : pures ((ownO r).map PV.str) = true := pures_strs _
  have ol : oldLoc st.length (.lst ((ownO r).map PV.str)) = false := rfl
  simp -implicitDefEqProofs (disch := omega) only [x_raise, x_notL, end_ex, bind_ok, nox_ok, bind_ex, s_ex, sb_ex, s_ok, sb_nx, sb_rt, sb_ct, sb_bk, onB_bl, onBS_bl, x_var, x_c, x_bin, x_un, x_nil, x_cons, x_tup, x_lst, x_app, x_and, x_or, x_not, x_if, x_box, x_get, x_sl, x_onone, x_osome, x_snil, x_scons, x_set, x_expr, x_ret, x_retB, x_sif, x_bk, x_ct, x_aug, x_asg, x_gname, x_gnil, x_gcons, x_gtup, mkt0, mkl0, mkt1, mkl1, mkt2, mkl2, mkt3, mkl3, mkt4, mkl4, mkt5, mkl5, mkt6, mkl6, mkt7, mkl7, v_il0, v_it0, v_il1, v_it1, v_il2, v_it2, v_il3, v_it3, v_il4, v_it4, v_il5, v_it5, v_add, v_addI, v_sub, v_neg, v_mul, v_fdv, v_mod, v_cmp, v_eqs, v_nes, v_eqi, v_nei, v_eqb, v_ixc, opt_some, v_lenl, v_lent, v_lenc, v_tupt, v_tupl, v_intb, v_inti, v_max, v_isn, v_isnn, end_rt, end_nx, fz_int, fz_str, fz_bl, fz_non, List.getElem?_cons_zero, List.getElem?_cons_succ, List.set_cons_zero, List.set_cons_succ, List.length_cons, List.length_nil, List.take_length, Option.map_some, oldLoc, Bool.false_and, Bool.and_false, Bool.true_and, Bool.and_true, Bool.not_true, Bool.not_false, Bool.false_eq_true, decide_true, decide_false, decide_eq_true_eq, if_true, if_false, ↓reduceIte, Nat.reduceAdd, Nat.reduceLeDiff, key, fz_lst hp, ol]
theorem szs_app : ∀ (as bs : List Row), Row.szs (as ++ bs) = Row.szs as + Row.szs bs
  | [], bs => by rw [szs_nil, Nat.zero_add]; rfl
  | a :: as, bs => by rw [List.cons_append, szs_cons, szs_cons, szs_app as bs, Nat.add_assoc]
end Lk


namespace Lk
open PySem L2 Vm
/-! ## names that stand in rows -/
mutual
def Row.In (ws : List Str) : Row → Prop
  | .set x t => x ∈ ws ∧ ∀ y ∈ t.names, y ∈ ws
  | .tell t => ∀ y ∈ t.names, y ∈ ws
  | .call x _ ts => (∀ y, x = some y → y ∈ ws) ∧ ∀ t ∈ ts, ∀ y ∈ t.names, y ∈ ws
  | .when t rs => (∀ y ∈ t.names, y ∈ ws) ∧ Row.Ins ws rs
  | .again _ rs => Row.Ins ws rs
def Row.Ins (ws : List Str) : List Row → Prop
  | [] => True
  | r :: rs => r.In ws ∧ Row.Ins ws rs
end
theorem ins_cons {ws : List Str} (r : Row) (rs : List Row) : Row.Ins ws (r :: rs) ↔ r.In ws ∧ Row.Ins ws rs := by rw [Row.Ins]
theorem ins_nil {ws : List Str} : Row.Ins ws [] := by unfold Row.Ins; trivial
theorem in_mem {ws : List Str} {r : Row} : ∀ {rs : List Row}, Row.Ins ws rs → r ∈ rs → r.In ws
  | [], _, h => by cases h
  | s :: rs, g, h => by
    rw [ins_cons] at g
    rcases List.mem_cons.mp h with rfl | h
    · exact g.1
    · exact in_mem g.2 h
theorem ins_all {ws : List Str} : ∀ {rs : List Row}, (∀ r ∈ rs, r.In ws) → Row.Ins ws rs
  | [], _ => ins_nil
  | s :: rs, h => by
    rw [ins_cons]
    exact ⟨h s List.mem_cons_self, ins_all fun r hr => h r (List.mem_cons_of_mem _ hr)⟩
theorem blk_in {ws : List Str} {r : Row} (g : r.In ws) : Row.Ins ws (blkF r) := by
  cases r with
  | when t rs => unfold Row.In at g; exact g.2
  | again m rs => unfold Row.In at g; exact g
  | _ => exact ins_nil
theorem own_in {ws : List Str} {r : Row} (g : r.In ws) : ∀ t ∈ ownT r, ∀ y ∈ t.names, y ∈ ws := by
  cases r with
  | set x t => unfold Row.In at g; intro s hs; obtain rfl : s = t := by simpa [ownT] using hs
               exact g.2
  | tell t => unfold Row.In at g; intro s hs; obtain rfl : s = t := by simpa [ownT] using hs
              exact g
  | call x f ts => unfold Row.In at g; exact g.2
  | when t rs => unfold Row.In at g; intro s hs; obtain rfl : s = t := by simpa [ownT] using hs
                 exact g.1
  | again m rs => intro s hs; cases hs
theorem tgt_in {ws : List Str} {r : Row} (g : r.In ws) : ∀ y, tgtF r = some y → y ∈ ws := by
  cases r with
  | set x t => unfold Row.In at g; intro y h; cases h; exact g.1
  | call x f ts => unfold Row.In at g; exact g.1
  | _ => intro y h; cases h
theorem mem_once {t : Trm} {y : Str} : y ∈ t.once ↔ y ∈ t.names := by
  have key : ∀ (xs ks : List Str), y ∈ xs.foldl put ks ↔ y ∈ ks ∨ y ∈ xs := by
    intro xs
    induction xs with
    | nil => intro ks; simp
    | cons x xs ih =>
      intro ks
      rw [List.foldl_cons, ih, List.mem_cons]
      unfold put
      split
      · rename_i h
        constructor
        · rintro (h | h)
          · exact .inl h
          · exact .inr (.inr h)
        · rintro (h | rfl | h')
          · exact .inl h
          · exact .inl h
          · exact .inr h'
      · rw [List.mem_append, List.mem_singleton, or_assoc]
  unfold Trm.once
  rw [key]
  simp
theorem mem_ownO {r : Row} {y : Str} : y ∈ ownO r ↔ y ∈ ownN r := by
  unfold ownO ownN
  rw [List.mem_flatMap, List.mem_flatMap]
  constructor
  · rintro ⟨t, ht, h⟩; exact ⟨t, ht, mem_once.mp h⟩
  · rintro ⟨t, ht, h⟩; exact ⟨t, ht, mem_once.mpr h⟩
theorem ownN_in {ws : List Str} {r : Row} (g : r.In ws) : ∀ y ∈ ownN r, y ∈ ws := fun y h => by
  obtain ⟨t, ht, h⟩ := List.mem_flatMap.mp h
  exact own_in g t ht y h
/-! ## lists without repeats -/
theorem mem_addS {l : List Str} {k y : Str} : y ∈ addS l k ↔ y ∈ l ∨ y = k := by
  unfold addS
  split
  · rename_i h
    constructor
    · exact .inl
    · rintro (h | rfl) <;> assumption
  · rw [List.mem_append, List.mem_singleton]
theorem nodup_addS {l : List Str} {k : Str} (h : l.Nodup) : (addS l k).Nodup := by
  unfold addS
  split
  · exact h
  · rename_i hk
    rw [List.nodup_append]
    refine ⟨h, by simp, fun a ha b hb => ?_⟩
    obtain rfl : b = k := by simpa using hb
    rintro rfl
    exact hk ha
theorem mem_addsS {y : Str} : ∀ (xs l : List Str), y ∈ xs.foldl addS l ↔ y ∈ l ∨ y ∈ xs
  | [], l => by simp
  | x :: xs, l => by
    rw [List.foldl_cons, mem_addsS xs, mem_addS, List.mem_cons, or_assoc]
theorem nodup_addsS : ∀ (xs l : List Str), l.Nodup → (xs.foldl addS l).Nodup
  | [], l, h => h
  | x :: xs, l, h => nodup_addsS xs _ (nodup_addS h)
theorem mem_oneS {y : Str} {xs : List Str} : y ∈ oneS xs ↔ y ∈ xs := by unfold oneS; rw [mem_addsS]; simp
theorem nodup_oneS (xs : List Str) : (oneS xs).Nodup := nodup_addsS xs [] List.nodup_nil
theorem nodup_len : ∀ {l m : List Str}, l.Nodup → (∀ x ∈ l, x ∈ m) → l.length ≤ m.length
  | [], m, _, _ => Nat.zero_le _
  | x :: l, m, nd, h => by
    obtain ⟨n1, n2⟩ := List.nodup_cons.mp nd
    have hx := h x List.mem_cons_self
    have := nodup_len (l := l) (m := m.erase x) n2 fun y hy => (List.mem_erase_of_ne fun e => n1 (by rw [← e]; exact hy)).mpr (h y (List.mem_cons_of_mem _ hy))
    rw [List.length_erase_of_mem hx] at this
    have : 0 < m.length := List.length_pos_of_mem hx
    rw [List.length_cons]
    omega
theorem mem_srtS {y : Str} {xs : List Str} : y ∈ srtS xs ↔ y ∈ xs := (srt_perm xs).mem_iff
theorem nodup_srtS {xs : List Str} (h : xs.Nodup) : (srtS xs).Nodup := (srt_perm xs).nodup_iff.mpr h
theorem len_srtS (xs : List Str) : (srtS xs).length = xs.length := (srt_perm xs).length_eq
theorem srtS_eq {xs ys : List Str} (hx : xs.Nodup) (hy : ys.Nodup) (h : ∀ z, z ∈ xs ↔ z ∈ ys) : srtS xs = srtS ys :=
  srt_congr (sub_perm hx (fun z hz => (h z).mp hz) (Nat.le_antisymm (nodup_len hy fun z hz => (h z).mpr hz) (nodup_len hx fun z hz => (h z).mp hz))).symm
theorem oneS_le (xs : List Str) : (oneS xs).length ≤ xs.length := by
  have h := addsS_len xs []
  simp only [List.length_nil, Nat.zero_add] at h
  exact h
theorem oneS_ws {xs ws : List Str} (h : ∀ x ∈ xs, x ∈ ws) : (oneS xs).length ≤ ws.length := nodup_len (nodup_oneS xs) fun x hx => h x (mem_oneS.mp hx)
end Lk


namespace Lk
open PySem L2 Vm
theorem F_block' {n : Nat} (h : 1 ≤ n) (r : Row) (st : VSt) : Fm D n i__law_block [r.pv] st = .ok (.tup (Row.pvs (blkF r))) st := by
  obtain ⟨m, rfl⟩ := ge_add h
  exact F_block m r st
theorem v_inl {x : Str} {xs : List Str} {st : VSt} : vIn false (.str x) (.lst (xs.map PV.str)) st = .ok (.bl (decide (x ∈ xs))) st := by
  have hf : (flatP (PV.str x) && (xs.map PV.str).all flatP) = true := by rw [flats]; rfl
  show (if (flatP (PV.str x) && (xs.map PV.str).all flatP) = true then Res.ok (PV.bl (if false = true then !inP (.str x) (xs.map PV.str) else inP (.str x) (xs.map PV.str))) st else .bad) = _
  rw [if_pos hf, inPs]; exact Eq.trans rfl rfl
theorem v_eqn {x : Str} {st : VSt} (h : OkT x) : vEqF false .non (.str x) st = .ok (.bl false) st := by
  have hs : (SeqAt.shaped PyData.none && SeqAt.shaped (PyData.str x)) = true := by
    have h1 : SeqAt.shaped PyData.none = true := by decide +kernel
    have h2 : SeqAt.shaped (PyData.str x) = true := by
      have h3 : sokP (.str x) = true := h
      obtain ⟨d, e, c, k⟩ := toD_sok (.str x) h3
      cases e
      exact shp_sok (p := .str x) c k (by show 0 ≤ 64; omega)
    rw [h1, h2]; rfl
  show (if (SeqAt.shaped PyData.none && SeqAt.shaped (PyData.str x)) = true then Res.ok (PV.bl (if false = true then !PyData.eqv .none (.str x) else PyData.eqv .none (.str x))) st else .bad) = _
  rw [if_pos hs]
  exact Eq.trans rfl rfl
end Lk


namespace Lk
open PySem L2 Vm
/-! ## surely set -/
mutual
def sureB : Row → List Str
  | .set x _ => [x]
  | .call x _ _ => x.toList
  | .again m rs => if 0 < m then srtS (oneS (sureA rs)) else []
  | .tell _ => []
  | .when _ _ => []
/-- what the rows set, one behind the other, with repeats -/
def sureA : List Row → List Str
  | [] => []
  | r :: rs => sureB r ++ sureA rs
end
def sureF (rs : List Row) : List Str := srtS (oneS (sureA rs))
theorem sureA_nil : sureA [] = [] := by rw [sureA]
theorem sureA_cons (r : Row) (rs : List Row) : sureA (r :: rs) = sureB r ++ sureA rs := by rw [sureA]
theorem sureB_again (m : Int) (rs : List Row) : sureB (.again m rs) = if 0 < m then sureF rs else [] := by rw [sureB]; rfl
theorem mem_sureF {y : Str} {rs : List Row} : y ∈ sureF rs ↔ y ∈ sureA rs := by unfold sureF; rw [mem_srtS, mem_oneS]
mutual
theorem sureB_in {ws : List Str} : ∀ r : Row, r.In ws → ∀ y ∈ sureB r, y ∈ ws
  | .set x t, g, y, h => by rw [sureB] at h; obtain rfl : y = x := by simpa using h
                            unfold Row.In at g; exact g.1
  | .tell t, g, y, h => by rw [sureB] at h; cases h
  | .call x f ts, g, y, h => by
    rw [sureB] at h; unfold Row.In at g
    cases x with
    | none => cases h
    | some z => exact g.1 y (by obtain rfl : y = z := by simpa using h
                                rfl)
  | .when t rs, g, y, h => by rw [sureB] at h; cases h
  | .again m rs, g, y, h => by
    rw [sureB_again] at h
    unfold Row.In at g
    split at h
    · exact sureA_in rs g y (mem_sureF.mp h)
    · cases h
theorem sureA_in {ws : List Str} : ∀ rs : List Row, Row.Ins ws rs → ∀ y ∈ sureA rs, y ∈ ws
  | [], _, y, h => by rw [sureA_nil] at h; cases h
  | r :: rs, g, y, h => by
    rw [ins_cons] at g
    rw [sureA_cons, List.mem_append] at h
    rcases h with h | h
    · exact sureB_in r g.1 y h
    · exact sureA_in rs g.2 y h
end
mutual
theorem sureB_len : ∀ r : Row, (sureB r).length ≤ r.sz
  | .set x t => by rw [sureB, Row.sz]; show 1 ≤ _; omega
  | .tell t => by rw [sureB, Row.sz]; exact Nat.zero_le _
  | .call x f ts => by rw [sureB, Row.sz]; cases x <;> simp
  | .when t rs => by rw [sureB, Row.sz]; exact Nat.zero_le _
  | .again m rs => by
    rw [sureB_again, Row.sz]
    split
    · have := sureA_len rs
      have h2 := oneS_le (sureA rs)
      unfold sureF
      rw [len_srtS]
      omega
    · exact Nat.zero_le _
theorem sureA_len : ∀ rs : List Row, (sureA rs).length ≤ Row.szs rs
  | [] => by rw [sureA_nil]; exact Nat.zero_le _
  | r :: rs => by
    rw [sureA_cons, List.length_append, szs_cons]
    have h1 := sureB_len r
    have h2 := sureA_len rs
    omega
end
theorem sureA_fold : ∀ (rs : List Row) (acc : List Str), rs.foldl (fun acc r => acc ++ sureB r) acc = acc ++ sureA rs
  | [], acc => by rw [sureA_nil, List.append_nil]; rfl
  | r :: rs, acc => by rw [List.foldl_cons, sureA_fold rs, sureA_cons, List.append_assoc]
theorem sureA_app : ∀ (as bs : List Row), sureA (as ++ bs) = sureA as ++ sureA bs
  | [], bs => by rw [sureA_nil]; rfl
  | a :: as, bs => by rw [List.cons_append, sureA_cons, sureA_cons, sureA_app as bs, List.append_assoc]
theorem sure_run {rs : List Row} (hB : ∀ r ∈ rs, ∀ (n : Nat) (st : VSt), 2 * r.lvl + 2 ≤ n → Fm D n i__surely_set_by [r.pv] st = .ok (.lst ((sureB r).map PV.str)) st) (hz : Row.szs rs ≤ 1000000) {ws : List Str} (hi : Row.Ins ws rs) (hw : ws.length < 64) {n : Nat} (h : 2 * Row.lvls rs + 3 ≤ n) (st : VSt) :
    Fm D n i_surely_set [.tup (Row.pvs rs)] st = .ok (.lst ((sureF rs).map PV.str)) st := by
  obtain ⟨m, rfl⟩ := ge_add (k := 1) (n := n) (by omega)
  rw [c_surely_set, b_surely_set_q]
  have b1 : boxV (.lst []) st = .ok (.loc st.length) (st ++ [.lst []]) := box1 rfl
  obtain ⟨e', st', lp, z, rfl, rfl⟩ := forL_fold (B := bodyP (gName 2) (fb_surely_set_0 (Fm D m))) (enc := Row.pv) (f := fun acc r => acc ++ sureB r)
    (R := fun acc e s => ∃ z, e = [some (.tup (Row.pvs rs)), some (.loc st.length), z] ∧ s = st ++ [.lst (acc.map PV.str)]) rs [] [some (.tup (Row.pvs rs)), some (.loc st.length), none] (st ++ [.lst []])
    (fun pre r post hx e s ⟨z, he, hs⟩ => by
      subst he hs
      have hr : r ∈ rs := by rw [hx]; simp
      have hl := lvl_mem hr
      have hcall := fun s => hB r hr m s (by omega)
      rw [sureA_fold, List.nil_append]
      refine ⟨_, _, ?_, some r.pv, rfl, rfl⟩
      have hsz : (sureA pre).length + (sureB r).length ≤ 1000000 := by
        have h1 := sureA_len pre
        have h2 := sureB_len r
        have h3 : Row.szs rs = Row.szs pre + (r.sz + Row.szs post) := by rw [hx, szs_app, szs_cons]
        omega
      have hx2 := r_ext (l := eVar 1) (a := eApp (Fm D m i__surely_set_by) (aCons (eVar 2) aNil)) (env := [some (.tup (Row.pvs rs)), some (.loc st.length), some r.pv]) (st := st ++ [.lst ((sureA pre).map PV.str)]) (n := st.length) (xs := (sureA pre).map PV.str) (ys := (sureB r).map PV.str) (y := .lst ((sureB r).map PV.str)) (st' := st ++ [.lst ((sureA pre).map PV.str)]) rfl deref_end
        (by simp -implicitDefEqProofs (disch := omega) only [x_raise, x_notL, end_ex, bind_ok, nox_ok, bind_ex, s_ex, sb_ex, s_ok, sb_nx, sb_rt, sb_ct, sb_bk, onB_bl, onBS_bl, x_var, x_c, x_bin, x_un, x_nil, x_cons, x_tup, x_lst, x_app, x_and, x_or, x_not, x_if, x_box, x_get, x_sl, x_onone, x_osome, x_snil, x_scons, x_set, x_expr, x_ret, x_retB, x_sif, x_bk, x_ct, x_aug, x_asg, x_gname, x_gnil, x_gcons, x_gtup, mkt0, mkl0, mkt1, mkl1, mkt2, mkl2, mkt3, mkl3, mkt4, mkl4, mkt5, mkl5, mkt6, mkl6, mkt7, mkl7, v_il0, v_it0, v_il1, v_it1, v_il2, v_it2, v_il3, v_it3, v_il4, v_it4, v_il5, v_it5, v_add, v_addI, v_sub, v_neg, v_mul, v_fdv, v_mod, v_cmp, v_eqs, v_nes, v_eqi, v_nei, v_eqb, v_ixc, opt_some, v_lenl, v_lent, v_lenc, v_tupt, v_tupl, v_intb, v_inti, v_max, v_isn, v_isnn, end_rt, end_nx, fz_int, fz_str, fz_bl, fz_non, List.getElem?_cons_zero, List.getElem?_cons_succ, List.set_cons_zero, List.set_cons_succ, List.length_cons, List.length_nil, List.take_length, Option.map_some, oldLoc, Bool.false_and, Bool.and_false, Bool.true_and, Bool.and_true, Bool.not_true, Bool.not_false, Bool.false_eq_true, decide_true, decide_false, decide_eq_true_eq, if_true, if_false, ↓reduceIte, Nat.reduceAdd, Nat.reduceLeDiff, hcall]) deref_end rfl (by rw [List.length_map, List.length_map]; exact hsz) (pures_strs _)
      rw [set_end, ← List.map_append] at hx2
      unfold fb_surely_set_0
      simp -implicitDefEqProofs (disch := omega) only [x_raise, x_notL, end_ex, bind_ok, nox_ok, bind_ex, s_ex, sb_ex, s_ok, sb_nx, sb_rt, sb_ct, sb_bk, onB_bl, onBS_bl, x_var, x_c, x_bin, x_un, x_nil, x_cons, x_tup, x_lst, x_app, x_and, x_or, x_not, x_if, x_box, x_get, x_sl, x_onone, x_osome, x_snil, x_scons, x_set, x_expr, x_ret, x_retB, x_sif, x_bk, x_ct, x_aug, x_asg, x_gname, x_gnil, x_gcons, x_gtup, mkt0, mkl0, mkt1, mkl1, mkt2, mkl2, mkt3, mkl3, mkt4, mkl4, mkt5, mkl5, mkt6, mkl6, mkt7, mkl7, v_il0, v_it0, v_il1, v_it1, v_il2, v_it2, v_il3, v_it3, v_il4, v_it4, v_il5, v_it5, v_add, v_addI, v_sub, v_neg, v_mul, v_fdv, v_mod, v_cmp, v_eqs, v_nes, v_eqi, v_nei, v_eqb, v_ixc, opt_some, v_lenl, v_lent, v_lenc, v_tupt, v_tupl, v_intb, v_inti, v_max, v_isn, v_isnn, end_rt, end_nx, fz_int, fz_str, fz_bl, fz_non, List.getElem?_cons_zero, List.getElem?_cons_succ, List.set_cons_zero, List.set_cons_succ, List.length_cons, List.length_nil, List.take_length, Option.map_some, oldLoc, Bool.false_and, Bool.and_false, Bool.true_and, Bool.and_true, Bool.not_true, Bool.not_false, Bool.false_eq_true, decide_true, decide_false, decide_eq_true_eq, if_true, if_false, ↓reduceIte, Nat.reduceAdd, Nat.reduceLeDiff, x_body, hx2]) ⟨none, rfl, rfl⟩
  rw [sureA_fold, List.nil_append, ← pvs_map] at lp
  have hf := for_tup (a := eVar 0) (g := gName 2) (body := fb_surely_set_0 (Fm D m)) (xs := Row.pvs rs) (env := [some (.tup (Row.pvs rs)), some (.loc st.length), none]) (st := st ++ [.lst []]) (st' := st ++ [.lst []]) rfl
  rw [lp] at hf
  have ho := oneS_ws (sureA_in rs hi)
  have v1 : ∀ {q : List PV}, vSet [.loc st.length] (st ++ [.lst ((sureA rs).map PV.str)]) = .ok (.sset (oneS (sureA rs))) (st ++ [.lst ((sureA rs).map PV.str)]) := v_set deref_end (by omega)
  have v2 : ∀ s, vSorted [.sset (oneS (sureA rs))] s = .ok (.lst ((sureF rs).map PV.str)) s := fun s => v_sorteds rfl (by omega)
  have hp : pures ((sureF rs).map PV.str) = true := pures_strs _
  have ol : oldLoc st.length (.lst ((sureF rs).map PV.str)) = false := rfl
  unfold q_surely_set_0 q_surely_set_1 q_surely_set_2
  simp -implicitDefEqProofs (disch := omega) only [x_raise, x_notL, end_ex, bind_ok, nox_ok, bind_ex, s_ex, sb_ex, s_ok, sb_nx, sb_rt, sb_ct, sb_bk, onB_bl, onBS_bl, x_var, x_c, x_bin, x_un, x_nil, x_cons, x_tup, x_lst, x_app, x_and, x_or, x_not, x_if, x_box, x_get, x_sl, x_onone, x_osome, x_snil, x_scons, x_set, x_expr, x_ret, x_retB, x_sif, x_bk, x_ct, x_aug, x_asg, x_gname, x_gnil, x_gcons, x_gtup, mkt0, mkl0, mkt1, mkl1, mkt2, mkl2, mkt3, mkl3, mkt4, mkl4, mkt5, mkl5, mkt6, mkl6, mkt7, mkl7, v_il0, v_it0, v_il1, v_it1, v_il2, v_it2, v_il3, v_it3, v_il4, v_it4, v_il5, v_it5, v_add, v_addI, v_sub, v_neg, v_mul, v_fdv, v_mod, v_cmp, v_eqs, v_nes, v_eqi, v_nei, v_eqb, v_ixc, opt_some, v_lenl, v_lent, v_lenc, v_tupt, v_tupl, v_intb, v_inti, v_max, v_isn, v_isnn, end_rt, end_nx, fz_int, fz_str, fz_bl, fz_non, List.getElem?_cons_zero, List.getElem?_cons_succ, List.set_cons_zero, List.set_cons_succ, List.length_cons, List.length_nil, List.take_length, Option.map_some, oldLoc, Bool.false_and, Bool.and_false, Bool.true_and, Bool.and_true, Bool.not_true, Bool.not_false, Bool.false_eq_true, decide_true, decide_false, decide_eq_true_eq, if_true, if_false, ↓reduceIte, Nat.reduceAdd, Nat.reduceLeDiff, b1, hf, v1 (q := []), v2, fz_lst hp, ol, take_app]
end Lk


namespace Lk
open PySem L2 Vm
theorem isN_str {x : Str} : Vm.isNon (.str x) = false := rfl
theorem isN_non : Vm.isNon .non = true := rfl
theorem fz_strs {s : VSt} {k : Nat} (xs : List Str) : freeze s k (.lst (xs.map PV.str)) = .lst (xs.map PV.str) := fz_lst (pures_strs _)
theorem decf {p : Prop} [Decidable p] (h : ¬ p) : decide p = false := decide_eq_false h
mutual
theorem F_sureB {ws : List Str} (hw : ws.length < 64) : ∀ (r : Row), r.In ws → r.sz ≤ 1000000 → ∀ (n : Nat) (st : VSt), 2 * r.lvl + 2 ≤ n → Fm D n i__surely_set_by [r.pv] st = .ok (.lst ((sureB r).map PV.str)) st
  | .set x t, g, hz, n, st, h => by
    obtain ⟨m, rfl⟩ := ge_add (k := 1) (n := n) (by omega)
    have ho := fun s => F_own_set (n := m) (by omega) (.set x t) s
    have fz := fun s (k : Nat) => fz_strs (s := s) (k := k) [x]
    rw [sureB, c__surely_set_by]; unfold b__surely_set_by
    rw [Row.pv] at ho ⊢
    simp -implicitDefEqProofs (disch := omega) only [x_raise, x_notL, end_ex, bind_ok, nox_ok, bind_ex, s_ex, sb_ex, s_ok, sb_nx, sb_rt, sb_ct, sb_bk, onB_bl, onBS_bl, x_var, x_c, x_bin, x_un, x_nil, x_cons, x_tup, x_lst, x_app, x_and, x_or, x_not, x_if, x_box, x_get, x_sl, x_onone, x_osome, x_snil, x_scons, x_set, x_expr, x_ret, x_retB, x_sif, x_bk, x_ct, x_aug, x_asg, x_gname, x_gnil, x_gcons, x_gtup, mkt0, mkl0, mkt1, mkl1, mkt2, mkl2, mkt3, mkl3, mkt4, mkl4, mkt5, mkl5, mkt6, mkl6, mkt7, mkl7, v_il0, v_it0, v_il1, v_it1, v_il2, v_it2, v_il3, v_it3, v_il4, v_it4, v_il5, v_it5, v_add, v_addI, v_sub, v_neg, v_mul, v_fdv, v_mod, v_cmp, v_eqs, v_nes, v_eqi, v_nei, v_eqb, v_ixc, opt_some, v_lenl, v_lent, v_lenc, v_tupt, v_tupl, v_intb, v_inti, v_max, v_isn, v_isnn, end_rt, end_nx, fz_int, fz_str, fz_bl, fz_non, List.getElem?_cons_zero, List.getElem?_cons_succ, List.set_cons_zero, List.set_cons_succ, List.length_cons, List.length_nil, List.take_length, Option.map_some, oldLoc, Bool.false_and, Bool.and_false, Bool.true_and, Bool.and_true, Bool.not_true, Bool.not_false, Bool.false_eq_true, decide_true, decide_false, decide_eq_true_eq, if_true, if_false, ↓reduceIte, Nat.reduceAdd, Nat.reduceLeDiff, k_sa, ho, tgtF, optS, isN_str, List.map_cons, List.map_nil, fz_lst (pures_strs [x])]
    exact congrArg (Res.ok · st) (fz st st.length)
  | .tell t, g, hz, n, st, h => by
    obtain ⟨m, rfl⟩ := ge_add (k := 1) (n := n) (by omega)
    have ho := fun s => F_own_set (n := m) (by omega) (.tell t) s
    rw [sureB, c__surely_set_by]; unfold b__surely_set_by
    rw [Row.pv] at ho ⊢
    simp -implicitDefEqProofs (disch := omega) only [x_raise, x_notL, end_ex, bind_ok, nox_ok, bind_ex, s_ex, sb_ex, s_ok, sb_nx, sb_rt, sb_ct, sb_bk, onB_bl, onBS_bl, x_var, x_c, x_bin, x_un, x_nil, x_cons, x_tup, x_lst, x_app, x_and, x_or, x_not, x_if, x_box, x_get, x_sl, x_onone, x_osome, x_snil, x_scons, x_set, x_expr, x_ret, x_retB, x_sif, x_bk, x_ct, x_aug, x_asg, x_gname, x_gnil, x_gcons, x_gtup, mkt0, mkl0, mkt1, mkl1, mkt2, mkl2, mkt3, mkl3, mkt4, mkl4, mkt5, mkl5, mkt6, mkl6, mkt7, mkl7, v_il0, v_it0, v_il1, v_it1, v_il2, v_it2, v_il3, v_it3, v_il4, v_it4, v_il5, v_it5, v_add, v_addI, v_sub, v_neg, v_mul, v_fdv, v_mod, v_cmp, v_eqs, v_nes, v_eqi, v_nei, v_eqb, v_ixc, opt_some, v_lenl, v_lent, v_lenc, v_tupt, v_tupl, v_intb, v_inti, v_max, v_isn, v_isnn, end_rt, end_nx, fz_int, fz_str, fz_bl, fz_non, List.getElem?_cons_zero, List.getElem?_cons_succ, List.set_cons_zero, List.set_cons_succ, List.length_cons, List.length_nil, List.take_length, Option.map_some, oldLoc, Bool.false_and, Bool.and_false, Bool.true_and, Bool.and_true, Bool.not_true, Bool.not_false, Bool.false_eq_true, decide_true, decide_false, decide_eq_true_eq, if_true, if_false, ↓reduceIte, Nat.reduceAdd, Nat.reduceLeDiff, k_ta, ho, tgtF, optS, isN_non, List.map_nil]
    exact congrArg (Res.ok · st) (fz_strs (s := st) (k := st.length) [])
  | .call x f ts, g, hz, n, st, h => by
    obtain ⟨m, rfl⟩ := ge_add (k := 1) (n := n) (by omega)
    have ho := fun s => F_own_set (n := m) (by omega) (.call x f ts) s
    rw [sureB, c__surely_set_by]; unfold b__surely_set_by
    rw [Row.pv] at ho ⊢
    cases x with
    | none =>
      simp only [optS, tgtF] at ho
      simp -implicitDefEqProofs (disch := omega) only [x_raise, x_notL, end_ex, bind_ok, nox_ok, bind_ex, s_ex, sb_ex, s_ok, sb_nx, sb_rt, sb_ct, sb_bk, onB_bl, onBS_bl, x_var, x_c, x_bin, x_un, x_nil, x_cons, x_tup, x_lst, x_app, x_and, x_or, x_not, x_if, x_box, x_get, x_sl, x_onone, x_osome, x_snil, x_scons, x_set, x_expr, x_ret, x_retB, x_sif, x_bk, x_ct, x_aug, x_asg, x_gname, x_gnil, x_gcons, x_gtup, mkt0, mkl0, mkt1, mkl1, mkt2, mkl2, mkt3, mkl3, mkt4, mkl4, mkt5, mkl5, mkt6, mkl6, mkt7, mkl7, v_il0, v_it0, v_il1, v_it1, v_il2, v_it2, v_il3, v_it3, v_il4, v_it4, v_il5, v_it5, v_add, v_addI, v_sub, v_neg, v_mul, v_fdv, v_mod, v_cmp, v_eqs, v_nes, v_eqi, v_nei, v_eqb, v_ixc, opt_some, v_lenl, v_lent, v_lenc, v_tupt, v_tupl, v_intb, v_inti, v_max, v_isn, v_isnn, end_rt, end_nx, fz_int, fz_str, fz_bl, fz_non, List.getElem?_cons_zero, List.getElem?_cons_succ, List.set_cons_zero, List.set_cons_succ, List.length_cons, List.length_nil, List.take_length, Option.map_some, oldLoc, Bool.false_and, Bool.and_false, Bool.true_and, Bool.and_true, Bool.not_true, Bool.not_false, Bool.false_eq_true, decide_true, decide_false, decide_eq_true_eq, if_true, if_false, ↓reduceIte, Nat.reduceAdd, Nat.reduceLeDiff, k_ca, ho, tgtF, optS, isN_non]
      exact congrArg (Res.ok · st) (fz_strs (s := st) (k := st.length) [])
    | some x =>
      simp only [optS, tgtF] at ho
      simp -implicitDefEqProofs (disch := omega) only [x_raise, x_notL, end_ex, bind_ok, nox_ok, bind_ex, s_ex, sb_ex, s_ok, sb_nx, sb_rt, sb_ct, sb_bk, onB_bl, onBS_bl, x_var, x_c, x_bin, x_un, x_nil, x_cons, x_tup, x_lst, x_app, x_and, x_or, x_not, x_if, x_box, x_get, x_sl, x_onone, x_osome, x_snil, x_scons, x_set, x_expr, x_ret, x_retB, x_sif, x_bk, x_ct, x_aug, x_asg, x_gname, x_gnil, x_gcons, x_gtup, mkt0, mkl0, mkt1, mkl1, mkt2, mkl2, mkt3, mkl3, mkt4, mkl4, mkt5, mkl5, mkt6, mkl6, mkt7, mkl7, v_il0, v_it0, v_il1, v_it1, v_il2, v_it2, v_il3, v_it3, v_il4, v_it4, v_il5, v_it5, v_add, v_addI, v_sub, v_neg, v_mul, v_fdv, v_mod, v_cmp, v_eqs, v_nes, v_eqi, v_nei, v_eqb, v_ixc, opt_some, v_lenl, v_lent, v_lenc, v_tupt, v_tupl, v_intb, v_inti, v_max, v_isn, v_isnn, end_rt, end_nx, fz_int, fz_str, fz_bl, fz_non, List.getElem?_cons_zero, List.getElem?_cons_succ, List.set_cons_zero, List.set_cons_succ, List.length_cons, List.length_nil, List.take_length, Option.map_some, oldLoc, Bool.false_and, Bool.and_false, Bool.true_and, Bool.and_true, Bool.not_true, Bool.not_false, Bool.false_eq_true, decide_true, decide_false, decide_eq_true_eq, if_true, if_false, ↓reduceIte, Nat.reduceAdd, Nat.reduceLeDiff, k_ca, ho, tgtF, optS, isN_str]
      exact congrArg (Res.ok · st) (fz_strs (s := st) (k := st.length) [x])
  | .when t rs, g, hz, n, st, h => by
    obtain ⟨m, rfl⟩ := ge_add (k := 1) (n := n) (by omega)
    have ho := fun s => F_own_set (n := m) (by omega) (.when t rs) s
    rw [sureB, c__surely_set_by]; unfold b__surely_set_by
    rw [Row.pv] at ho ⊢
    simp -implicitDefEqProofs (disch := omega) only [x_raise, x_notL, end_ex, bind_ok, nox_ok, bind_ex, s_ex, sb_ex, s_ok, sb_nx, sb_rt, sb_ct, sb_bk, onB_bl, onBS_bl, x_var, x_c, x_bin, x_un, x_nil, x_cons, x_tup, x_lst, x_app, x_and, x_or, x_not, x_if, x_box, x_get, x_sl, x_onone, x_osome, x_snil, x_scons, x_set, x_expr, x_ret, x_retB, x_sif, x_bk, x_ct, x_aug, x_asg, x_gname, x_gnil, x_gcons, x_gtup, mkt0, mkl0, mkt1, mkl1, mkt2, mkl2, mkt3, mkl3, mkt4, mkl4, mkt5, mkl5, mkt6, mkl6, mkt7, mkl7, v_il0, v_it0, v_il1, v_it1, v_il2, v_it2, v_il3, v_it3, v_il4, v_it4, v_il5, v_it5, v_add, v_addI, v_sub, v_neg, v_mul, v_fdv, v_mod, v_cmp, v_eqs, v_nes, v_eqi, v_nei, v_eqb, v_ixc, opt_some, v_lenl, v_lent, v_lenc, v_tupt, v_tupl, v_intb, v_inti, v_max, v_isn, v_isnn, end_rt, end_nx, fz_int, fz_str, fz_bl, fz_non, List.getElem?_cons_zero, List.getElem?_cons_succ, List.set_cons_zero, List.set_cons_succ, List.length_cons, List.length_nil, List.take_length, Option.map_some, oldLoc, Bool.false_and, Bool.and_false, Bool.true_and, Bool.and_true, Bool.not_true, Bool.not_false, Bool.false_eq_true, decide_true, decide_false, decide_eq_true_eq, if_true, if_false, ↓reduceIte, Nat.reduceAdd, Nat.reduceLeDiff, k_wa, ho, tgtF, optS, isN_non]
    exact congrArg (Res.ok · st) (fz_strs (s := st) (k := st.length) [])
  | .again c rs, g, hz, n, st, h => by
    obtain ⟨m, rfl⟩ := ge_add (k := 1) (n := n) (by omega)
    have ho := fun s => F_own_set (n := m) (by omega) (.again c rs) s
    unfold Row.In at g
    rw [sz_again] at hz
    rw [lvl_again] at h
    have hs := fun s => sure_run (rs := rs) (F_sureBs hw rs g (by omega)) (by omega) g hw (n := m) (by omega) s
    rw [sureB_again, c__surely_set_by]; unfold b__surely_set_by
    rw [Row.pv] at ho ⊢
    by_cases hc : 0 < c
    · rw [if_pos hc]
      simp -implicitDefEqProofs (disch := omega) only [x_raise, x_notL, end_ex, bind_ok, nox_ok, bind_ex, s_ex, sb_ex, s_ok, sb_nx, sb_rt, sb_ct, sb_bk, onB_bl, onBS_bl, x_var, x_c, x_bin, x_un, x_nil, x_cons, x_tup, x_lst, x_app, x_and, x_or, x_not, x_if, x_box, x_get, x_sl, x_onone, x_osome, x_snil, x_scons, x_set, x_expr, x_ret, x_retB, x_sif, x_bk, x_ct, x_aug, x_asg, x_gname, x_gnil, x_gcons, x_gtup, mkt0, mkl0, mkt1, mkl1, mkt2, mkl2, mkt3, mkl3, mkt4, mkl4, mkt5, mkl5, mkt6, mkl6, mkt7, mkl7, v_il0, v_it0, v_il1, v_it1, v_il2, v_it2, v_il3, v_it3, v_il4, v_it4, v_il5, v_it5, v_add, v_addI, v_sub, v_neg, v_mul, v_fdv, v_mod, v_cmp, v_eqs, v_nes, v_eqi, v_nei, v_eqb, v_ixc, opt_some, v_lenl, v_lent, v_lenc, v_tupt, v_tupl, v_intb, v_inti, v_max, v_isn, v_isnn, end_rt, end_nx, fz_int, fz_str, fz_bl, fz_non, List.getElem?_cons_zero, List.getElem?_cons_succ, List.set_cons_zero, List.set_cons_succ, List.length_cons, List.length_nil, List.take_length, Option.map_some, oldLoc, Bool.false_and, Bool.and_false, Bool.true_and, Bool.and_true, Bool.not_true, Bool.not_false, Bool.false_eq_true, decide_true, decide_false, decide_eq_true_eq, if_true, if_false, ↓reduceIte, Nat.reduceAdd, Nat.reduceLeDiff, hc, hs]
      exact congrArg (Res.ok · st) (fz_strs (s := st) (k := st.length) _)
    · rw [if_neg hc]
      simp -implicitDefEqProofs (disch := omega) only [x_raise, x_notL, end_ex, bind_ok, nox_ok, bind_ex, s_ex, sb_ex, s_ok, sb_nx, sb_rt, sb_ct, sb_bk, onB_bl, onBS_bl, x_var, x_c, x_bin, x_un, x_nil, x_cons, x_tup, x_lst, x_app, x_and, x_or, x_not, x_if, x_box, x_get, x_sl, x_onone, x_osome, x_snil, x_scons, x_set, x_expr, x_ret, x_retB, x_sif, x_bk, x_ct, x_aug, x_asg, x_gname, x_gnil, x_gcons, x_gtup, mkt0, mkl0, mkt1, mkl1, mkt2, mkl2, mkt3, mkl3, mkt4, mkl4, mkt5, mkl5, mkt6, mkl6, mkt7, mkl7, v_il0, v_it0, v_il1, v_it1, v_il2, v_it2, v_il3, v_it3, v_il4, v_it4, v_il5, v_it5, v_add, v_addI, v_sub, v_neg, v_mul, v_fdv, v_mod, v_cmp, v_eqs, v_nes, v_eqi, v_nei, v_eqb, v_ixc, opt_some, v_lenl, v_lent, v_lenc, v_tupt, v_tupl, v_intb, v_inti, v_max, v_isn, v_isnn, end_rt, end_nx, fz_int, fz_str, fz_bl, fz_non, List.getElem?_cons_zero, List.getElem?_cons_succ, List.set_cons_zero, List.set_cons_succ, List.length_cons, List.length_nil, List.take_length, Option.map_some, oldLoc, Bool.false_and, Bool.and_false, Bool.true_and, Bool.and_true, Bool.not_true, Bool.not_false, Bool.false_eq_true, decide_true, decide_false, decide_eq_true_eq, if_true, if_false, ↓reduceIte, Nat.reduceAdd, Nat.reduceLeDiff, decf hc, ho, tgtF, optS, isN_non]
      exact congrArg (Res.ok · st) (fz_strs (s := st) (k := st.length) [])
theorem F_sureBs {ws : List Str} (hw : ws.length < 64) : ∀ (rs : List Row), Row.Ins ws rs → Row.szs rs ≤ 1000000 → ∀ r ∈ rs, ∀ (n : Nat) (st : VSt), 2 * r.lvl + 2 ≤ n → Fm D n i__surely_set_by [r.pv] st = .ok (.lst ((sureB r).map PV.str)) st
  | [], _, _, r, h => by cases h
  | s :: rs, g, hz, r, h => by
    rw [ins_cons] at g
    rw [szs_cons] at hz
    rcases List.mem_cons.mp h with e | h
    · rw [e]; exact F_sureB hw s g.1 (by omega)
    · exact F_sureBs hw rs g.2 (by omega) r h
end
theorem F_surely_set {ws : List Str} (hw : ws.length < 64) {rs : List Row} (g : Row.Ins ws rs) (hz : Row.szs rs ≤ 1000000) {n : Nat} (h : 2 * Row.lvls rs + 3 ≤ n) (st : VSt) : Fm D n i_surely_set [.tup (Row.pvs rs)] st = .ok (.lst ((sureF rs).map PV.str)) st :=
  sure_run (F_sureBs hw rs g hz) hz g hw h st
/-! ## first read -/
def addF (ah : List Str) (fd : List Str) (x : Str) : List Str := if x ∈ ah then fd else addS fd x
mutual
def firstB : Row → List Str
  | .when t rs => ownO (.when t rs) ++ srtS (firstA rs [] [])
  | .again m rs => if 0 < m then srtS (firstA rs [] []) else []
  | .set x t => ownO (.set x t)
  | .tell t => ownO (.tell t)
  | .call x f ts => ownO (.call x f ts)
def firstA : List Row → List Str → List Str → List Str
  | [], _, fd => fd
  | r :: rs, ah, fd => firstA rs ((sureB r).foldl addS ah) ((firstB r).foldl (addF ah) fd)
end
def firstF (rs : List Row) : List Str := srtS (firstA rs [] [])
theorem firstA_cons (r : Row) (rs : List Row) (ah fd : List Str) : firstA (r :: rs) ah fd = firstA rs ((sureB r).foldl addS ah) ((firstB r).foldl (addF ah) fd) := by rw [firstA]
theorem firstA_nil (ah fd : List Str) : firstA [] ah fd = fd := by rw [firstA]
theorem mem_addFs {ah : List Str} {y : Str} : ∀ (xs fd : List Str), y ∈ xs.foldl (addF ah) fd ↔ y ∈ fd ∨ (y ∉ ah ∧ y ∈ xs)
  | [], fd => by simp
  | x :: xs, fd => by
    rw [List.foldl_cons, mem_addFs xs]
    unfold addF
    split
    · rename_i h
      rw [List.mem_cons]
      constructor
      · rintro (h1 | ⟨h1, h2⟩)
        · exact .inl h1
        · exact .inr ⟨h1, .inr h2⟩
      · rintro (h1 | ⟨h1, rfl | h2⟩)
        · exact .inl h1
        · exact absurd h h1
        · exact .inr ⟨h1, h2⟩
    · rename_i h
      rw [mem_addS, List.mem_cons]
      constructor
      · rintro ((h1 | rfl) | ⟨h1, h2⟩)
        · exact .inl h1
        · exact .inr ⟨h, .inl rfl⟩
        · exact .inr ⟨h1, .inr h2⟩
      · rintro (h1 | ⟨h1, rfl | h2⟩)
        · exact .inl (.inl h1)
        · exact .inl (.inr rfl)
        · exact .inr ⟨h1, h2⟩
theorem nodup_addFs {ah : List Str} : ∀ (xs fd : List Str), fd.Nodup → (xs.foldl (addF ah) fd).Nodup
  | [], fd, h => h
  | x :: xs, fd, h => nodup_addFs xs _ (by
    unfold addF
    split
    · exact h
    · exact nodup_addS h)
theorem nodup_firstA : ∀ (rs : List Row) (ah fd : List Str), fd.Nodup → (firstA rs ah fd).Nodup
  | [], ah, fd, h => by rw [firstA_nil]; exact h
  | r :: rs, ah, fd, h => by rw [firstA_cons]; exact nodup_firstA rs _ _ (nodup_addFs _ _ h)
theorem mem_firstF {y : Str} {rs : List Row} : y ∈ firstF rs ↔ y ∈ firstA rs [] [] := by unfold firstF; rw [mem_srtS]
mutual
theorem firstB_in {ws : List Str} : ∀ r : Row, r.In ws → ∀ y ∈ firstB r, y ∈ ws
  | .set x t, g, y, h => by rw [firstB] at h; exact ownN_in g y (mem_ownO.mp h)
  | .tell t, g, y, h => by rw [firstB] at h; exact ownN_in g y (mem_ownO.mp h)
  | .call x f ts, g, y, h => by rw [firstB] at h; exact ownN_in g y (mem_ownO.mp h)
  | .when t rs, g, y, h => by
    rw [firstB, List.mem_append, mem_srtS] at h
    rcases h with h | h
    · exact ownN_in g y (mem_ownO.mp h)
    · have g2 := g
      unfold Row.In at g2
      exact (firstA_in rs g2.2 [] [] y h).resolve_left (by simp)
  | .again m rs, g, y, h => by
    rw [firstB] at h
    unfold Row.In at g
    split at h
    · exact (firstA_in rs g [] [] y (mem_srtS.mp h)).resolve_left (by simp)
    · cases h
theorem firstA_in {ws : List Str} : ∀ rs : List Row, Row.Ins ws rs → ∀ (ah fd : List Str), ∀ y ∈ firstA rs ah fd, y ∈ fd ∨ y ∈ ws
  | [], _, ah, fd, y, h => by rw [firstA_nil] at h; exact .inl h
  | r :: rs, g, ah, fd, y, h => by
    rw [ins_cons] at g
    rw [firstA_cons] at h
    rcases firstA_in rs g.2 _ _ y h with h | h
    · rcases (mem_addFs _ _).mp h with h | ⟨_, h⟩
      · exact .inl h
      · exact .inr (firstB_in r g.1 y h)
    · exact .inr h
end
end Lk


namespace Lk
open PySem L2 Vm
theorem firstA_fold : ∀ (rs : List Row) (ah fd : List Str), firstA rs ah fd = (rs.foldl (fun (p : List Str × List Str) r => ((firstB r).foldl (addF p.2) p.1, (sureB r).foldl addS p.2)) (fd, ah)).1
  | [], ah, fd => by rw [firstA_nil]; rfl
  | r :: rs, ah, fd => by rw [firstA_cons, firstA_fold rs]; rfl
theorem v_ninS {s : VSt} {x : Str} {n : Nat} {xs : List Str} (h : deref s (.loc n) = .sset xs) : vIn true (.str x) (.loc n) s = .ok (.bl (!decide (x ∈ xs))) s := by
  unfold vIn
  rw [h]
  exact Eq.trans rfl rfl
theorem sset_noLoc (xs : List Str) : noLoc (.sset xs) = true := rfl
theorem add_loop {T : Tbl} {a b c d : Option PV} {s : VSt} {ws : List Str} (hw : ws.length < 64) (hc : c = some (.loc (s.length + 1))) {fd : PV} : ∀ (xs ah : List Str) (z : Option PV), ah.Nodup → (∀ x ∈ ah, x ∈ ws) → (∀ x ∈ xs, x ∈ ws) →
    ∃ z', forL (bodyP (gName 4) (fb_first_read_2 T)) (xs.map PV.str) [a, b, c, d, z] (s ++ [fd, .sset ah]) = .nx [a, b, c, d, z'] (s ++ [fd, .sset (xs.foldl addS ah)])
  | [], ah, z, _, _, _ => ⟨z, rfl⟩
  | x :: xs, ah, z, nd, h1, h2 => by
    subst hc
    have hx := h2 x List.mem_cons_self
    obtain ⟨z', e⟩ := add_loop (T := T) (a := a) (b := b) (d := d) (s := s) hw rfl (fd := fd) xs (addS ah x) (some (.str x)) (nodup_addS nd) (fun y hy => (mem_addS.mp hy).elim (h1 y) fun e => by rw [e]; exact hx) fun y hy => h2 y (List.mem_cons_of_mem _ hy)
    refine ⟨z', ?_⟩
    have hl := nodup_len nd h1
    have ha := r_add (l := eVar 2) (a := eVar 4) (env := [a, b, some (.loc (s.length + 1)), d, some (.str x)]) (st := s ++ [fd, .sset ah]) (st' := s ++ [fd, .sset ah]) (n := s.length + 1) (xs := ah) (y := x) rfl deref2b rfl deref2b (by omega)
    rw [set2b] at ha
    have hb : bodyP (gName 4) (fb_first_read_2 T) (.str x) [a, b, some (.loc (s.length + 1)), d, z] (s ++ [fd, .sset ah]) = .nx [a, b, some (.loc (s.length + 1)), d, some (.str x)] (s ++ [fd, .sset (addS ah x)]) := by
      unfold fb_first_read_2
      simp -implicitDefEqProofs (disch := omega) only [x_raise, x_notL, end_ex, bind_ok, nox_ok, bind_ex, s_ex, sb_ex, s_ok, sb_nx, sb_rt, sb_ct, sb_bk, onB_bl, onBS_bl, x_var, x_c, x_bin, x_un, x_nil, x_cons, x_tup, x_lst, x_app, x_and, x_or, x_not, x_if, x_box, x_get, x_sl, x_onone, x_osome, x_snil, x_scons, x_set, x_expr, x_ret, x_retB, x_sif, x_bk, x_ct, x_aug, x_asg, x_gname, x_gnil, x_gcons, x_gtup, mkt0, mkl0, mkt1, mkl1, mkt2, mkl2, mkt3, mkl3, mkt4, mkl4, mkt5, mkl5, mkt6, mkl6, mkt7, mkl7, v_il0, v_it0, v_il1, v_it1, v_il2, v_it2, v_il3, v_it3, v_il4, v_it4, v_il5, v_it5, v_add, v_addI, v_sub, v_neg, v_mul, v_fdv, v_mod, v_cmp, v_eqs, v_nes, v_eqi, v_nei, v_eqb, v_ixc, opt_some, v_lenl, v_lent, v_lenc, v_tupt, v_tupl, v_intb, v_inti, v_max, v_isn, v_isnn, end_rt, end_nx, fz_int, fz_str, fz_bl, fz_non, List.getElem?_cons_zero, List.getElem?_cons_succ, List.set_cons_zero, List.set_cons_succ, List.length_cons, List.length_nil, List.take_length, Option.map_some, oldLoc, Bool.false_and, Bool.and_false, Bool.true_and, Bool.and_true, Bool.not_true, Bool.not_false, Bool.false_eq_true, decide_true, decide_false, decide_eq_true_eq, if_true, if_false, ↓reduceIte, Nat.reduceAdd, Nat.reduceLeDiff, x_body, ha]
    rw [List.map_cons, forL_cons, hb]
    exact e
theorem find_loop {T : Tbl} {a b c d : Option PV} {s : VSt} {ws ah : List Str} (hw : ws.length < 64) (hb : b = some (.loc s.length)) (hc : c = some (.loc (s.length + 1))) : ∀ (xs fd : List Str) (z : Option PV), fd.Nodup → (∀ x ∈ fd, x ∈ ws) → (∀ x ∈ xs, x ∈ ws) →
    ∃ z', forL (bodyP (gName 4) (fb_first_read_1 T)) (xs.map PV.str) [a, b, c, d, z] (s ++ [.sset fd, .sset ah]) = .nx [a, b, c, d, z'] (s ++ [.sset (xs.foldl (addF ah) fd), .sset ah])
  | [], fd, z, _, _, _ => ⟨z, rfl⟩
  | x :: xs, fd, z, nd, h1, h2 => by
    subst hb hc
    have hx := h2 x List.mem_cons_self
    have nd' : (addF ah fd x).Nodup := nodup_addFs [x] fd nd
    have in' : ∀ y ∈ addF ah fd x, y ∈ ws := fun y hy => by
      rcases (mem_addFs [x] fd).mp (show y ∈ [x].foldl (addF ah) fd from hy) with h | ⟨_, h⟩
      · exact h1 y h
      · rw [List.mem_singleton.mp h]; exact hx
    obtain ⟨z', e⟩ := find_loop (T := T) (a := a) (d := d) (s := s) (ah := ah) hw rfl rfl xs (addF ah fd x) (some (.str x)) nd' in' fun y hy => h2 y (List.mem_cons_of_mem _ hy)
    refine ⟨z', ?_⟩
    have hl := nodup_len nd h1
    have ha := r_add (l := eVar 1) (a := eVar 4) (env := [a, some (.loc s.length), some (.loc (s.length + 1)), d, some (.str x)]) (st := s ++ [.sset fd, .sset ah]) (st' := s ++ [.sset fd, .sset ah]) (n := s.length) (xs := fd) (y := x) rfl deref2a rfl deref2a (by omega)
    rw [set2a] at ha
    have hn := v_ninS (s := s ++ [.sset fd, .sset ah]) (x := x) (n := s.length + 1) deref2b
    have hb : bodyP (gName 4) (fb_first_read_1 T) (.str x) [a, some (.loc s.length), some (.loc (s.length + 1)), d, z] (s ++ [.sset fd, .sset ah]) = .nx [a, some (.loc s.length), some (.loc (s.length + 1)), d, some (.str x)] (s ++ [.sset (addF ah fd x), .sset ah]) := by
      unfold fb_first_read_1 addF
      by_cases hm : x ∈ ah
      · have : decide (x ∈ ah) = true := decide_eq_true hm
        rw [if_pos hm]
        simp -implicitDefEqProofs (disch := omega) only [x_raise, x_notL, end_ex, bind_ok, nox_ok, bind_ex, s_ex, sb_ex, s_ok, sb_nx, sb_rt, sb_ct, sb_bk, onB_bl, onBS_bl, x_var, x_c, x_bin, x_un, x_nil, x_cons, x_tup, x_lst, x_app, x_and, x_or, x_not, x_if, x_box, x_get, x_sl, x_onone, x_osome, x_snil, x_scons, x_set, x_expr, x_ret, x_retB, x_sif, x_bk, x_ct, x_aug, x_asg, x_gname, x_gnil, x_gcons, x_gtup, mkt0, mkl0, mkt1, mkl1, mkt2, mkl2, mkt3, mkl3, mkt4, mkl4, mkt5, mkl5, mkt6, mkl6, mkt7, mkl7, v_il0, v_it0, v_il1, v_it1, v_il2, v_it2, v_il3, v_it3, v_il4, v_it4, v_il5, v_it5, v_add, v_addI, v_sub, v_neg, v_mul, v_fdv, v_mod, v_cmp, v_eqs, v_nes, v_eqi, v_nei, v_eqb, v_ixc, opt_some, v_lenl, v_lent, v_lenc, v_tupt, v_tupl, v_intb, v_inti, v_max, v_isn, v_isnn, end_rt, end_nx, fz_int, fz_str, fz_bl, fz_non, List.getElem?_cons_zero, List.getElem?_cons_succ, List.set_cons_zero, List.set_cons_succ, List.length_cons, List.length_nil, List.take_length, Option.map_some, oldLoc, Bool.false_and, Bool.and_false, Bool.true_and, Bool.and_true, Bool.not_true, Bool.not_false, Bool.false_eq_true, decide_true, decide_false, decide_eq_true_eq, if_true, if_false, ↓reduceIte, Nat.reduceAdd, Nat.reduceLeDiff, x_body, hn, this]
      · have : decide (x ∈ ah) = false := decide_eq_false hm
        rw [if_neg hm]
        simp -implicitDefEqProofs (disch := omega) only [x_raise, x_notL, end_ex, bind_ok, nox_ok, bind_ex, s_ex, sb_ex, s_ok, sb_nx, sb_rt, sb_ct, sb_bk, onB_bl, onBS_bl, x_var, x_c, x_bin, x_un, x_nil, x_cons, x_tup, x_lst, x_app, x_and, x_or, x_not, x_if, x_box, x_get, x_sl, x_onone, x_osome, x_snil, x_scons, x_set, x_expr, x_ret, x_retB, x_sif, x_bk, x_ct, x_aug, x_asg, x_gname, x_gnil, x_gcons, x_gtup, mkt0, mkl0, mkt1, mkl1, mkt2, mkl2, mkt3, mkl3, mkt4, mkl4, mkt5, mkl5, mkt6, mkl6, mkt7, mkl7, v_il0, v_it0, v_il1, v_it1, v_il2, v_it2, v_il3, v_it3, v_il4, v_it4, v_il5, v_it5, v_add, v_addI, v_sub, v_neg, v_mul, v_fdv, v_mod, v_cmp, v_eqs, v_nes, v_eqi, v_nei, v_eqb, v_ixc, opt_some, v_lenl, v_lent, v_lenc, v_tupt, v_tupl, v_intb, v_inti, v_max, v_isn, v_isnn, end_rt, end_nx, fz_int, fz_str, fz_bl, fz_non, List.getElem?_cons_zero, List.getElem?_cons_succ, List.set_cons_zero, List.set_cons_succ, List.length_cons, List.length_nil, List.take_length, Option.map_some, oldLoc, Bool.false_and, Bool.and_false, Bool.true_and, Bool.and_true, Bool.not_true, Bool.not_false, Bool.false_eq_true, decide_true, decide_false, decide_eq_true_eq, if_true, if_false, ↓reduceIte, Nat.reduceAdd, Nat.reduceLeDiff, x_body, hn, this, ha]
    rw [List.map_cons, forL_cons, hb]
    exact e
theorem first_run {m : Nat} {rs : List Row} (hB : ∀ r ∈ rs, ∀ st : VSt, Fm D m i__first_read_by [r.pv] st = .ok (.lst ((firstB r).map PV.str)) st) (hS : ∀ r ∈ rs, ∀ st : VSt, Fm D m i__surely_set_by [r.pv] st = .ok (.lst ((sureB r).map PV.str)) st) {ws : List Str} (hi : Row.Ins ws rs) (hw : ws.length < 64) (st : VSt) :
    Fm D (m + 1) i_first_read [.tup (Row.pvs rs)] st = .ok (.lst ((firstF rs).map PV.str)) st := by
  rw [c_first_read, b_first_read_q]
  have b1 : boxV (.sset []) st = .ok (.loc st.length) (st ++ [.sset []]) := box1 rfl
  have b2 : boxV (.sset []) (st ++ [.sset []]) = .ok (.loc (st.length + 1)) (st ++ [.sset [], .sset []]) := box2 rfl
  let f : List Str × List Str → Row → List Str × List Str := fun p r => ((firstB r).foldl (addF p.2) p.1, (sureB r).foldl addS p.2)
  obtain ⟨e', st', lp, ⟨z, z2, rfl, rfl⟩, nd1, nd2, in1, in2⟩ := forL_fold (B := bodyP (gName 3) (fb_first_read_0 (Fm D m))) (enc := Row.pv) (f := f)
    (R := fun p e s => (∃ z z2, e = [some (.tup (Row.pvs rs)), some (.loc st.length), some (.loc (st.length + 1)), z, z2] ∧ s = st ++ [.sset p.1, .sset p.2]) ∧ p.1.Nodup ∧ p.2.Nodup ∧ (∀ x ∈ p.1, x ∈ ws) ∧ ∀ x ∈ p.2, x ∈ ws) rs ([], []) [some (.tup (Row.pvs rs)), some (.loc st.length), some (.loc (st.length + 1)), none, none] (st ++ [.sset [], .sset []])
    (fun pre r post hx e s ⟨⟨z, z2, he, hs⟩, n1, n2, i1, i2⟩ => by
      subst he hs
      have hr : r ∈ rs := by rw [hx]; simp
      have hB' := hB r hr
      have hS' := hS r hr
      have inr := in_mem hi hr
      generalize pre.foldl f ([], []) = p at n1 n2 i1 i2 ⊢
      obtain ⟨fd, ah⟩ := p
      obtain ⟨w1, l1⟩ := find_loop (T := Fm D m) (a := some (.tup (Row.pvs rs))) (d := some r.pv) (s := st) (ah := ah) hw rfl rfl (firstB r) fd z2 n1 i1 (firstB_in r inr)
      obtain ⟨w2, l2⟩ := add_loop (T := Fm D m) (a := some (.tup (Row.pvs rs))) (b := some (.loc st.length)) (d := some r.pv) (s := st) hw rfl (fd := .sset ((firstB r).foldl (addF ah) fd)) (sureB r) ah w1 n2 i2 (sureB_in r inr)
      have h1 := for_lst (a := eApp (Fm D m i__first_read_by) (aCons (eVar 3) aNil)) (g := gName 4) (body := fb_first_read_1 (Fm D m)) (xs := (firstB r).map PV.str) (env := [some (.tup (Row.pvs rs)), some (.loc st.length), some (.loc (st.length + 1)), some r.pv, z2]) (st := st ++ [.sset fd, .sset ah]) (st' := st ++ [.sset fd, .sset ah]) (by simp -implicitDefEqProofs (disch := omega) only [x_raise, x_notL, end_ex, bind_ok, nox_ok, bind_ex, s_ex, sb_ex, s_ok, sb_nx, sb_rt, sb_ct, sb_bk, onB_bl, onBS_bl, x_var, x_c, x_bin, x_un, x_nil, x_cons, x_tup, x_lst, x_app, x_and, x_or, x_not, x_if, x_box, x_get, x_sl, x_onone, x_osome, x_snil, x_scons, x_set, x_expr, x_ret, x_retB, x_sif, x_bk, x_ct, x_aug, x_asg, x_gname, x_gnil, x_gcons, x_gtup, mkt0, mkl0, mkt1, mkl1, mkt2, mkl2, mkt3, mkl3, mkt4, mkl4, mkt5, mkl5, mkt6, mkl6, mkt7, mkl7, v_il0, v_it0, v_il1, v_it1, v_il2, v_it2, v_il3, v_it3, v_il4, v_it4, v_il5, v_it5, v_add, v_addI, v_sub, v_neg, v_mul, v_fdv, v_mod, v_cmp, v_eqs, v_nes, v_eqi, v_nei, v_eqb, v_ixc, opt_some, v_lenl, v_lent, v_lenc, v_tupt, v_tupl, v_intb, v_inti, v_max, v_isn, v_isnn, end_rt, end_nx, fz_int, fz_str, fz_bl, fz_non, List.getElem?_cons_zero, List.getElem?_cons_succ, List.set_cons_zero, List.set_cons_succ, List.length_cons, List.length_nil, List.take_length, Option.map_some, oldLoc, Bool.false_and, Bool.and_false, Bool.true_and, Bool.and_true, Bool.not_true, Bool.not_false, Bool.false_eq_true, decide_true, decide_false, decide_eq_true_eq, if_true, if_false, ↓reduceIte, Nat.reduceAdd, Nat.reduceLeDiff, hB'])
      have h2 := for_lst (a := eApp (Fm D m i__surely_set_by) (aCons (eVar 3) aNil)) (g := gName 4) (body := fb_first_read_2 (Fm D m)) (xs := (sureB r).map PV.str) (env := [some (.tup (Row.pvs rs)), some (.loc st.length), some (.loc (st.length + 1)), some r.pv, w1]) (st := st ++ [.sset ((firstB r).foldl (addF ah) fd), .sset ah]) (st' := st ++ [.sset ((firstB r).foldl (addF ah) fd), .sset ah]) (by simp -implicitDefEqProofs (disch := omega) only [x_raise, x_notL, end_ex, bind_ok, nox_ok, bind_ex, s_ex, sb_ex, s_ok, sb_nx, sb_rt, sb_ct, sb_bk, onB_bl, onBS_bl, x_var, x_c, x_bin, x_un, x_nil, x_cons, x_tup, x_lst, x_app, x_and, x_or, x_not, x_if, x_box, x_get, x_sl, x_onone, x_osome, x_snil, x_scons, x_set, x_expr, x_ret, x_retB, x_sif, x_bk, x_ct, x_aug, x_asg, x_gname, x_gnil, x_gcons, x_gtup, mkt0, mkl0, mkt1, mkl1, mkt2, mkl2, mkt3, mkl3, mkt4, mkl4, mkt5, mkl5, mkt6, mkl6, mkt7, mkl7, v_il0, v_it0, v_il1, v_it1, v_il2, v_it2, v_il3, v_it3, v_il4, v_it4, v_il5, v_it5, v_add, v_addI, v_sub, v_neg, v_mul, v_fdv, v_mod, v_cmp, v_eqs, v_nes, v_eqi, v_nei, v_eqb, v_ixc, opt_some, v_lenl, v_lent, v_lenc, v_tupt, v_tupl, v_intb, v_inti, v_max, v_isn, v_isnn, end_rt, end_nx, fz_int, fz_str, fz_bl, fz_non, List.getElem?_cons_zero, List.getElem?_cons_succ, List.set_cons_zero, List.set_cons_succ, List.length_cons, List.length_nil, List.take_length, Option.map_some, oldLoc, Bool.false_and, Bool.and_false, Bool.true_and, Bool.and_true, Bool.not_true, Bool.not_false, Bool.false_eq_true, decide_true, decide_false, decide_eq_true_eq, if_true, if_false, ↓reduceIte, Nat.reduceAdd, Nat.reduceLeDiff, hS'])
      rw [l1] at h1
      rw [l2] at h2
      refine ⟨_, _, ?_, ⟨some r.pv, w2, rfl, rfl⟩, nodup_addFs _ _ n1, nodup_addsS _ _ n2, fun x hx => ?_, fun x hx => ?_⟩
      · unfold fb_first_read_0
        simp -implicitDefEqProofs (disch := omega) only [x_raise, x_notL, end_ex, bind_ok, nox_ok, bind_ex, s_ex, sb_ex, s_ok, sb_nx, sb_rt, sb_ct, sb_bk, onB_bl, onBS_bl, x_var, x_c, x_bin, x_un, x_nil, x_cons, x_tup, x_lst, x_app, x_and, x_or, x_not, x_if, x_box, x_get, x_sl, x_onone, x_osome, x_snil, x_scons, x_set, x_expr, x_ret, x_retB, x_sif, x_bk, x_ct, x_aug, x_asg, x_gname, x_gnil, x_gcons, x_gtup, mkt0, mkl0, mkt1, mkl1, mkt2, mkl2, mkt3, mkl3, mkt4, mkl4, mkt5, mkl5, mkt6, mkl6, mkt7, mkl7, v_il0, v_it0, v_il1, v_it1, v_il2, v_it2, v_il3, v_it3, v_il4, v_it4, v_il5, v_it5, v_add, v_addI, v_sub, v_neg, v_mul, v_fdv, v_mod, v_cmp, v_eqs, v_nes, v_eqi, v_nei, v_eqb, v_ixc, opt_some, v_lenl, v_lent, v_lenc, v_tupt, v_tupl, v_intb, v_inti, v_max, v_isn, v_isnn, end_rt, end_nx, fz_int, fz_str, fz_bl, fz_non, List.getElem?_cons_zero, List.getElem?_cons_succ, List.set_cons_zero, List.set_cons_succ, List.length_cons, List.length_nil, List.take_length, Option.map_some, oldLoc, Bool.false_and, Bool.and_false, Bool.true_and, Bool.and_true, Bool.not_true, Bool.not_false, Bool.false_eq_true, decide_true, decide_false, decide_eq_true_eq, if_true, if_false, ↓reduceIte, Nat.reduceAdd, Nat.reduceLeDiff, x_body, h1, h2, f]
      · rcases (mem_addFs _ _).mp hx with h | ⟨_, h⟩
        · exact i1 x h
        · exact firstB_in r inr x h
      · rcases (mem_addsS _ _).mp hx with h | h
        · exact i2 x h
        · exact sureB_in r inr x h) ⟨⟨none, none, rfl, rfl⟩, List.nodup_nil, List.nodup_nil, (fun _ h => by cases h), (fun _ h => by cases h)⟩
  have ef : (rs.foldl f ([], [])).1 = firstA rs [] [] := (firstA_fold rs [] []).symm
  rw [← pvs_map] at lp
  have hf := for_tup (a := eVar 0) (g := gName 3) (body := fb_first_read_0 (Fm D m)) (xs := Row.pvs rs) (env := [some (.tup (Row.pvs rs)), some (.loc st.length), some (.loc (st.length + 1)), none, none]) (st := st ++ [.sset [], .sset []]) (st' := st ++ [.sset [], .sset []]) rfl
  rw [lp] at hf
  have hl := nodup_len nd1 in1
  have v2 : vSorted [.loc st.length] (st ++ [.sset (rs.foldl f ([], [])).1, .sset (rs.foldl f ([], [])).2]) = .ok (.lst ((firstF rs).map PV.str)) (st ++ [.sset (rs.foldl f ([], [])).1, .sset (rs.foldl f ([], [])).2]) := by
    rw [v_sorteds deref2a (by omega), ef]; rfl
  have hp : pures ((firstF rs).map PV.str) = true := pures_strs _
  have ol : oldLoc st.length (.lst ((firstF rs).map PV.str)) = false := rfl
  unfold q_first_read_0 q_first_read_1 q_first_read_2 q_first_read_3
  simp -implicitDefEqProofs (disch := omega) only [x_raise, x_notL, end_ex, bind_ok, nox_ok, bind_ex, s_ex, sb_ex, s_ok, sb_nx, sb_rt, sb_ct, sb_bk, onB_bl, onBS_bl, x_var, x_c, x_bin, x_un, x_nil, x_cons, x_tup, x_lst, x_app, x_and, x_or, x_not, x_if, x_box, x_get, x_sl, x_onone, x_osome, x_snil, x_scons, x_set, x_expr, x_ret, x_retB, x_sif, x_bk, x_ct, x_aug, x_asg, x_gname, x_gnil, x_gcons, x_gtup, mkt0, mkl0, mkt1, mkl1, mkt2, mkl2, mkt3, mkl3, mkt4, mkl4, mkt5, mkl5, mkt6, mkl6, mkt7, mkl7, v_il0, v_it0, v_il1, v_it1, v_il2, v_it2, v_il3, v_it3, v_il4, v_it4, v_il5, v_it5, v_add, v_addI, v_sub, v_neg, v_mul, v_fdv, v_mod, v_cmp, v_eqs, v_nes, v_eqi, v_nei, v_eqb, v_ixc, opt_some, v_lenl, v_lent, v_lenc, v_tupt, v_tupl, v_intb, v_inti, v_max, v_isn, v_isnn, end_rt, end_nx, fz_int, fz_str, fz_bl, fz_non, List.getElem?_cons_zero, List.getElem?_cons_succ, List.set_cons_zero, List.set_cons_succ, List.length_cons, List.length_nil, List.take_length, Option.map_some, oldLoc, Bool.false_and, Bool.and_false, Bool.true_and, Bool.and_true, Bool.not_true, Bool.not_false, Bool.false_eq_true, decide_true, decide_false, decide_eq_true_eq, if_true, if_false, ↓reduceIte, Nat.reduceAdd, Nat.reduceLeDiff, b1, b2, hf, v2, fz_lst hp, ol, take_app]
mutual
theorem firstB_len : ∀ r : Row, (firstB r).length ≤ r.sz
  | .set x t => by rw [firstB]; exact ownO_len _
  | .tell t => by rw [firstB]; exact ownO_len _
  | .call x f ts => by rw [firstB]; exact ownO_len _
  | .when t rs => by
    rw [firstB, List.length_append, len_srtS, sz_when]
    have h1 := firstA_len rs [] []
    have h2 : (ownO (.when t rs)).length ≤ tot [t] := onces_tot _
    unfold tot tot at h2
    simp only [List.length_nil] at h1
    omega
  | .again m rs => by
    rw [firstB, sz_again]
    split
    · have h1 := firstA_len rs [] []
      rw [len_srtS]
      simp only [List.length_nil] at h1
      omega
    · exact Nat.zero_le _
theorem firstA_len : ∀ (rs : List Row) (ah fd : List Str), (firstA rs ah fd).length ≤ fd.length + Row.szs rs
  | [], ah, fd => by rw [firstA_nil]; omega
  | r :: rs, ah, fd => by
    rw [firstA_cons, szs_cons]
    have h1 := firstA_len rs ((sureB r).foldl addS ah) ((firstB r).foldl (addF ah) fd)
    have h2 := firstB_len r
    have h3 : ∀ (xs fd : List Str), (xs.foldl (addF ah) fd).length ≤ fd.length + xs.length := by
      intro xs
      induction xs with
      | nil => intro fd; exact Nat.le_refl _
      | cons x xs ih =>
        intro fd
        have := ih (addF ah fd x)
        have h4 : (addF ah fd x).length ≤ fd.length + 1 := by
          unfold addF
          split
          · omega
          · exact addS_len _ _
        rw [List.foldl_cons, List.length_cons]
        omega
    have := h3 (firstB r) fd
    omega
end
theorem firstF_len (rs : List Row) : (firstF rs).length ≤ Row.szs rs := by
  have := firstA_len rs [] []
  unfold firstF
  rw [len_srtS]
  simpa using this
theorem ext_end {l a : EM} {env : VEnv} {s : VSt} {xs ys : List Str} (hl : l env (s ++ [.lst (xs.map PV.str)]) = .ok (.loc s.length) (s ++ [.lst (xs.map PV.str)])) (ha : a env (s ++ [.lst (xs.map PV.str)]) = .ok (.lst (ys.map PV.str)) (s ++ [.lst (xs.map PV.str)])) (hn : xs.length + ys.length ≤ 1000000) :
    sExt l a env (s ++ [.lst (xs.map PV.str)]) = .nx env (s ++ [.lst ((xs ++ ys).map PV.str)]) := by
  rw [r_ext hl deref_end ha deref_end (show deref _ (.lst (ys.map PV.str)) = _ from rfl) (by rw [List.length_map, List.length_map]; exact hn) (pures_strs _), set_end, ← List.map_append]
theorem firstB_run {m : Nat} {r : Row} (g : r.Gd) (hz : r.sz < 1000000) (hm : 6 ≤ m) (hF : (∀ m rs, r = .again m rs → 0 < m) → ∀ st : VSt, Fm D m i_first_read [.tup (Row.pvs (blkF r))] st = .ok (.lst ((firstF (blkF r)).map PV.str)) st) (st : VSt) :
    Fm D (m + 1) i__first_read_by [r.pv] st = .ok (.lst ((firstB r).map PV.str)) st := by
  rw [c__first_read_by, b__first_read_by_q]
  have ho := fun s => F_own_names hm g hz s
  have hr := fun s => F_rows_within (n := m) (by omega) r s
  have b1 : boxV (.lst ((ownO r).map PV.str)) st = .ok (.loc st.length) (st ++ [.lst ((ownO r).map PV.str)]) := box1 (pures_strs _)
  have e0 : ∀ xs : List Str, freeze (st ++ [.lst (xs.map PV.str)]) st.length (.loc st.length) = .lst (xs.map PV.str) := fun xs => fz_loc
  have hlen : (ownO r).length + (firstF (blkF r)).length ≤ 1000000 ∧ firstF [] = [] := by
    have h1 := ownO_len r
    have h2 := firstF_len (blkF r)
    refine ⟨?_, by unfold firstF; rw [firstA_nil]; rfl⟩
    cases r with
    | when t rs =>
      have h3 : (ownO (.when t rs)).length ≤ tot [t] := onces_tot _
      unfold tot tot at h3
      rw [sz_when] at hz
      have h4 : (firstF rs).length ≤ Row.szs rs := h2
      show (ownO (.when t rs)).length + (firstF rs).length ≤ _
      omega
    | again k rs =>
      rw [sz_again] at hz
      have h4 : (firstF rs).length ≤ Row.szs rs := h2
      show 0 + (firstF rs).length ≤ _
      omega
    | _ =>
      show _ + (firstF []).length ≤ _
      unfold firstF; rw [firstA_nil]
      show _ + 0 ≤ _
      omega
  unfold q__first_read_by_0 q__first_read_by_1 q__first_read_by_2
  have hx := fun (hF' : ∀ st : VSt, Fm D m i_first_read [.tup (Row.pvs (blkF r))] st = .ok (.lst ((firstF (blkF r)).map PV.str)) st) => ext_end (l := eVar 1) (a := eApp (Fm D m i_first_read) (aCons (eApp (Fm D m i_rows_within) (aCons (eVar 0) aNil)) aNil)) (env := [some r.pv, some (.loc st.length)]) (s := st) (xs := ownO r) (ys := firstF (blkF r)) rfl (by simp -implicitDefEqProofs (disch := omega) only [x_raise, x_notL, end_ex, bind_ok, nox_ok, bind_ex, s_ex, sb_ex, s_ok, sb_nx, sb_rt, sb_ct, sb_bk, onB_bl, onBS_bl, x_var, x_c, x_bin, x_un, x_nil, x_cons, x_tup, x_lst, x_app, x_and, x_or, x_not, x_if, x_box, x_get, x_sl, x_onone, x_osome, x_snil, x_scons, x_set, x_expr, x_ret, x_retB, x_sif, x_bk, x_ct, x_aug, x_asg, x_gname, x_gnil, x_gcons, x_gtup, mkt0, mkl0, mkt1, mkl1, mkt2, mkl2, mkt3, mkl3, mkt4, mkl4, mkt5, mkl5, mkt6, mkl6, mkt7, mkl7, v_il0, v_it0, v_il1, v_it1, v_il2, v_it2, v_il3, v_it3, v_il4, v_it4, v_il5, v_it5, v_add, v_addI, v_sub, v_neg, v_mul, v_fdv, v_mod, v_cmp, v_eqs, v_nes, v_eqi, v_nei, v_eqb, v_ixc, opt_some, v_lenl, v_lent, v_lenc, v_tupt, v_tupl, v_intb, v_inti, v_max, v_isn, v_isnn, end_rt, end_nx, fz_int, fz_str, fz_bl, fz_non, List.getElem?_cons_zero, List.getElem?_cons_succ, List.set_cons_zero, List.set_cons_succ, List.length_cons, List.length_nil, List.take_length, Option.map_some, oldLoc, Bool.false_and, Bool.and_false, Bool.true_and, Bool.and_true, Bool.not_true, Bool.not_false, Bool.false_eq_true, decide_true, decide_false, decide_eq_true_eq, if_true, if_false, ↓reduceIte, Nat.reduceAdd, Nat.reduceLeDiff, hr, hF']) hlen.1
  have fin : ∀ (xs ys : List Str), xs = ys → (Res.ok (PV.lst (xs.map PV.str)) st) = .ok (.lst (ys.map PV.str)) st := fun xs ys e => by rw [e]
  cases r with
  | set x t =>
    have hx' := hx (hF fun _ _ h => by cases h)
    rw [show blkF (.set x t) = [] from rfl, hlen.2, List.append_nil] at hx'
    rw [firstB]
    rw [Row.pv] at ho hx' ⊢
    simp -implicitDefEqProofs (disch := omega) only [x_raise, x_notL, end_ex, bind_ok, nox_ok, bind_ex, s_ex, sb_ex, s_ok, sb_nx, sb_rt, sb_ct, sb_bk, onB_bl, onBS_bl, x_var, x_c, x_bin, x_un, x_nil, x_cons, x_tup, x_lst, x_app, x_and, x_or, x_not, x_if, x_box, x_get, x_sl, x_onone, x_osome, x_snil, x_scons, x_set, x_expr, x_ret, x_retB, x_sif, x_bk, x_ct, x_aug, x_asg, x_gname, x_gnil, x_gcons, x_gtup, mkt0, mkl0, mkt1, mkl1, mkt2, mkl2, mkt3, mkl3, mkt4, mkl4, mkt5, mkl5, mkt6, mkl6, mkt7, mkl7, v_il0, v_it0, v_il1, v_it1, v_il2, v_it2, v_il3, v_it3, v_il4, v_it4, v_il5, v_it5, v_add, v_addI, v_sub, v_neg, v_mul, v_fdv, v_mod, v_cmp, v_eqs, v_nes, v_eqi, v_nei, v_eqb, v_ixc, opt_some, v_lenl, v_lent, v_lenc, v_tupt, v_tupl, v_intb, v_inti, v_max, v_isn, v_isnn, end_rt, end_nx, fz_int, fz_str, fz_bl, fz_non, List.getElem?_cons_zero, List.getElem?_cons_succ, List.set_cons_zero, List.set_cons_succ, List.length_cons, List.length_nil, List.take_length, Option.map_some, oldLoc, Bool.false_and, Bool.and_false, Bool.true_and, Bool.and_true, Bool.not_true, Bool.not_false, Bool.false_eq_true, decide_true, decide_false, decide_eq_true_eq, if_true, if_false, ↓reduceIte, Nat.reduceAdd, Nat.reduceLeDiff, k_sa, ho, b1, hx', e0, take_app]
  | tell t =>
    have hx' := hx (hF fun _ _ h => by cases h)
    rw [show blkF (.tell t) = [] from rfl, hlen.2, List.append_nil] at hx'
    rw [firstB]
    rw [Row.pv] at ho hx' ⊢
    simp -implicitDefEqProofs (disch := omega) only [x_raise, x_notL, end_ex, bind_ok, nox_ok, bind_ex, s_ex, sb_ex, s_ok, sb_nx, sb_rt, sb_ct, sb_bk, onB_bl, onBS_bl, x_var, x_c, x_bin, x_un, x_nil, x_cons, x_tup, x_lst, x_app, x_and, x_or, x_not, x_if, x_box, x_get, x_sl, x_onone, x_osome, x_snil, x_scons, x_set, x_expr, x_ret, x_retB, x_sif, x_bk, x_ct, x_aug, x_asg, x_gname, x_gnil, x_gcons, x_gtup, mkt0, mkl0, mkt1, mkl1, mkt2, mkl2, mkt3, mkl3, mkt4, mkl4, mkt5, mkl5, mkt6, mkl6, mkt7, mkl7, v_il0, v_it0, v_il1, v_it1, v_il2, v_it2, v_il3, v_it3, v_il4, v_it4, v_il5, v_it5, v_add, v_addI, v_sub, v_neg, v_mul, v_fdv, v_mod, v_cmp, v_eqs, v_nes, v_eqi, v_nei, v_eqb, v_ixc, opt_some, v_lenl, v_lent, v_lenc, v_tupt, v_tupl, v_intb, v_inti, v_max, v_isn, v_isnn, end_rt, end_nx, fz_int, fz_str, fz_bl, fz_non, List.getElem?_cons_zero, List.getElem?_cons_succ, List.set_cons_zero, List.set_cons_succ, List.length_cons, List.length_nil, List.take_length, Option.map_some, oldLoc, Bool.false_and, Bool.and_false, Bool.true_and, Bool.and_true, Bool.not_true, Bool.not_false, Bool.false_eq_true, decide_true, decide_false, decide_eq_true_eq, if_true, if_false, ↓reduceIte, Nat.reduceAdd, Nat.reduceLeDiff, k_ta, ho, b1, hx', e0, take_app]
  | call x f ts =>
    have hx' := hx (hF fun _ _ h => by cases h)
    rw [show blkF (.call x f ts) = [] from rfl, hlen.2, List.append_nil] at hx'
    rw [firstB]
    rw [Row.pv] at ho hx' ⊢
    simp -implicitDefEqProofs (disch := omega) only [x_raise, x_notL, end_ex, bind_ok, nox_ok, bind_ex, s_ex, sb_ex, s_ok, sb_nx, sb_rt, sb_ct, sb_bk, onB_bl, onBS_bl, x_var, x_c, x_bin, x_un, x_nil, x_cons, x_tup, x_lst, x_app, x_and, x_or, x_not, x_if, x_box, x_get, x_sl, x_onone, x_osome, x_snil, x_scons, x_set, x_expr, x_ret, x_retB, x_sif, x_bk, x_ct, x_aug, x_asg, x_gname, x_gnil, x_gcons, x_gtup, mkt0, mkl0, mkt1, mkl1, mkt2, mkl2, mkt3, mkl3, mkt4, mkl4, mkt5, mkl5, mkt6, mkl6, mkt7, mkl7, v_il0, v_it0, v_il1, v_it1, v_il2, v_it2, v_il3, v_it3, v_il4, v_it4, v_il5, v_it5, v_add, v_addI, v_sub, v_neg, v_mul, v_fdv, v_mod, v_cmp, v_eqs, v_nes, v_eqi, v_nei, v_eqb, v_ixc, opt_some, v_lenl, v_lent, v_lenc, v_tupt, v_tupl, v_intb, v_inti, v_max, v_isn, v_isnn, end_rt, end_nx, fz_int, fz_str, fz_bl, fz_non, List.getElem?_cons_zero, List.getElem?_cons_succ, List.set_cons_zero, List.set_cons_succ, List.length_cons, List.length_nil, List.take_length, Option.map_some, oldLoc, Bool.false_and, Bool.and_false, Bool.true_and, Bool.and_true, Bool.not_true, Bool.not_false, Bool.false_eq_true, decide_true, decide_false, decide_eq_true_eq, if_true, if_false, ↓reduceIte, Nat.reduceAdd, Nat.reduceLeDiff, k_ca, ho, b1, hx', e0, take_app]
  | when t rs =>
    have hx' := hx (hF fun _ _ h => by cases h)
    rw [firstB]
    rw [Row.pv] at ho hx' ⊢
    simp -implicitDefEqProofs (disch := omega) only [x_raise, x_notL, end_ex, bind_ok, nox_ok, bind_ex, s_ex, sb_ex, s_ok, sb_nx, sb_rt, sb_ct, sb_bk, onB_bl, onBS_bl, x_var, x_c, x_bin, x_un, x_nil, x_cons, x_tup, x_lst, x_app, x_and, x_or, x_not, x_if, x_box, x_get, x_sl, x_onone, x_osome, x_snil, x_scons, x_set, x_expr, x_ret, x_retB, x_sif, x_bk, x_ct, x_aug, x_asg, x_gname, x_gnil, x_gcons, x_gtup, mkt0, mkl0, mkt1, mkl1, mkt2, mkl2, mkt3, mkl3, mkt4, mkl4, mkt5, mkl5, mkt6, mkl6, mkt7, mkl7, v_il0, v_it0, v_il1, v_it1, v_il2, v_it2, v_il3, v_it3, v_il4, v_it4, v_il5, v_it5, v_add, v_addI, v_sub, v_neg, v_mul, v_fdv, v_mod, v_cmp, v_eqs, v_nes, v_eqi, v_nei, v_eqb, v_ixc, opt_some, v_lenl, v_lent, v_lenc, v_tupt, v_tupl, v_intb, v_inti, v_max, v_isn, v_isnn, end_rt, end_nx, fz_int, fz_str, fz_bl, fz_non, List.getElem?_cons_zero, List.getElem?_cons_succ, List.set_cons_zero, List.set_cons_succ, List.length_cons, List.length_nil, List.take_length, Option.map_some, oldLoc, Bool.false_and, Bool.and_false, Bool.true_and, Bool.and_true, Bool.not_true, Bool.not_false, Bool.false_eq_true, decide_true, decide_false, decide_eq_true_eq, if_true, if_false, ↓reduceIte, Nat.reduceAdd, Nat.reduceLeDiff, k_wa, ho, b1, hx', e0, take_app, blkF]
    exact Eq.trans rfl rfl
  | again k rs =>
    rw [firstB]
    by_cases hk : 0 < k
    · have hx' := hx (hF fun _ _ h => by cases h; exact hk)
      rw [if_pos hk]
      have hkd : decide (0 < k) = true := decide_eq_true hk
      rw [Row.pv] at ho hx' ⊢
      simp -implicitDefEqProofs (disch := omega) only [x_raise, x_notL, end_ex, bind_ok, nox_ok, bind_ex, s_ex, sb_ex, s_ok, sb_nx, sb_rt, sb_ct, sb_bk, onB_bl, onBS_bl, x_var, x_c, x_bin, x_un, x_nil, x_cons, x_tup, x_lst, x_app, x_and, x_or, x_not, x_if, x_box, x_get, x_sl, x_onone, x_osome, x_snil, x_scons, x_set, x_expr, x_ret, x_retB, x_sif, x_bk, x_ct, x_aug, x_asg, x_gname, x_gnil, x_gcons, x_gtup, mkt0, mkl0, mkt1, mkl1, mkt2, mkl2, mkt3, mkl3, mkt4, mkl4, mkt5, mkl5, mkt6, mkl6, mkt7, mkl7, v_il0, v_it0, v_il1, v_it1, v_il2, v_it2, v_il3, v_it3, v_il4, v_it4, v_il5, v_it5, v_add, v_addI, v_sub, v_neg, v_mul, v_fdv, v_mod, v_cmp, v_eqs, v_nes, v_eqi, v_nei, v_eqb, v_ixc, opt_some, v_lenl, v_lent, v_lenc, v_tupt, v_tupl, v_intb, v_inti, v_max, v_isn, v_isnn, end_rt, end_nx, fz_int, fz_str, fz_bl, fz_non, List.getElem?_cons_zero, List.getElem?_cons_succ, List.set_cons_zero, List.set_cons_succ, List.length_cons, List.length_nil, List.take_length, Option.map_some, oldLoc, Bool.false_and, Bool.and_false, Bool.true_and, Bool.and_true, Bool.not_true, Bool.not_false, Bool.false_eq_true, decide_true, decide_false, decide_eq_true_eq, if_true, if_false, ↓reduceIte, Nat.reduceAdd, Nat.reduceLeDiff, hkd, ho, b1, hx', e0, take_app, blkF]
      exact Eq.trans rfl rfl
    · rw [if_neg hk]
      have hkd : decide (0 < k) = false := decide_eq_false hk
      rw [Row.pv] at ho ⊢
      simp -implicitDefEqProofs (disch := omega) only [x_raise, x_notL, end_ex, bind_ok, nox_ok, bind_ex, s_ex, sb_ex, s_ok, sb_nx, sb_rt, sb_ct, sb_bk, onB_bl, onBS_bl, x_var, x_c, x_bin, x_un, x_nil, x_cons, x_tup, x_lst, x_app, x_and, x_or, x_not, x_if, x_box, x_get, x_sl, x_onone, x_osome, x_snil, x_scons, x_set, x_expr, x_ret, x_retB, x_sif, x_bk, x_ct, x_aug, x_asg, x_gname, x_gnil, x_gcons, x_gtup, mkt0, mkl0, mkt1, mkl1, mkt2, mkl2, mkt3, mkl3, mkt4, mkl4, mkt5, mkl5, mkt6, mkl6, mkt7, mkl7, v_il0, v_it0, v_il1, v_it1, v_il2, v_it2, v_il3, v_it3, v_il4, v_it4, v_il5, v_it5, v_add, v_addI, v_sub, v_neg, v_mul, v_fdv, v_mod, v_cmp, v_eqs, v_nes, v_eqi, v_nei, v_eqb, v_ixc, opt_some, v_lenl, v_lent, v_lenc, v_tupt, v_tupl, v_intb, v_inti, v_max, v_isn, v_isnn, end_rt, end_nx, fz_int, fz_str, fz_bl, fz_non, List.getElem?_cons_zero, List.getElem?_cons_succ, List.set_cons_zero, List.set_cons_succ, List.length_cons, List.length_nil, List.take_length, Option.map_some, oldLoc, Bool.false_and, Bool.and_false, Bool.true_and, Bool.and_true, Bool.not_true, Bool.not_false, Bool.false_eq_true, decide_true, decide_false, decide_eq_true_eq, if_true, if_false, ↓reduceIte, Nat.reduceAdd, Nat.reduceLeDiff, hkd, ho, b1, e0, take_app]
      exact Eq.trans rfl rfl
mutual
theorem F_firstB {ws : List Str} (hw : ws.length < 64) : ∀ (r : Row), r.In ws → r.Gd → r.sz < 1000000 → ∀ (n : Nat) (st : VSt), 2 * r.lvl + 7 ≤ n → Fm D n i__first_read_by [r.pv] st = .ok (.lst ((firstB r).map PV.str)) st
  | .set x t, i, g, hz, n, st, h => by
    obtain ⟨m, rfl⟩ := ge_add (k := 2) (n := n) (by omega)
    exact firstB_run (m := m + 1) g hz (by omega) (fun _ st => first_run (rs := []) (m := m) (fun _ h => by cases h) (fun _ h => by cases h) ins_nil hw st) st
  | .tell t, i, g, hz, n, st, h => by
    obtain ⟨m, rfl⟩ := ge_add (k := 2) (n := n) (by omega)
    exact firstB_run (m := m + 1) g hz (by omega) (fun _ st => first_run (rs := []) (m := m) (fun _ h => by cases h) (fun _ h => by cases h) ins_nil hw st) st
  | .call x f ts, i, g, hz, n, st, h => by
    obtain ⟨m, rfl⟩ := ge_add (k := 2) (n := n) (by omega)
    exact firstB_run (m := m + 1) g hz (by omega) (fun _ st => first_run (rs := []) (m := m) (fun _ h => by cases h) (fun _ h => by cases h) ins_nil hw st) st
  | .when t rs, i, g, hz, n, st, h => by
    obtain ⟨m, rfl⟩ := ge_add (k := 2) (n := n) (by omega)
    rw [lvl_when] at h
    have hz' := hz
    rw [sz_when] at hz'
    have i' := i
    unfold Row.In at i'
    exact firstB_run (m := m + 1) g hz (by omega) (fun _ st => first_run (rs := rs) (m := m) (fun r hr st => F_firstBs hw rs i'.2 (gd_when g) (by omega) r hr m st (by have := lvl_mem hr; omega)) (fun r hr st => F_sureBs hw rs i'.2 (by omega) r hr m st (by have := lvl_mem hr; omega)) i'.2 hw st) st
  | .again k rs, i, g, hz, n, st, h => by
    obtain ⟨m, rfl⟩ := ge_add (k := 2) (n := n) (by omega)
    rw [lvl_again] at h
    have hz' := hz
    rw [sz_again] at hz'
    have i' := i
    unfold Row.In at i'
    exact firstB_run (m := m + 1) g hz (by omega) (fun _ st => first_run (rs := rs) (m := m) (fun r hr st => F_firstBs hw rs i' (gd_again g) (by omega) r hr m st (by have := lvl_mem hr; omega)) (fun r hr st => F_sureBs hw rs i' (by omega) r hr m st (by have := lvl_mem hr; omega)) i' hw st) st
theorem F_firstBs {ws : List Str} (hw : ws.length < 64) : ∀ (rs : List Row), Row.Ins ws rs → Row.Gds rs → Row.szs rs < 1000000 → ∀ r ∈ rs, ∀ (n : Nat) (st : VSt), 2 * r.lvl + 7 ≤ n → Fm D n i__first_read_by [r.pv] st = .ok (.lst ((firstB r).map PV.str)) st
  | [], _, _, _, r, h => by cases h
  | s :: rs, i, g, hz, r, h => by
    rw [ins_cons] at i
    rw [gds_cons] at g
    rw [szs_cons] at hz
    rcases List.mem_cons.mp h with e | h
    · rw [e]; exact F_firstB hw s i.1 g.1 (by omega)
    · exact F_firstBs hw rs i.2 g.2 (by omega) r h
end
theorem F_first_read {ws : List Str} (hw : ws.length < 64) {rs : List Row} (i : Row.Ins ws rs) (g : Row.Gds rs) (hz : Row.szs rs < 1000000) {n : Nat} (h : 2 * Row.lvls rs + 8 ≤ n) (st : VSt) : Fm D n i_first_read [.tup (Row.pvs rs)] st = .ok (.lst ((firstF rs).map PV.str)) st := by
  obtain ⟨m, rfl⟩ := ge_add (k := 1) (n := n) (by omega)
  exact first_run (fun r hr st => F_firstBs hw rs i g hz r hr m st (by have := lvl_mem hr; omega)) (fun r hr st => F_sureBs hw rs i (by omega) r hr m st (by have := lvl_mem hr; omega)) i hw st
end Lk


namespace Lk
open PySem L2 Vm
/-! ## the law's own scan, for one name -/
mutual
def scanL (x : Str) : List Row → Bool → Bool × Bool
  | [], rd => (rd, true)
  | r :: rs, rd => match scanS x r (rd || decide (x ∈ ownN r)) with
    | (rd', true) => (rd', false)
    | (rd', false) => scanL x rs rd'
def scanS (x : Str) : Row → Bool → Bool × Bool
  | .set y _, rd => (rd, decide (y = x))
  | .call y _ _, rd => (rd, decide (y = some x))
  | .tell _, rd => (rd, false)
  | .when _ rs, rd => (rd || (scanL x rs false).1, false)
  | .again m rs, rd => if 0 < m then (rd || (scanL x rs false).1, !(scanL x rs false).2) else (rd, false)
end
theorem scanL_nil (x : Str) (rd : Bool) : scanL x [] rd = (rd, true) := by rw [scanL]
theorem scanL_cons (x : Str) (r : Row) (rs : List Row) (rd : Bool) : scanL x (r :: rs) rd = if (scanS x r (rd || decide (x ∈ ownN r))).2 = true then ((scanS x r (rd || decide (x ∈ ownN r))).1, false) else scanL x rs (scanS x r (rd || decide (x ∈ ownN r))).1 := by
  rw [scanL]
  generalize scanS x r (rd || decide (x ∈ ownN r)) = p
  obtain ⟨a, b⟩ := p
  cases b <;> rfl
/-- x is read first by the rows -/
def fstR (x : Str) : List Row → Bool
  | [] => false
  | r :: rs => decide (x ∈ firstB r) || (!decide (x ∈ sureB r) && fstR x rs)
theorem mem_firstA {x : Str} : ∀ (rs : List Row) (ah fd : List Str), x ∈ firstA rs ah fd ↔ x ∈ fd ∨ (x ∉ ah ∧ fstR x rs = true)
  | [], ah, fd => by rw [firstA_nil]; simp [fstR]
  | r :: rs, ah, fd => by
    rw [firstA_cons, mem_firstA rs, mem_addFs, mem_addsS]
    show _ ↔ x ∈ fd ∨ (x ∉ ah ∧ (decide (x ∈ firstB r) || (!decide (x ∈ sureB r) && fstR x rs)) = true)
    rw [Bool.or_eq_true, Bool.and_eq_true, decide_eq_true_eq, Bool.not_eq_true', decide_eq_false_iff_not]
    constructor
    · rintro ((h | ⟨h1, h2⟩) | ⟨h1, h2⟩)
      · exact .inl h
      · exact .inr ⟨h1, .inl h2⟩
      · exact .inr ⟨fun z => h1 (.inl z), .inr ⟨fun z => h1 (.inr z), h2⟩⟩
    · rintro (h | ⟨h1, h2 | ⟨h2, h3⟩⟩)
      · exact .inl (.inl h)
      · exact .inl (.inr ⟨h1, h2⟩)
      · exact .inr ⟨fun z => z.elim h1 h2, h3⟩
theorem mem_firstF' {x : Str} {rs : List Row} : x ∈ firstF rs ↔ fstR x rs = true := by rw [mem_firstF, mem_firstA]; simp
theorem b_or {a : Bool} {p q : Prop} [Decidable p] [Decidable q] (h : p ↔ q) : (a || decide p) = (a || decide q) := by rw [decide_eq_decide.mpr h]
mutual
theorem scanS_eq (x : Str) : ∀ (r : Row) (rd : Bool), scanS x r (rd || decide (x ∈ ownN r)) = (rd || decide (x ∈ firstB r), decide (x ∈ sureB r))
  | .set y t, rd => by
    rw [scanS, firstB, sureB, b_or (mem_ownO (r := .set y t))]
    exact congrArg (Prod.mk _) (decide_eq_decide.mpr (by rw [List.mem_singleton]; exact ⟨Eq.symm, Eq.symm⟩))
  | .tell t, rd => by rw [scanS, firstB, sureB, b_or (mem_ownO (r := .tell t))]; simp
  | .call y f ts, rd => by
    rw [scanS, firstB, sureB, b_or (mem_ownO (r := .call y f ts))]
    refine congrArg (Prod.mk _) ?_
    cases y with
    | none => simp
    | some y => simp [eq_comm]
  | .when t rs, rd => by
    rw [scanS, firstB, sureB, scanL_eq x rs false]
    refine Prod.ext ?_ (by simp)
    show (rd || decide (x ∈ ownN (.when t rs)) || (false || decide (x ∈ firstF rs))) = (rd || decide (x ∈ ownO (.when t rs) ++ srtS (firstA rs [] [])))
    have e : (x ∈ ownO (.when t rs) ++ srtS (firstA rs [] [])) ↔ (x ∈ ownN (.when t rs) ∨ x ∈ firstF rs) := by rw [List.mem_append, mem_ownO]; rfl
    rw [b_or (a := rd) e, Bool.false_or, Bool.or_assoc, Bool.decide_or]
  | .again m rs, rd => by
    have e0 : decide (x ∈ ownN (.again m rs)) = false := by simp [ownN, ownT]
    rw [scanS, firstB, sureB_again, scanL_eq x rs false, e0, Bool.or_false]
    by_cases h : 0 < m
    · rw [if_pos h, if_pos h, if_pos h]
      refine Prod.ext ?_ ?_
      · show (rd || (false || decide (x ∈ firstF rs))) = (rd || decide (x ∈ firstF rs))
        rw [Bool.false_or]
      · show (!(!decide (x ∈ sureF rs))) = decide (x ∈ sureF rs)
        rw [Bool.not_not]
    · rw [if_neg h, if_neg h, if_neg h]
      simp
theorem scanL_eq (x : Str) : ∀ (rs : List Row) (rd : Bool), scanL x rs rd = (rd || decide (x ∈ firstF rs), !decide (x ∈ sureF rs))
  | [], rd => by
    rw [scanL_nil]
    have h1 : x ∉ firstF [] := by rw [mem_firstF']; simp [fstR]
    have h2 : x ∉ sureF [] := by rw [mem_sureF, sureA_nil]; simp
    rw [decide_eq_false h1, decide_eq_false h2, Bool.or_false]; rfl
  | r :: rs, rd => by
    rw [scanL_cons, scanS_eq x r rd]
    have h1 : decide (x ∈ firstF (r :: rs)) = (decide (x ∈ firstB r) || (!decide (x ∈ sureB r) && fstR x rs)) := by
      cases e : fstR x (r :: rs) with
      | true => rw [decide_eq_true (mem_firstF'.mpr e)]; exact e.symm
      | false => rw [decide_eq_false (fun z => by rw [mem_firstF'.mp z] at e; cases e)]; exact e.symm
    have h2 : decide (x ∈ sureF (r :: rs)) = (decide (x ∈ sureB r) || decide (x ∈ sureF rs)) := by
      rw [← Bool.decide_or]
      exact decide_eq_decide.mpr (by rw [mem_sureF, mem_sureF, sureA_cons, List.mem_append])
    have h3 : fstR x rs = decide (x ∈ firstF rs) := by
      cases e : fstR x rs with
      | true => rw [decide_eq_true (mem_firstF'.mpr e)]
      | false => rw [decide_eq_false (fun z => by rw [mem_firstF'.mp z] at e; cases e)]
    by_cases hs : x ∈ sureB r
    · rw [decide_eq_true hs] at h1 h2 ⊢
      rw [if_pos rfl, h1, h2]
      simp
    · rw [decide_eq_false hs] at h1 h2 ⊢
      rw [if_neg (fun z => by cases z), scanL_eq x rs, h1, h2, h3]
      simp [Bool.or_assoc]
end
end Lk


namespace Lk
open PySem L2 Vm
theorem b_true_or {b : Bool} : (true || b) = true := rfl
theorem v_r0 {t : Trm} {rs : List Row} {s : VSt} : vIx (Row.when t rs).pv (.int 0) s = .ok (.str "when") s := by rw [Row.pv]; exact v_it0
end Lk


namespace Lk
open PySem L2 Vm
/-! ## places of rows -/
mutual
def plcL (pl : List Int) : Int → List Row → List (List Int × Row)
  | _, [] => []
  | k, r :: rs => (pl ++ [k], r) :: (plcR (pl ++ [k]) r ++ plcL pl (k + 1) rs)
def plcR (pl : List Int) : Row → List (List Int × Row)
  | .when _ rs => plcL pl 0 rs
  | .again _ rs => plcL pl 0 rs
  | .set _ _ => []
  | .tell _ => []
  | .call _ _ _ => []
end
theorem plcL_nil (pl : List Int) (k : Int) : plcL pl k [] = [] := by rw [plcL]
theorem plcL_cons (pl : List Int) (k : Int) (r : Row) (rs : List Row) : plcL pl k (r :: rs) = (pl ++ [k], r) :: (plcR (pl ++ [k]) r ++ plcL pl (k + 1) rs) := by rw [plcL]
theorem plcR_blk (pl : List Int) (r : Row) : plcR pl r = plcL pl 0 (blkF r) := by cases r <;> rw [plcR] <;> first | rfl | (show [] = plcL pl 0 []; rw [plcL_nil])
/-- a place as a value -/
def plV (pl : List Int) : PV := .tup (pl.map PV.int)
def prV (p : List Int × Row) : PV := .tup [plV p.1, p.2.pv]
theorem pures_ints : ∀ xs : List Int, pures (xs.map PV.int) = true
  | [] => rfl
  | x :: xs => by
    show (pureP (.int x) && pures (xs.map PV.int)) = true
    rw [pures_ints xs]; rfl
theorem plV_pure (pl : List Int) : pureP (plV pl) = true := pures_ints pl
theorem prV_pure (p : List Int × Row) : pureP (prV p) = true := by
  show (pureP (plV p.1) && (pureP p.2.pv && true)) = true
  rw [plV_pure, p.2.pure]; rfl
theorem prVs_pure : ∀ ps : List (List Int × Row), pures (ps.map prV) = true
  | [] => rfl
  | p :: ps => by
    show (pureP (prV p) && pures (ps.map prV)) = true
    rw [prV_pure, prVs_pure ps]; rfl
mutual
theorem plcL_len (pl : List Int) : ∀ (k : Int) (rs : List Row), (plcL pl k rs).length ≤ Row.szs rs
  | k, [] => by rw [plcL_nil]; exact Nat.zero_le _
  | k, r :: rs => by
    rw [plcL_cons, List.length_cons, List.length_append, szs_cons]
    have h1 := plcR_len (pl ++ [k]) r
    have h2 := plcL_len pl (k + 1) rs
    omega
theorem plcR_len (pl : List Int) : ∀ r : Row, (plcR pl r).length + 1 ≤ r.sz
  | .when t rs => by
    rw [plcR, sz_when]
    have := plcL_len pl 0 rs
    omega
  | .again t rs => by
    rw [plcR, sz_again]
    have := plcL_len pl 0 rs
    omega
  | .set x t => by rw [plcR, Row.sz]; show 0 + 1 ≤ _; omega
  | .tell t => by rw [plcR, Row.sz]; show 0 + 1 ≤ _; omega
  | .call x f ts => by rw [plcR, Row.sz]; show 0 + 1 ≤ _; omega
end
theorem len_szs : ∀ rs : List Row, rs.length ≤ Row.szs rs
  | [] => Nat.zero_le _
  | r :: rs => by
    rw [szs_cons, List.length_cons]
    have h3 := plcR_len [] r
    have := len_szs rs
    omega
theorem getD_map {α β : Type} (f : α → β) (l : List α) (i : Nat) (h : i < l.length) : (l.map f)[i]? = some (f (l[i]'h)) := by simp [h]
theorem v_rowt {rs : List Row} {i : Nat} {r : Row} {st : VSt} (h : rs[i]? = some r) : vIx (.tup (Row.pvs rs)) (.int (i : Int)) st = .ok r.pv st := by
  rw [v_ixt, pvs_map, atI_nat (v := r.pv) (by rw [List.getElem?_map, h]; rfl)]
  exact opt_some
theorem v_addp {pl : List Int} {k : Int} {st : VSt} (h : pl.length < 1000) : vAdd (plV pl) (.tup [.int k]) st = .ok (plV (pl ++ [k])) st := by
  unfold plV
  rw [v_addt (by rw [List.length_map]; show pl.length + 1 ≤ _; omega), List.map_append]; rfl
theorem deref_endl {s l : VSt} {p : PV} : deref ((s ++ l) ++ [p]) (.loc (s ++ l).length) = p := deref_end
theorem box_end {s : VSt} {p : PV} (h : noLoc p = true) : boxV p s = .ok (.loc s.length) (s ++ [p]) := if_pos h
theorem places_run {m : Nat} {rs : List Row} {pl : List Int} (hp : pl.length < 1000) (hz : Row.szs rs ≤ 1000000)
    (hB : ∀ r ∈ rs, ∀ st : VSt, Fm D m i__law_block [r.pv] st = .ok (.tup (Row.pvs (blkF r))) st)
    (hP : ∀ r ∈ rs, ∀ (k : Int) (st : VSt), Fm D m i__law_places [plV (pl ++ [k]), .tup (Row.pvs (blkF r))] st = .ok (.lst ((plcL (pl ++ [k]) 0 (blkF r)).map prV)) st) (st : VSt) :
    Fm D (m + 1) i__law_places [plV pl, .tup (Row.pvs rs)] st = .ok (.lst ((plcL pl 0 rs).map prV)) st := by
  rw [c__law_places, b__law_places_q]
  have b1 : boxV (.lst []) st = .ok (.loc st.length) (st ++ [.lst []]) := box1 rfl
  have hlen : (Row.pvs rs).length = rs.length := by rw [pvs_map, List.length_map]
  have key : ∀ (qs : List Row) (i : Nat) (acc : List (List Int × Row)) (l : VSt) (z : Option PV), rs.drop i = qs → acc.length + Row.szs qs ≤ 1000000 →
      ∃ l' z', forL (bodyP (gName 3) (fb__law_places_0 (Fm D m))) ((List.range' i qs.length).map fun (k : Nat) => .int (0 + (k : Int))) [some (plV pl), some (.tup (Row.pvs rs)), some (.loc (st ++ l).length), z] ((st ++ l) ++ [.lst (acc.map prV)]) =
        .nx [some (plV pl), some (.tup (Row.pvs rs)), some (.loc (st ++ l').length), z'] ((st ++ l') ++ [.lst ((acc ++ plcL pl (i : Int) qs).map prV)]) := by
    intro qs
    induction qs with
    | nil => intro i acc l z _ _; exact ⟨l, z, by rw [plcL_nil, List.append_nil]; rfl⟩
    | cons r qs ih =>
      intro i acc l z hd ha
      have hi : rs[i]? = some r := by
        have := congrArg List.head? hd
        rw [List.head?_drop] at this
        exact this
      have hr : r ∈ rs := List.mem_of_getElem? hi
      have hd' : rs.drop (i + 1) = qs := by
        rw [← List.tail_drop, hd]; rfl
      rw [szs_cons] at ha
      have h1 := plcR_len (pl ++ [(i : Int)]) r
      rw [plcR_blk] at h1
      obtain ⟨l', z', e⟩ := ih (i + 1) ((acc ++ [(pl ++ [(i : Int)], r)]) ++ plcL (pl ++ [(i : Int)]) 0 (blkF r)) (l ++ [PV.lst ((acc ++ [(pl ++ [(i : Int)], r)]).map prV)]) (some (.int (0 + (i : Int)))) hd' (by simp only [List.length_append, List.length_cons, List.length_nil]; omega)
      refine ⟨l', z', ?_⟩
      have hva := fun s => v_addp (k := (i : Int)) (st := s) hp
      have hvr := fun s => v_rowt (st := s) hi
      have hPr := hP r hr (i : Int)
      have hBr := hB r hr
      have ap := r_app (l := eVar 2) (a := eTup (aCons (eBin vAdd (eVar 0) (eTup (aCons (eVar 3) aNil))) (aCons (eBin vIx (eVar 1) (eVar 3)) aNil))) (env := [some (plV pl), some (.tup (Row.pvs rs)), some (.loc (st ++ l).length), some (.int (i : Int))]) (st := (st ++ l) ++ [.lst (acc.map prV)]) (st' := (st ++ l) ++ [.lst (acc.map prV)]) (n := (st ++ l).length) (xs := acc.map prV) (y := prV (pl ++ [(i : Int)], r)) rfl deref_end
        (by simp -implicitDefEqProofs (disch := omega) only [x_raise, x_notL, end_ex, bind_ok, nox_ok, bind_ex, s_ex, sb_ex, s_ok, sb_nx, sb_rt, sb_ct, sb_bk, onB_bl, onBS_bl, x_var, x_c, x_bin, x_un, x_nil, x_cons, x_tup, x_lst, x_app, x_and, x_or, x_not, x_if, x_box, x_get, x_sl, x_onone, x_osome, x_snil, x_scons, x_set, x_expr, x_ret, x_retB, x_sif, x_bk, x_ct, x_aug, x_asg, x_gname, x_gnil, x_gcons, x_gtup, mkt0, mkl0, mkt1, mkl1, mkt2, mkl2, mkt3, mkl3, mkt4, mkl4, mkt5, mkl5, mkt6, mkl6, mkt7, mkl7, v_il0, v_it0, v_il1, v_it1, v_il2, v_it2, v_il3, v_it3, v_il4, v_it4, v_il5, v_it5, v_add, v_addI, v_sub, v_neg, v_mul, v_fdv, v_mod, v_cmp, v_eqs, v_nes, v_eqi, v_nei, v_eqb, v_ixc, opt_some, v_lenl, v_lent, v_lenc, v_tupt, v_tupl, v_intb, v_inti, v_max, v_isn, v_isnn, end_rt, end_nx, fz_int, fz_str, fz_bl, fz_non, List.getElem?_cons_zero, List.getElem?_cons_succ, List.set_cons_zero, List.set_cons_succ, List.length_cons, List.length_nil, List.take_length, Option.map_some, oldLoc, Bool.false_and, Bool.and_false, Bool.true_and, Bool.and_true, Bool.not_true, Bool.not_false, Bool.false_eq_true, decide_true, decide_false, decide_eq_true_eq, if_true, if_false, ↓reduceIte, Nat.reduceAdd, Nat.reduceLeDiff, hva, hvr]; exact Eq.trans rfl rfl) deref_end (by rw [List.length_map]; omega) (prV_pure _)
      rw [set_end, show acc.map prV ++ [prV (pl ++ [(i : Int)], r)] = (acc ++ [(pl ++ [(i : Int)], r)]).map prV by rw [List.map_append]; rfl] at ap
      have vc : ∀ s2 : VSt, s2 = (st ++ l) ++ [.lst ((acc ++ [(pl ++ [(i : Int)], r)]).map prV)] → vCat (.loc (st ++ l).length) (.lst ((plcL (pl ++ [(i : Int)]) 0 (blkF r)).map prV)) s2 = .ok (.lst (((acc ++ [(pl ++ [(i : Int)], r)]) ++ plcL (pl ++ [(i : Int)]) 0 (blkF r)).map prV)) s2 := fun s2 e2 => by
        subst e2
        unfold vCat
        rw [deref_end, show deref ((st ++ l) ++ [PV.lst ((acc ++ [(pl ++ [(i : Int)], r)]).map prV)]) (.lst ((plcL (pl ++ [(i : Int)]) 0 (blkF r)).map prV)) = .lst ((plcL (pl ++ [(i : Int)]) 0 (blkF r)).map prV) from rfl]
        dsimp only
        rw [if_pos (by simp only [List.length_map, List.length_append, List.length_cons, List.length_nil]; omega), ← List.map_append]
      have bx : ∀ q : List (List Int × Row), boxV (PV.lst (q.map prV)) ((st ++ l) ++ [PV.lst ((acc ++ [(pl ++ [(i : Int)], r)]).map prV)]) = .ok (.loc (st ++ (l ++ [PV.lst ((acc ++ [(pl ++ [(i : Int)], r)]).map prV)])).length) ((st ++ (l ++ [PV.lst ((acc ++ [(pl ++ [(i : Int)], r)]).map prV)])) ++ [.lst (q.map prV)]) := fun q => by
        rw [box1 (show noLoc (PV.lst (q.map prV)) = true from prVs_pure q), List.append_assoc st l]
      have hb : bodyP (gName 3) (fb__law_places_0 (Fm D m)) (.int (i : Int)) [some (plV pl), some (.tup (Row.pvs rs)), some (.loc (st ++ l).length), z] ((st ++ l) ++ [.lst (acc.map prV)]) =
          .nx [some (plV pl), some (.tup (Row.pvs rs)), some (.loc (st ++ (l ++ [PV.lst ((acc ++ [(pl ++ [(i : Int)], r)]).map prV)])).length), some (.int (i : Int))] ((st ++ (l ++ [PV.lst ((acc ++ [(pl ++ [(i : Int)], r)]).map prV)])) ++ [.lst (((acc ++ [(pl ++ [(i : Int)], r)]) ++ plcL (pl ++ [(i : Int)]) 0 (blkF r)).map prV)]) := by
        unfold fb__law_places_0
        simp -implicitDefEqProofs (disch := omega) only [x_raise, x_notL, end_ex, bind_ok, nox_ok, bind_ex, s_ex, sb_ex, s_ok, sb_nx, sb_rt, sb_ct, sb_bk, onB_bl, onBS_bl, x_var, x_c, x_bin, x_un, x_nil, x_cons, x_tup, x_lst, x_app, x_and, x_or, x_not, x_if, x_box, x_get, x_sl, x_onone, x_osome, x_snil, x_scons, x_set, x_expr, x_ret, x_retB, x_sif, x_bk, x_ct, x_aug, x_asg, x_gname, x_gnil, x_gcons, x_gtup, mkt0, mkl0, mkt1, mkl1, mkt2, mkl2, mkt3, mkl3, mkt4, mkl4, mkt5, mkl5, mkt6, mkl6, mkt7, mkl7, v_il0, v_it0, v_il1, v_it1, v_il2, v_it2, v_il3, v_it3, v_il4, v_it4, v_il5, v_it5, v_add, v_addI, v_sub, v_neg, v_mul, v_fdv, v_mod, v_cmp, v_eqs, v_nes, v_eqi, v_nei, v_eqb, v_ixc, opt_some, v_lenl, v_lent, v_lenc, v_tupt, v_tupl, v_intb, v_inti, v_max, v_isn, v_isnn, end_rt, end_nx, fz_int, fz_str, fz_bl, fz_non, List.getElem?_cons_zero, List.getElem?_cons_succ, List.set_cons_zero, List.set_cons_succ, List.length_cons, List.length_nil, List.take_length, Option.map_some, oldLoc, Bool.false_and, Bool.and_false, Bool.true_and, Bool.and_true, Bool.not_true, Bool.not_false, Bool.false_eq_true, decide_true, decide_false, decide_eq_true_eq, if_true, if_false, ↓reduceIte, Nat.reduceAdd, Nat.reduceLeDiff, x_body, ap, hva, hvr, hBr, hPr, vc _ rfl, bx]
      have ez : (0 + (i : Int)) = (i : Int) := Int.zero_add _
      rw [List.length_cons, List.range'_succ, List.map_cons, forL_cons, ez, hb]
      rw [ez] at e
      rw [plcL_cons, plcR_blk]
      have e3 : acc ++ (pl ++ [(i : Int)], r) :: (plcL (pl ++ [(i : Int)]) 0 (blkF r) ++ plcL pl ((i : Int) + 1) qs) = (acc ++ [(pl ++ [(i : Int)], r)]) ++ plcL (pl ++ [(i : Int)]) 0 (blkF r) ++ plcL pl (((i + 1 : Nat) : Int)) qs := by
        simp [List.append_assoc]
      rw [e3]
      exact e
  obtain ⟨l', z', e⟩ := key rs 0 [] [] none rfl (by simpa using hz)
  have hf := for_rng (a := eApp vLen (aCons (eVar 1) aNil)) (g := gName 3) (body := fb__law_places_0 (Fm D m)) (env := [some (plV pl), some (.tup (Row.pvs rs)), some (.loc st.length), none]) (st := st ++ [.lst []]) (st' := st ++ [.lst []]) (i := (rs.length : Int)) (by simp -implicitDefEqProofs (disch := omega) only [x_raise, x_notL, end_ex, bind_ok, nox_ok, bind_ex, s_ex, sb_ex, s_ok, sb_nx, sb_rt, sb_ct, sb_bk, onB_bl, onBS_bl, x_var, x_c, x_bin, x_un, x_nil, x_cons, x_tup, x_lst, x_app, x_and, x_or, x_not, x_if, x_box, x_get, x_sl, x_onone, x_osome, x_snil, x_scons, x_set, x_expr, x_ret, x_retB, x_sif, x_bk, x_ct, x_aug, x_asg, x_gname, x_gnil, x_gcons, x_gtup, mkt0, mkl0, mkt1, mkl1, mkt2, mkl2, mkt3, mkl3, mkt4, mkl4, mkt5, mkl5, mkt6, mkl6, mkt7, mkl7, v_il0, v_it0, v_il1, v_it1, v_il2, v_it2, v_il3, v_it3, v_il4, v_it4, v_il5, v_it5, v_add, v_addI, v_sub, v_neg, v_mul, v_fdv, v_mod, v_cmp, v_eqs, v_nes, v_eqi, v_nei, v_eqb, v_ixc, opt_some, v_lenl, v_lent, v_lenc, v_tupt, v_tupl, v_intb, v_inti, v_max, v_isn, v_isnn, end_rt, end_nx, fz_int, fz_str, fz_bl, fz_non, List.getElem?_cons_zero, List.getElem?_cons_succ, List.set_cons_zero, List.set_cons_succ, List.length_cons, List.length_nil, List.take_length, Option.map_some, oldLoc, Bool.false_and, Bool.and_false, Bool.true_and, Bool.and_true, Bool.not_true, Bool.not_false, Bool.false_eq_true, decide_true, decide_false, decide_eq_true_eq, if_true, if_false, ↓reduceIte, Nat.reduceAdd, Nat.reduceLeDiff, hlen]) (by have := len_szs rs; omega) (by omega)
  rw [show (rs.length : Int).toNat = rs.length by omega, List.range_eq_range'] at hf
  rw [List.append_nil] at e
  rw [show ([] : List (List Int × Row)).map prV = [] from rfl] at e
  rw [e, List.nil_append] at hf
  have fz : freeze ((st ++ l') ++ [.lst ((plcL pl ((0 : Nat) : Int) rs).map prV)]) st.length (.loc (st ++ l').length) = .lst ((plcL pl 0 rs).map prV) := by
    unfold freeze
    rw [if_neg (by rw [List.length_append]; omega)]
    exact deref_end
  have tk : ((st ++ l') ++ [PV.lst ((plcL pl ((0 : Nat) : Int) rs).map prV)]).take st.length = st := by
    rw [List.append_assoc]; exact take_app
  unfold q__law_places_0 q__law_places_1 q__law_places_2
  simp -implicitDefEqProofs (disch := omega) only [x_raise, x_notL, end_ex, bind_ok, nox_ok, bind_ex, s_ex, sb_ex, s_ok, sb_nx, sb_rt, sb_ct, sb_bk, onB_bl, onBS_bl, x_var, x_c, x_bin, x_un, x_nil, x_cons, x_tup, x_lst, x_app, x_and, x_or, x_not, x_if, x_box, x_get, x_sl, x_onone, x_osome, x_snil, x_scons, x_set, x_expr, x_ret, x_retB, x_sif, x_bk, x_ct, x_aug, x_asg, x_gname, x_gnil, x_gcons, x_gtup, mkt0, mkl0, mkt1, mkl1, mkt2, mkl2, mkt3, mkl3, mkt4, mkl4, mkt5, mkl5, mkt6, mkl6, mkt7, mkl7, v_il0, v_it0, v_il1, v_it1, v_il2, v_it2, v_il3, v_it3, v_il4, v_it4, v_il5, v_it5, v_add, v_addI, v_sub, v_neg, v_mul, v_fdv, v_mod, v_cmp, v_eqs, v_nes, v_eqi, v_nei, v_eqb, v_ixc, opt_some, v_lenl, v_lent, v_lenc, v_tupt, v_tupl, v_intb, v_inti, v_max, v_isn, v_isnn, end_rt, end_nx, fz_int, fz_str, fz_bl, fz_non, List.getElem?_cons_zero, List.getElem?_cons_succ, List.set_cons_zero, List.set_cons_succ, List.length_cons, List.length_nil, List.take_length, Option.map_some, oldLoc, Bool.false_and, Bool.and_false, Bool.true_and, Bool.and_true, Bool.not_true, Bool.not_false, Bool.false_eq_true, decide_true, decide_false, decide_eq_true_eq, if_true, if_false, ↓reduceIte, Nat.reduceAdd, Nat.reduceLeDiff, b1, hf, fz, tk]
mutual
theorem F_placesR : ∀ (r : Row), r.sz ≤ 1000000 → ∀ (n : Nat) (pl : List Int) (st : VSt), pl.length + r.lvl < 1000 → r.lvl + 1 ≤ n → Fm D n i__law_places [plV pl, .tup (Row.pvs (blkF r))] st = .ok (.lst ((plcL pl 0 (blkF r)).map prV)) st
  | .when t rs, hz, n, pl, st, hp, h => by
    rw [lvl_when] at h hp
    rw [sz_when] at hz
    obtain ⟨m, rfl⟩ := ge_add (k := 1) (n := n) (by omega)
    exact places_run (m := m) (by omega) (by show Row.szs rs ≤ _; omega) (fun r hr st => F_block' (by omega) r st) (fun r hr k st => F_placesRs rs (by omega) r hr m (pl ++ [k]) st (by have := lvl_mem hr; rw [List.length_append]; simp; omega) (by have := lvl_mem hr; omega)) st
  | .again t rs, hz, n, pl, st, hp, h => by
    rw [lvl_again] at h hp
    rw [sz_again] at hz
    obtain ⟨m, rfl⟩ := ge_add (k := 1) (n := n) (by omega)
    exact places_run (m := m) (by omega) (by show Row.szs rs ≤ _; omega) (fun r hr st => F_block' (by omega) r st) (fun r hr k st => F_placesRs rs (by omega) r hr m (pl ++ [k]) st (by have := lvl_mem hr; rw [List.length_append]; simp; omega) (by have := lvl_mem hr; omega)) st
  | .set _ _, hz, n, pl, st, hp, h => by
    obtain ⟨m, rfl⟩ := ge_add (k := 1) (n := n) (by omega)
    exact places_run (rs := []) (m := m) (by omega) (by rw [szs_nil]; omega) (fun r hr => by cases hr) (fun r hr => by cases hr) st
  | .tell _, hz, n, pl, st, hp, h => by
    obtain ⟨m, rfl⟩ := ge_add (k := 1) (n := n) (by omega)
    exact places_run (rs := []) (m := m) (by omega) (by rw [szs_nil]; omega) (fun r hr => by cases hr) (fun r hr => by cases hr) st
  | .call _ _ _, hz, n, pl, st, hp, h => by
    obtain ⟨m, rfl⟩ := ge_add (k := 1) (n := n) (by omega)
    exact places_run (rs := []) (m := m) (by omega) (by rw [szs_nil]; omega) (fun r hr => by cases hr) (fun r hr => by cases hr) st
theorem F_placesRs : ∀ (rs : List Row), Row.szs rs ≤ 1000000 → ∀ r ∈ rs, ∀ (n : Nat) (pl : List Int) (st : VSt), pl.length + r.lvl < 1000 → r.lvl + 1 ≤ n → Fm D n i__law_places [plV pl, .tup (Row.pvs (blkF r))] st = .ok (.lst ((plcL pl 0 (blkF r)).map prV)) st
  | [], _, r, h => by cases h
  | s :: rs, hz, r, h => by
    rw [szs_cons] at hz
    rcases List.mem_cons.mp h with e | h
    · rw [e]; exact F_placesR s (by omega)
    · exact F_placesRs rs (by omega) r h
end
theorem F_places {rs : List Row} (hz : Row.szs rs ≤ 1000000) {n : Nat} {pl : List Int} (hp : pl.length + Row.lvls rs + 1 < 1000) (h : Row.lvls rs + 2 ≤ n) (st : VSt) : Fm D n i__law_places [plV pl, .tup (Row.pvs rs)] st = .ok (.lst ((plcL pl 0 rs).map prV)) st := by
  obtain ⟨m, rfl⟩ := ge_add (k := 1) (n := n) (by omega)
  exact places_run (by omega) hz (fun r hr st => F_block' (by omega) r st) (fun r hr k st => F_placesRs rs hz r hr m (pl ++ [k]) st (by have := lvl_mem hr; rw [List.length_append]; simp; omega) (by have := lvl_mem hr; omega)) st
end Lk


namespace Lk
open PySem L2 Vm
theorem isa_ll : isaT "list" "list" = some true := by decide +kernel
theorem isa_ii : isaT "int" "int" = some true := by decide +kernel
theorem isa_bi : isaT "bool" "int" = some false := by decide +kernel
theorem isa_ss : isaT "str" "str" = some true := by decide +kernel
theorem v_isa {T t : String} {p : PV} {st : VSt} {b : Bool} (h : tyP st p = some t) (k : isaT T t = some b) : vIsa T [p] st = .ok (.bl b) st := by
  simp only [vIsa, h, Option.bind_some, k]
theorem ty_int {i : Int} {st : VSt} : tyP st (.int i) = some "int" := rfl
theorem ty_str {x : Str} {st : VSt} : tyP st (.str x) = some "str" := rfl
theorem ty_lst {xs : List PV} {st : VSt} : tyP st (.lst xs) = some "list" := rfl
theorem ty_lste {xs : List PV} {st : VSt} : tyP (st ++ [.lst xs]) (.loc st.length) = some "list" := by
  unfold tyP; rw [deref_end]
theorem forP_keep {j : IT} {xs : List PV} {st : VSt} {B : PV → VEnv → VSt → SR} {I : VEnv → Prop} (h : Itm j st = some xs) (hB : ∀ x ∈ xs, ∀ e, I e → ∃ e', I e' ∧ B x e st = .nx e' st) : ∀ (m : Nat), m ≤ xs.length → ∀ e, I e → ∃ e', I e' ∧ forP j xs.length B m e st = .nx e' st
  | 0, _, e, i => ⟨e, i, by unfold forP; rw [h]; simp⟩
  | m + 1, hm, e, i => by
    have hi : xs.length - (m + 1) < xs.length := by omega
    obtain ⟨e', i', q⟩ := hB xs[xs.length - (m + 1)] (List.getElem_mem hi) e i
    obtain ⟨e2, i2, q2⟩ := forP_keep h hB m (by omega) e' i'
    refine ⟨e2, i2, ?_⟩
    unfold forP
    rw [h]
    simp only [if_true]
    rw [List.getElem?_eq_getElem hi]
    show (match B xs[xs.length - (m + 1)] e st with
      | .nx e s => forP j xs.length B m e s
      | .ct e s => forP j xs.length B m e s
      | .bk e s => .nx e s
      | .rt p s => .rt p s
      | .ex c fs s => .ex c fs s
      | .bad => .bad) = _
    rw [q]
    exact q2
theorem for_keep {a : EM} {g : GM} {body : SM} {p : PV} {xs : List PV} {env : VEnv} {st : VSt} (I : VEnv → Prop) (h : a env st = .ok p st) (hs : seqOf st p = some xs) (hB : ∀ x ∈ xs, ∀ e, I e → ∃ e', I e' ∧ bodyP g body x e st = .nx e' st) (hI : I env) : ∃ e', I e' ∧ sFor (iSeq a) g body env st = .nx e' st := by
  have hj : Itm (.seq p) st = some xs := hs
  obtain ⟨e', i', q⟩ := forP_keep hj hB xs.length (Nat.le_refl _) env hI
  refine ⟨e', i', ?_⟩
  have hi : iSeq a env st = .ok (.seq p) st := by
    unfold iSeq
    rw [h]
    show (if (seqOf st p).isSome = true then _ else _) = _
    rw [hs]; rfl
  unfold sFor
  rw [hi]
  show (match Itm (.seq p) st with
    | some xs => forP (.seq p) xs.length (bodyP g body) xs.length env st
    | none => SR.bad) = _
  rw [hj]
  exact q
theorem toDs_strs : ∀ xs : List Str, toDs (xs.map PV.str) = some (xs.map PyData.str)
  | [] => rfl
  | x :: xs => by
    show (match some (PyData.str x), toDs (xs.map PV.str) with
      | some d, some ds => some (d :: ds)
      | _, _ => none) = _
    rw [toDs_strs xs]; rfl
theorem toD_strs (xs : List Str) : toD (.lst (xs.map PV.str)) = some (.list (xs.map PyData.str)) := by
  show (toDs (xs.map PV.str)).map PyData.list = _
  rw [toDs_strs]; rfl
theorem lay_strs : ∀ xs : List Str, (∀ x ∈ xs, PyData.strOk x = true) → PyData.canLayAll0 (xs.map PyData.str) = true
  | [], _ => rfl
  | x :: xs, h => by
    show (PyData.strOk x && PyData.canLayAll0 (xs.map PyData.str)) = true
    rw [h x List.mem_cons_self, lay_strs xs fun y hy => h y (List.mem_cons_of_mem _ hy)]; rfl
theorem dep_strs : ∀ xs : List Str, PyData.depthAll (xs.map PyData.str) = 0
  | [] => rfl
  | x :: xs => by
    show max 0 (PyData.depthAll (xs.map PyData.str)) = 0
    rw [dep_strs xs]; rfl
theorem shp_strs {xs : List Str} (h : ∀ x ∈ xs, PyData.strOk x = true) : SeqAt.shaped (.list (xs.map PyData.str)) = true := by
  show (PyData.canLayAll0 (xs.map PyData.str) && decide (PyData.depthAll (xs.map PyData.str) + 1 ≤ 64)) = true
  rw [lay_strs xs h, dep_strs]; rfl
theorem eqv_strs {xs : List Str} (h : ∀ x ∈ xs, PyData.strOk x = true) : PyData.eqv (.list (xs.map PyData.str)) (.list (xs.map PyData.str)) = true := SeqAt.eqv_refl _ (lay_strs xs h)
theorem v_eql {neg : Bool} {p q : PV} {st : VSt} {xs : List Str} (h : ∀ x ∈ xs, PyData.strOk x = true) (hp : deref st p = .lst (xs.map PV.str)) (hq : deref st q = .lst (xs.map PV.str)) (np : p = .lst (xs.map PV.str) ∨ ∃ n, p = .loc n) : vEqF neg p q st = .ok (.bl (!neg)) st := by
  have e1 := toD_strs xs
  have e2 := shp_strs h
  have e3 := eqv_strs h
  rcases np with rfl | ⟨n, rfl⟩
  · simp only [vEqF, hp, hq, e1, e2, e3, Bool.and_self, if_true]
    cases neg <;> rfl
  · simp only [vEqF, hp, hq, e1, e2, e3, Bool.and_self, if_true]
    cases neg <;> rfl
end Lk


namespace Lk
open PySem L2 Vm
def pszs : List Fnc → Nat
  | [] => 0
  | f :: fs => Row.szs f.rows + pszs fs
theorem pszs_mem {f : Fnc} : ∀ {fs : List Fnc}, f ∈ fs → Row.szs f.rows ≤ pszs fs
  | [], h => by cases h
  | g :: fs, h => by
    show _ ≤ Row.szs g.rows + pszs fs
    rcases List.mem_cons.mp h with rfl | h
    · omega
    · have := pszs_mem h; omega
/-- all places of rows, with the rows -/
def allF : Int → List Fnc → List (List Int × Row)
  | _, [] => []
  | k, f :: fs => plcL [k] 0 f.rows ++ allF (k + 1) fs
theorem allF_len : ∀ (k : Int) (fs : List Fnc), (allF k fs).length ≤ pszs fs
  | k, [] => Nat.zero_le _
  | k, f :: fs => by
    show (plcL [k] 0 f.rows ++ allF (k + 1) fs).length ≤ Row.szs f.rows + pszs fs
    rw [List.length_append]
    have h1 := plcL_len [k] 0 f.rows
    have h2 := allF_len (k + 1) fs
    omega
theorem v_fnct {fs : List Fnc} {i : Nat} {f : Fnc} {st : VSt} (h : fs[i]? = some f) : vIx (.tup (fs.map Fnc.pv)) (.int (i : Int)) st = .ok f.pv st := by
  rw [v_ixt, atI_nat (v := f.pv) (by rw [List.getElem?_map, h]; rfl)]
  exact opt_some
theorem v_addpr {xs ys : List (List Int × Row)} {st : VSt} (h : xs.length + ys.length ≤ 1000000) : vAdd (.lst (xs.map prV)) (.lst (ys.map prV)) st = .ok (.lst ((xs ++ ys).map prV)) st := by
  rw [v_addl (by rw [List.length_map, List.length_map]; exact h), List.map_append]
theorem F_all {fs : List Fnc} {L : Nat} (hl : ∀ f ∈ fs, Row.lvls f.rows ≤ L) (hL : L ≤ 900) (hz : pszs fs ≤ 1000000) (hn : fs.length ≤ 1000) {n : Nat} (h : L + 3 ≤ n) (st : VSt) : Fm D n i__law_all [.tup (fs.map Fnc.pv)] st = .ok (.lst ((allF 0 fs).map prV)) st := by
  obtain ⟨m, rfl⟩ := ge_add (k := 1) (n := n) (by omega)
  rw [c__law_all, b__law_all_q]
  have key : ∀ (gs : List Fnc) (i : Nat) (acc : List (List Int × Row)) (z : Option PV), fs.drop i = gs → acc.length + pszs gs ≤ 1000000 →
      ∃ z', forL (bodyP (gName 2) (fb__law_all_0 (Fm D m))) ((List.range' i gs.length).map fun (k : Nat) => .int (0 + (k : Int))) [some (.tup (fs.map Fnc.pv)), some (.lst (acc.map prV)), z] st =
        .nx [some (.tup (fs.map Fnc.pv)), some (.lst ((acc ++ allF (i : Int) gs).map prV)), z'] st := by
    intro gs
    induction gs with
    | nil => intro i acc z _ _; exact ⟨z, by rw [show allF (i : Int) [] = [] from rfl, List.append_nil]; rfl⟩
    | cons g gs ih =>
      intro i acc z hd ha
      have ha : acc.length + (Row.szs g.rows + pszs gs) ≤ 1000000 := ha
      have hi : fs[i]? = some g := by
        have := congrArg List.head? hd
        rw [List.head?_drop] at this
        exact this
      have hg : g ∈ fs := List.mem_of_getElem? hi
      have hd' : fs.drop (i + 1) = gs := by rw [← List.tail_drop, hd]; rfl
      have h1 := plcL_len [(i : Int)] 0 g.rows
      obtain ⟨z', e⟩ := ih (i + 1) (acc ++ plcL [(i : Int)] 0 g.rows) (some (.int (0 + (i : Int)))) hd' (by rw [List.length_append]; omega)
      refine ⟨z', ?_⟩
      have hvf := fun s => v_fnct (st := s) hi
      have hz2 := pszs_mem hg
      have hP := fun s => F_places (rs := g.rows) (n := m) (pl := [(i : Int)]) (by omega) (by have := hl g hg; show 1 + _ + 1 < 1000; omega) (by have := hl g hg; omega) s
      have hP : ∀ s, Fm D m i__law_places [.tup [.int (i : Int)], .tup (Row.pvs g.rows)] s = .ok (.lst ((plcL [(i : Int)] 0 g.rows).map prV)) s := hP
      have hva := fun s => v_addpr (xs := acc) (ys := plcL [(i : Int)] 0 g.rows) (st := s) (by omega)
      have ez : (0 + (i : Int)) = (i : Int) := Int.zero_add _
      have hb : bodyP (gName 2) (fb__law_all_0 (Fm D m)) (.int (i : Int)) [some (.tup (fs.map Fnc.pv)), some (.lst (acc.map prV)), z] st = .nx [some (.tup (fs.map Fnc.pv)), some (.lst ((acc ++ plcL [(i : Int)] 0 g.rows).map prV)), some (.int (i : Int))] st := by
        unfold fb__law_all_0
        simp -implicitDefEqProofs (disch := omega) only [x_raise, x_notL, end_ex, bind_ok, nox_ok, bind_ex, s_ex, sb_ex, s_ok, sb_nx, sb_rt, sb_ct, sb_bk, onB_bl, onBS_bl, x_var, x_c, x_bin, x_un, x_nil, x_cons, x_tup, x_lst, x_app, x_and, x_or, x_not, x_if, x_box, x_get, x_sl, x_onone, x_osome, x_snil, x_scons, x_set, x_expr, x_ret, x_retB, x_sif, x_bk, x_ct, x_aug, x_asg, x_gname, x_gnil, x_gcons, x_gtup, mkt0, mkl0, mkt1, mkl1, mkt2, mkl2, mkt3, mkl3, mkt4, mkl4, mkt5, mkl5, mkt6, mkl6, mkt7, mkl7, v_il0, v_it0, v_il1, v_it1, v_il2, v_it2, v_il3, v_it3, v_il4, v_it4, v_il5, v_it5, v_add, v_addI, v_sub, v_neg, v_mul, v_fdv, v_mod, v_cmp, v_eqs, v_nes, v_eqi, v_nei, v_eqb, v_ixc, opt_some, v_lenl, v_lent, v_lenc, v_tupt, v_tupl, v_intb, v_inti, v_max, v_isn, v_isnn, end_rt, end_nx, fz_int, fz_str, fz_bl, fz_non, List.getElem?_cons_zero, List.getElem?_cons_succ, List.set_cons_zero, List.set_cons_succ, List.length_cons, List.length_nil, List.take_length, Option.map_some, oldLoc, Bool.false_and, Bool.and_false, Bool.true_and, Bool.and_true, Bool.not_true, Bool.not_false, Bool.false_eq_true, decide_true, decide_false, decide_eq_true_eq, if_true, if_false, ↓reduceIte, Nat.reduceAdd, Nat.reduceLeDiff, x_body, hvf, v_f2, hP, hva]
      rw [List.length_cons, List.range'_succ, List.map_cons, forL_cons, ez, hb]
      rw [ez] at e
      rw [show allF (i : Int) (g :: gs) = plcL [(i : Int)] 0 g.rows ++ allF ((i : Int) + 1) gs from rfl, ← List.append_assoc]
      exact e
  obtain ⟨z', e⟩ := key fs 0 [] none rfl (by simpa using hz)
  have hlen : (fs.map Fnc.pv).length = fs.length := List.length_map _
  have hf := for_rng (a := eApp vLen (aCons (eVar 0) aNil)) (g := gName 2) (body := fb__law_all_0 (Fm D m)) (env := [some (.tup (fs.map Fnc.pv)), some (.lst []), none]) (st := st) (st' := st) (i := (fs.length : Int)) (by simp -implicitDefEqProofs (disch := omega) only [x_raise, x_notL, end_ex, bind_ok, nox_ok, bind_ex, s_ex, sb_ex, s_ok, sb_nx, sb_rt, sb_ct, sb_bk, onB_bl, onBS_bl, x_var, x_c, x_bin, x_un, x_nil, x_cons, x_tup, x_lst, x_app, x_and, x_or, x_not, x_if, x_box, x_get, x_sl, x_onone, x_osome, x_snil, x_scons, x_set, x_expr, x_ret, x_retB, x_sif, x_bk, x_ct, x_aug, x_asg, x_gname, x_gnil, x_gcons, x_gtup, mkt0, mkl0, mkt1, mkl1, mkt2, mkl2, mkt3, mkl3, mkt4, mkl4, mkt5, mkl5, mkt6, mkl6, mkt7, mkl7, v_il0, v_it0, v_il1, v_it1, v_il2, v_it2, v_il3, v_it3, v_il4, v_it4, v_il5, v_it5, v_add, v_addI, v_sub, v_neg, v_mul, v_fdv, v_mod, v_cmp, v_eqs, v_nes, v_eqi, v_nei, v_eqb, v_ixc, opt_some, v_lenl, v_lent, v_lenc, v_tupt, v_tupl, v_intb, v_inti, v_max, v_isn, v_isnn, end_rt, end_nx, fz_int, fz_str, fz_bl, fz_non, List.getElem?_cons_zero, List.getElem?_cons_succ, List.set_cons_zero, List.set_cons_succ, List.length_cons, List.length_nil, List.take_length, Option.map_some, oldLoc, Bool.false_and, Bool.and_false, Bool.true_and, Bool.and_true, Bool.not_true, Bool.not_false, Bool.false_eq_true, decide_true, decide_false, decide_eq_true_eq, if_true, if_false, ↓reduceIte, Nat.reduceAdd, Nat.reduceLeDiff, hlen]) (by omega) (by omega)
  rw [show (fs.length : Int).toNat = fs.length by omega, List.range_eq_range'] at hf
  rw [show ([] : List (List Int × Row)).map prV = [] from rfl] at e
  rw [e, List.nil_append] at hf
  have fz : freeze st st.length (.lst ((allF ((0 : Nat) : Int) fs).map prV)) = .lst ((allF 0 fs).map prV) := fz_lst (prVs_pure _)
  unfold q__law_all_0 q__law_all_1 q__law_all_2
  simp -implicitDefEqProofs (disch := omega) only [x_raise, x_notL, end_ex, bind_ok, nox_ok, bind_ex, s_ex, sb_ex, s_ok, sb_nx, sb_rt, sb_ct, sb_bk, onB_bl, onBS_bl, x_var, x_c, x_bin, x_un, x_nil, x_cons, x_tup, x_lst, x_app, x_and, x_or, x_not, x_if, x_box, x_get, x_sl, x_onone, x_osome, x_snil, x_scons, x_set, x_expr, x_ret, x_retB, x_sif, x_bk, x_ct, x_aug, x_asg, x_gname, x_gnil, x_gcons, x_gtup, mkt0, mkl0, mkt1, mkl1, mkt2, mkl2, mkt3, mkl3, mkt4, mkl4, mkt5, mkl5, mkt6, mkl6, mkt7, mkl7, v_il0, v_it0, v_il1, v_it1, v_il2, v_it2, v_il3, v_it3, v_il4, v_it4, v_il5, v_it5, v_add, v_addI, v_sub, v_neg, v_mul, v_fdv, v_mod, v_cmp, v_eqs, v_nes, v_eqi, v_nei, v_eqb, v_ixc, opt_some, v_lenl, v_lent, v_lenc, v_tupt, v_tupl, v_intb, v_inti, v_max, v_isn, v_isnn, end_rt, end_nx, fz_int, fz_str, fz_bl, fz_non, List.getElem?_cons_zero, List.getElem?_cons_succ, List.set_cons_zero, List.set_cons_succ, List.length_cons, List.length_nil, List.take_length, Option.map_some, oldLoc, Bool.false_and, Bool.and_false, Bool.true_and, Bool.and_true, Bool.not_true, Bool.not_false, Bool.false_eq_true, decide_true, decide_false, decide_eq_true_eq, if_true, if_false, ↓reduceIte, Nat.reduceAdd, Nat.reduceLeDiff, hf, fz]
/-! ## a list of names that is due -/
theorem isa_sl : isaT "str" "str" = some true := by decide +kernel
theorem isa_str {x : Str} {st : VSt} : vIsa "str" [.str x] st = .ok (.bl true) st := v_isa (t := "str") rfl isa_sl
theorem isa_lst {p : PV} {st : VSt} {xs : List PV} (h : deref st p = .lst xs) : vIsa "list" [p] st = .ok (.bl true) st := v_isa (t := "list") (by unfold tyP; rw [h]) isa_ll
end Lk


namespace Lk
open PySem L2 Vm
/-! ## the drawn names are unlike -/
theorem cutS_toList (z : Str) (lo hi : Option Int) : (cutS z lo hi).cps.toList = (z.cps.toList.drop (HT.sIx z.length 0 lo)).take (HT.sIx z.length z.length hi - HT.sIx z.length 0 lo) := by
  unfold cutS
  first
    | rfl
    | simp
theorem app_toList (a b : Str) : (a ++ b).cps.toList = a.cps.toList ++ b.cps.toList := by
  show (a.cps ++ b.cps).toList = _
  rw [Array.toList_append]
theorem wordA_inj {c : Int} {j k : Nat} (h : wA c j = wA c k) : j = k := by
  have := congrArg Str.length h
  unfold wA at this
  rw [len_repS, len_repS, len_ltr] at this
  omega
theorem wordB_inj {c : Int} {j k : Nat} (hj : j < 26) (hk : k < 26) (h : wB c j = wB c k) : j = k := by
  unfold wB at h
  have h1 := congrArg (fun s : Str => s.cps.toList) h
  simp only [app_toList] at h1
  rw [List.append_assoc, List.append_assoc] at h1
  have h2 := List.append_cancel_left h1
  have h3 : ((ltr ((c / 4992 + 5 * (j : Int)) % 26)).cps.toList ++ (cutS (wBase c) (some (wAt c + 1)) none).cps.toList).head? = _ := congrArg List.head? h2
  have h4 : some (97 + ((c / 4992 + 5 * (j : Int)) % 26).toNat) = some (97 + ((c / 4992 + 5 * (k : Int)) % 26).toNat) := h3
  have h5 := Option.some.inj h4
  omega
theorem words_nodup (c : Int) (m : Nat) (hm : m ≤ 26) : (wordsF c m).Nodup := by
  unfold wordsF
  rw [List.nodup_iff_pairwise_ne, List.pairwise_map]
  refine List.Pairwise.imp_of_mem (R := (· ≠ ·)) (fun {a b} ha hb hne h => hne ?_) (List.nodup_iff_pairwise_ne.mp List.nodup_range)
  rw [List.mem_range] at ha hb
  unfold wordF at h
  by_cases hc : c / 1664 % 3 = 1
  · rw [if_pos hc, if_pos hc] at h
    exact wordA_inj h
  · rw [if_neg hc, if_neg hc] at h
    exact wordB_inj (by omega) (by omega) h
theorem ws_nodup (ns : List Int) : (wsF ns).Nodup := by
  unfold wsF nWords
  split
  · exact words_nodup _ 7 (by omega)
  · exact words_nodup _ 5 (by omega)
theorem ws_len (ns : List Int) : (wsF ns).length ≤ 7 := by
  unfold wsF nWords
  rw [len_words]
  split <;> omega
theorem nm_nodup (ns : List Int) : (nmF ns).Nodup := words_nodup _ 8 (by omega)
/-! ## what stands in drawn rows -/
theorem getD_in {ws : List Str} (hw : 0 < ws.length) {i : Int} (h0 : 0 ≤ i) (h1 : i < (ws.length : Int)) : ws.getD i.toNat "" ∈ ws := by
  have : i.toNat < ws.length := by omega
  rw [List.getD_eq_getElem?_getD, List.getElem?_eq_getElem this]
  exact List.getElem_mem _
theorem mod_in {ws : List Str} (hw : 0 < ws.length) (i : Int) : ws.getD (i % (ws.length : Int)).toNat "" ∈ ws := getD_in hw (Int.emod_nonneg _ (by omega)) (Int.emod_lt_of_pos _ (by omega))
section
variable {ws : List Str} (hw : 0 < ws.length)
include hw
theorem term_in (d : Nat) (c : Int) : ∀ y ∈ (termF ws d c).names, y ∈ ws := Trm.good_names (term_good hw d c)
theorem given_in {x : Str} (hx : x ∈ ws) (c : Int) : ∀ y ∈ (givenF ws x c).names, y ∈ ws := by
  unfold givenF
  split
  · intro y hy
    obtain rfl : y = x := by simpa [Trm.names] using hy
    exact hx
  · exact term_in hw 1 _
end
theorem given_size {ws : List Str} {x : Str} (c : Int) : (givenF ws x c).size ≤ 3 := by
  unfold givenF
  split
  · show 1 ≤ 3; omega
  · have := term_size ws 1 (c / 2); omega
/-- heads: their parameters are of the names, four at most -/
structure Fnc.Hd (ws : List Str) (f : Fnc) : Prop where
  pi : ∀ x ∈ f.pars, x ∈ ws
  pl : f.pars.length ≤ 4
theorem noFnc_hd {ws : List Str} : noFnc.Hd ws := ⟨(fun x h => by cases h), Nat.zero_le _⟩
theorem tot_map {α : Type} {f : α → Trm} {b : Nat} : ∀ {l : List α}, (∀ x ∈ l, (f x).size ≤ b) → tot (l.map f) ≤ l.length * b
  | [], _ => Nat.zero_le _
  | x :: l, h => by
    have h1 := tot_map (l := l) fun y hy => h y (List.mem_cons_of_mem _ hy)
    have h2 := h x List.mem_cons_self
    show (f x).size + tot (l.map f) ≤ (l.length + 1) * b
    rw [Nat.add_mul]; omega
section
variable {ws : List Str} (hw : 0 < ws.length)
include hw
theorem head_hd {hs : List Fnc} (g : ∀ h ∈ hs, h.Hd ws) (c : Int) : (headF hs c).Hd ws := getD_ok g noFnc_hd _
theorem call_dr {hs : List Fnc} (g : ∀ h ∈ hs, h.Hd ws) (c : Int) : (callF ws hs c).In ws ∧ (callF ws hs c).sz ≤ 13 := by
  have hh := head_hd hw g c
  unfold callF
  constructor
  · unfold Row.In
    refine ⟨fun y hy => ?_, fun t ht => ?_⟩
    · split at hy
      · cases hy
      · cases hy; exact mod_in hw _
    · obtain ⟨k, hk, rfl⟩ := List.mem_map.mp ht
      rw [List.mem_range] at hk
      have hp : (headF hs c).pars.getD k "" ∈ ws := by
        rw [List.getD_eq_getElem?_getD, List.getElem?_eq_getElem hk]
        exact hh.pi _ (List.getElem_mem _)
      exact given_in hw hp _
  · rw [Row.sz]
    have := tot_map (f := argF ws (headF hs c) c) (b := 3) (l := List.range (headF hs c).pars.length) fun k _ => given_size _
    rw [List.length_range] at this
    have h2 := hh.pl
    have : (headF hs c).pars.length * 3 ≤ 12 := by omega
    omega
theorem flat_dr {hs : List Fnc} (g : ∀ h ∈ hs, h.Hd ws) (c : Int) : (flatF ws hs c).In ws ∧ (flatF ws hs c).sz ≤ 13 := by
  unfold flatF
  split
  · refine ⟨by unfold Row.In; exact term_in hw _ _, ?_⟩
    rw [Row.sz]
    have := term_size ws 2 (mixedF c 3); omega
  · split
    · exact call_dr hw g _
    · refine ⟨by unfold Row.In; exact ⟨mod_in hw _, term_in hw _ _⟩, ?_⟩
      rw [Row.sz]
      have h1 := term_size ws (1 + c % 9 % 2).toNat (mixedF c 3)
      have h2 : (1 + c % 9 % 2).toNat ≤ 2 := by omega
      have h3 : 2 ^ ((1 + c % 9 % 2).toNat + 1) ≤ 2 ^ 3 := Nat.pow_le_pow_right (by omega) (by omega)
      omega
theorem few_hd {hs : List Fnc} (g : ∀ h ∈ hs, h.Hd ws) (c : Int) : ∀ h ∈ fewF hs c, h.Hd ws := fun h hh => g h (List.mem_of_mem_take hh)
theorem rows_dr {R : Int → Row} {b : Nat} (hR : ∀ c, (R c).In ws ∧ (R c).sz ≤ b) (c m : Int) : Row.Ins ws (rowsOf R c m) ∧ Row.szs (rowsOf R c m) ≤ m.toNat * b := by
  unfold rowsOf
  constructor
  · exact ins_all fun r hr => by
      obtain ⟨k, _, rfl⟩ := List.mem_map.mp hr
      exact (hR _).1
  · have key : ∀ l : List Nat, Row.szs (l.map fun (k : Nat) => R (mixedF c (20 + (k : Int)))) ≤ l.length * b := by
      intro l
      induction l with
      | nil => rw [List.map_nil, szs_nil]; exact Nat.zero_le _
      | cons k l ih =>
        rw [List.map_cons, szs_cons, List.length_cons, Nat.add_mul]
        have := (hR (mixedF c (20 + (k : Int)))).2
        omega
    have := key (List.range m.toNat)
    rwa [List.length_range] at this
theorem row_dr : ∀ (d : Nat) {hs : List Fnc}, (∀ h ∈ hs, h.Hd ws) → ∀ c : Int, (rowF ws d hs c).In ws ∧ (rowF ws d hs c).sz ≤ 15 * 4 ^ d
  | 0, hs, g, c => by
    have := flat_dr hw g c
    rw [rowF]
    exact ⟨this.1, by omega⟩
  | d + 1, hs, g, c => by
    have h1 := rows_dr hw (row_dr d (few_hd hw g c)) (mixedF c 3) (1 + c / 9 % 3)
    have h2 := flat_dr hw g c
    have h3 : (1 + c / 9 % 3).toNat * (15 * 4 ^ d) ≤ 3 * (15 * 4 ^ d) := Nat.mul_le_mul_right _ (by omega)
    have h4 : 1 ≤ 4 ^ d := Nat.one_le_pow _ _ (by omega)
    have h5 : 4 ^ (d + 1) = 4 * 4 ^ d := by rw [Nat.pow_succ, Nat.mul_comm]
    rw [rowF]
    split
    · refine ⟨by unfold Row.In; exact ⟨term_in hw _ _, h1.1⟩, ?_⟩
      rw [sz_when]
      have := term_size ws 1 (mixedF c 4)
      omega
    · split
      · refine ⟨by unfold Row.In; exact h1.1, ?_⟩
        rw [sz_again]
        omega
      · exact ⟨h2.1, by omega⟩
/-- a drawn function -/
structure Fnc.Dr (ws : List Str) (f : Fnc) : Prop where
  hd : f.Hd ws
  ri : Row.Ins ws f.rows
  rs : Row.szs f.rows ≤ 1900
  ti : ∀ y ∈ f.res.names, y ∈ ws
  tz : f.res.size ≤ 3
theorem pars_hd (c : Int) : (∀ x ∈ parsF ws c, x ∈ ws) ∧ (parsF ws c).length ≤ 4 := by
  have p := p6_r (c % 6)
  unfold parsF
  refine ⟨fun x hx => ?_, by rw [List.length_map, List.length_range]; omega⟩
  obtain ⟨k, _, rfl⟩ := List.mem_map.mp hx
  exact mod_in hw _
theorem function_dr {hs : List Fnc} (g : ∀ h ∈ hs, h.Hd ws) (x : Str) (c : Int) : (functionF ws hs x c).Dr ws := by
  have m := manyF_r c
  have r1 := rows_dr hw (row_dr hw 1 (hs := []) fun h z => by cases z) (mixedF c 5) (manyF c)
  have r2 := rows_dr hw (row_dr hw 2 g) (mixedF c 5) (manyF c)
  refine ⟨⟨(pars_hd hw c).1, (pars_hd hw c).2⟩, ?_, ?_, term_in hw 1 _, by have := term_size ws 1 (mixedF c 6); show (termF ws 1 (mixedF c 6)).size ≤ 3; omega⟩
  · show Row.Ins ws (if manyF c > 6 then _ else _)
    split
    · exact r1.1
    · exact r2.1
  · show Row.szs (if manyF c > 6 then _ else _) ≤ 1900
    split
    · have := r1.2; omega
    · have := r2.2; omega
end
end Lk


namespace Lk
open PySem L2 Vm
theorem step_dr (ns : List Int) (k : Nat) {fs : List Fnc} (g : ∀ f ∈ fs, f.Hd (wsF ns)) : (stepF ns k fs).Dr (wsF ns) := by
  have gf := function_dr (ws_ok ns).1 (hs := fs.take 3) (fun f hf => g f (List.mem_of_mem_take hf)) ((nmF ns).getD k "") (cellF ns (5 + k))
  unfold stepF
  split
  · exact ⟨⟨(fun x h => by cases h), Nat.zero_le _⟩, ins_nil, by rw [szs_nil]; omega, gf.ti, gf.tz⟩
  · exact gf
theorem progL_dr (ns : List Int) : ∀ (m k : Nat) (fs : List Fnc), (∀ f ∈ fs, f.Dr (wsF ns)) → ∀ f ∈ progL ns m k fs, f.Dr (wsF ns)
  | 0, k, fs, g => g
  | m + 1, k, fs, g => progL_dr ns m (k + 1) (fs ++ [stepF ns k fs]) fun f hf => by
    rcases List.mem_append.mp hf with h | h
    · exact g f h
    · obtain rfl : f = stepF ns k fs := by simpa using h
      exact step_dr ns k fun f hf => (g f hf).hd
theorem heads_dr (ns : List Int) : ∀ h ∈ headsF ns ++ [lastF ns], h.Dr (wsF ns) := by
  rw [heads_last]
  exact progL_dr ns _ 0 [] fun f h => by cases h
theorem F_program' {n : Nat} (h : 16 ≤ n) (ns : List Int) (st : VSt) : Fm D n i__law_program [.scr ns, .int 2] st = .ok (.tup ((progF ns).map Fnc.pv)) st := by
  obtain ⟨m, rfl⟩ := ge_add h
  exact F_program m ns st
end Lk


namespace Lk
open PySem L2 Vm
theorem wrap_dr {ws : List Str} : ∀ (is : List Int) {rs : List Row}, Row.Ins ws rs → Row.Ins ws (wrapF rs is) ∧ Row.szs (wrapF rs is) ≤ Row.szs rs + 2 * is.length
  | [], rs, g => ⟨g, Nat.le_refl _⟩
  | i :: is, rs, g => by
    have g1 : Row.Ins ws [.when (.num (1 + i)) rs] := by
      rw [ins_cons]
      exact ⟨by unfold Row.In; exact ⟨(fun y hy => by cases hy), g⟩, ins_nil⟩
    obtain ⟨a, b⟩ := wrap_dr is g1
    rw [szs_cons, sz_when, szs_nil] at b
    exact ⟨a, by rw [List.length_cons]; have : (Trm.num (1 + i)).size = 1 := rfl; show Row.szs (wrapF [.when (.num (1 + i)) rs] is) ≤ _; omega⟩
/-- a function of the drawn program -/
structure Fnc.Pd (ws : List Str) (f : Fnc) : Prop where
  gd : f.Gd
  hd : f.Hd ws
  ri : Row.Ins ws f.rows
  rs : Row.szs f.rows ≤ 2000
  lv : Row.lvls f.rows ≤ 9
  ti : ∀ y ∈ f.res.names, y ∈ ws
  tz : f.res.size ≤ 3
theorem again_pd {ws : List Str} {f : Fnc} (g : f.Gd) (l : Row.lvls f.rows ≤ 2) (d : f.Dr ws) (c : Int) : (againF f c).Pd ws := by
  have ag := again_gd g l c
  obtain ⟨a, b⟩ := wrap_dr six d.ri
  have b' : Row.szs (wrapF f.rows six) ≤ 1912 := Nat.le_trans b (by have := d.rs; show Row.szs f.rows + 2 * 6 ≤ _; omega)
  refine ⟨ag, ⟨d.hd.pi, d.hd.pl⟩, ?_, ?_, ag.lv, d.ti, d.tz⟩
  · unfold againF
    rw [ins_cons]
    refine ⟨?_, ins_nil⟩
    unfold Row.In
    split
    · exact a
    · exact d.ri
  · unfold againF
    rw [szs_cons, szs_nil, sz_again]
    have := d.rs
    split <;> omega
theorem prog_pd (ns : List Int) : ∀ f ∈ progF ns, f.Pd (wsF ns) := fun f hf => by
  have g := heads_gd ns
  have d := heads_dr ns
  have key : ∀ h ∈ headsF ns ++ [lastF ns], h.Pd (wsF ns) := fun h hh => ⟨(g h hh).1, (d h hh).hd, (d h hh).ri, Nat.le_trans (d h hh).rs (by omega), (g h hh).1.lv, (d h hh).ti, (d h hh).tz⟩
  have gl := g (lastF ns) (List.mem_append_right _ (by simp))
  have dl := d (lastF ns) (List.mem_append_right _ (by simp))
  unfold progF loopF at hf
  split at hf
  · exact key f hf
  · rcases List.mem_append.mp hf with z | z
    · exact key f (List.mem_append_left _ z)
    · obtain rfl : f = againF (lastF ns) (cellF ns 4 / 4) := by simpa using z
      exact again_pd gl.1 gl.2 dl _
theorem prog_len (ns : List Int) : 1 ≤ (progF ns).length ∧ (progF ns).length ≤ 8 := by
  have := heads_len ns
  unfold progF loopF
  split <;> (rw [List.length_append]; show 1 ≤ _ + 1 ∧ _ + 1 ≤ 8; omega)
theorem pszs_le {b : Nat} : ∀ {fs : List Fnc}, (∀ f ∈ fs, Row.szs f.rows ≤ b) → pszs fs ≤ fs.length * b
  | [], _ => Nat.zero_le _
  | f :: fs, h => by
    have h1 := pszs_le (fs := fs) fun g hg => h g (List.mem_cons_of_mem _ hg)
    have h2 := h f List.mem_cons_self
    show Row.szs f.rows + pszs fs ≤ (fs.length + 1) * b
    rw [Nat.add_mul]; omega
theorem prog_szs (ns : List Int) : pszs (progF ns) ≤ 16000 := by
  have h1 := pszs_le (fs := progF ns) fun f hf => (prog_pd ns f hf).rs
  have h2 := (prog_len ns).2
  have : (progF ns).length * 2000 ≤ 8 * 2000 := Nat.mul_le_mul_right _ h2
  omega
end Lk


namespace Lk
open PySem L2 Vm
theorem blk_lvl {r s : Row} (h : s ∈ blkF r) : s.lvl + 1 ≤ r.lvl := by
  cases r with
  | when t rs => rw [lvl_when]; have := lvl_mem (show s ∈ rs from h); omega
  | again m rs => rw [lvl_again]; have := lvl_mem (show s ∈ rs from h); omega
  | _ => cases h
mutual
theorem plcL_all {P : Row → Prop} (hb : ∀ r, P r → ∀ s ∈ blkF r, P s) (pl : List Int) : ∀ (k : Int) (rs : List Row), (∀ r ∈ rs, P r) → ∀ p ∈ plcL pl k rs, P p.2
  | k, [], _, p, h => by rw [plcL_nil] at h; cases h
  | k, r :: rs, hr, p, h => by
    rw [plcL_cons] at h
    rcases List.mem_cons.mp h with rfl | h
    · exact hr r List.mem_cons_self
    · rcases List.mem_append.mp h with h | h
      · exact plcR_all hb (pl ++ [k]) r (hr r List.mem_cons_self) p h
      · exact plcL_all hb pl (k + 1) rs (fun s hs => hr s (List.mem_cons_of_mem _ hs)) p h
theorem plcR_all {P : Row → Prop} (hb : ∀ r, P r → ∀ s ∈ blkF r, P s) (pl : List Int) : ∀ (r : Row), P r → ∀ p ∈ plcR pl r, P p.2
  | .when t rs, hr, p, h => by rw [plcR] at h; exact plcL_all hb pl 0 rs (hb _ hr) p h
  | .again m rs, hr, p, h => by rw [plcR] at h; exact plcL_all hb pl 0 rs (hb _ hr) p h
  | .set x t, hr, p, h => by rw [plcR] at h; cases h
  | .tell t, hr, p, h => by rw [plcR] at h; cases h
  | .call x f ts, hr, p, h => by rw [plcR] at h; cases h
end
theorem allF_all {P : Row → Prop} (hb : ∀ r, P r → ∀ s ∈ blkF r, P s) : ∀ (k : Int) (fs : List Fnc), (∀ f ∈ fs, ∀ r ∈ f.rows, P r) → ∀ p ∈ allF k fs, P p.2
  | k, [], _, p, h => by cases h
  | k, f :: fs, hf, p, h => by
    rcases List.mem_append.mp (show p ∈ plcL [k] 0 f.rows ++ allF (k + 1) fs from h) with h | h
    · exact plcL_all hb [k] 0 f.rows (hf f List.mem_cons_self) p h
    · exact allF_all hb (k + 1) fs (fun g hg => hf g (List.mem_cons_of_mem _ hg)) p h
/-- a row of the drawn program -/
structure Row.Pd (ws : List Str) (r : Row) : Prop where
  gd : r.Gd
  ri : r.In ws
  rs : r.sz ≤ 2000
  lv : r.lvl ≤ 9
theorem Row.Pd.blk {ws : List Str} {r : Row} (p : r.Pd ws) : ∀ s ∈ blkF r, s.Pd ws := fun s hs =>
  ⟨gd_mem (blk_gd p.gd) hs, in_mem (blk_in p.ri) hs, by have h1 := sz_mem hs; have h2 := blk_sz r; have := p.rs; omega, by have h1 := blk_lvl hs; have := p.lv; omega⟩
theorem rows_pd {ws : List Str} {f : Fnc} (p : f.Pd ws) : ∀ r ∈ f.rows, r.Pd ws := fun r hr =>
  ⟨gd_mem p.gd.rs hr, in_mem p.ri hr, by have h1 := sz_mem hr; have := p.rs; omega, by have h1 := lvl_mem hr; have := p.lv; omega⟩
theorem all_pd (ns : List Int) : ∀ p ∈ allF 0 (progF ns), p.2.Pd (wsF ns) := allF_all (fun r h => h.blk) 0 (progF ns) fun f hf => rows_pd (prog_pd ns f hf)
/-- rows one behind the other of the drawn program -/
structure RowsPd (ws : List Str) (rs : List Row) : Prop where
  gd : Row.Gds rs
  ri : Row.Ins ws rs
  sz : Row.szs rs ≤ 2000
  lv : Row.lvls rs ≤ 9
def someF (ns : List Int) : List (List Row) := (progF ns).map Fnc.rows ++ ((allF 0 (progF ns)).filter fun p => !(blkF p.2).isEmpty).map fun p => blkF p.2
theorem some_pd (ns : List Int) : ∀ R ∈ someF ns, RowsPd (wsF ns) R := fun R hR => by
  rcases List.mem_append.mp hR with h | h
  · obtain ⟨f, hf, rfl⟩ := List.mem_map.mp h
    have p := prog_pd ns f hf
    exact ⟨p.gd.rs, p.ri, p.rs, p.lv⟩
  · obtain ⟨p, hp, rfl⟩ := List.mem_map.mp h
    have q := all_pd ns p (List.mem_filter.mp hp).1
    exact ⟨blk_gd q.gd, blk_in q.ri, by have := blk_sz p.2; have := q.rs; omega, lvls_le fun s hs => by have := blk_lvl hs; have := q.lv; omega⟩
def rowsV (rs : List Row) : PV := .tup (Row.pvs rs)
theorem sok_rows {rs : List Row} (g : Row.Gds rs) (h : Row.lvls rs ≤ 9) (s : VSt) : vEqF true (.tup (Row.pvs rs)) (.tup []) s = .ok (.bl (!rs.isEmpty)) s := by
  obtain ⟨s1, s2⟩ := Row.soks rs g
  rw [v_nilt s1 (by omega), pvs_map]
  cases rs <;> rfl
theorem F_cell' {n : Nat} (h : 1 ≤ n) (ns : List Int) (k : Nat) (st : VSt) : Fm D n i__law_cell [.scr ns, .int (k : Int)] st = .ok (.int (cellF ns k)) st := by
  obtain ⟨m, rfl⟩ := ge_add h
  exact F_cell m ns k st
theorem F_vars' {n : Nat} (h : 2 ≤ n) (ns : List Int) (st : VSt) : Fm D n i__law_variables [.scr ns, .int 2] st = .ok (.lst ((wsF ns).map PV.str)) st := by
  obtain ⟨m, rfl⟩ := ge_add h
  exact F_vars m ns st
end Lk


namespace Lk
open PySem L2 Vm
/-! ## ways into rows -/
/-- the rows around: those within, by a way of numbers -/
def walkR : List Row → List Nat → Option (List Row)
  | rs, [] => some rs
  | rs, m :: ms => match rs[m]? with
    | some r => if hasB r = true then walkR (blkF r) ms else none
    | none => none
theorem walk_cons {rs : List Row} {m : Nat} {ms : List Nat} {qs : List Row} (h : walkR rs (m :: ms) = some qs) : ∃ r, rs[m]? = some r ∧ hasB r = true ∧ walkR (blkF r) ms = some qs := by
  unfold walkR at h
  cases e : rs[m]? with
  | none => rw [e] at h; cases h
  | some r =>
    rw [e] at h
    by_cases hb : hasB r = true
    · exact ⟨r, rfl, hb, by simpa [hb] using h⟩
    · simp [hb] at h
/-- a place: the function's number, the way, the last number -/
def plI (i : Nat) (ms : List Nat) (j : Nat) : List Int := (i : Int) :: (ms.map (fun k : Nat => (k : Int)) ++ [(j : Int)])
/-- rows that may be gone through -/
structure RowsOk (ws : List Str) (L : Nat) (rs : List Row) : Prop where
  gd : Row.Gds rs
  ri : Row.Ins ws rs
  sz : Row.szs rs < 900000
  lv : Row.lvls rs ≤ L
theorem RowsOk.blk {ws : List Str} {L : Nat} {rs : List Row} (k : RowsOk ws L rs) {r : Row} (h : r ∈ rs) : RowsOk ws L (blkF r) :=
  ⟨blk_gd (gd_mem k.gd h), blk_in (in_mem k.ri h), by have h1 := sz_mem h; have h2 := blk_sz r; have := k.sz; omega, by
    refine lvls_le fun s hs => ?_
    have h1 : s.lvl + 1 ≤ r.lvl := by
      cases r with
      | when t rs => rw [lvl_when]; have := lvl_mem (show s ∈ rs from hs); omega
      | again m rs => rw [lvl_again]; have := lvl_mem (show s ∈ rs from hs); omega
      | _ => cases hs
    have h2 := lvl_mem h
    have := k.lv
    omega⟩
theorem drop_mem {α : Type} {l : List α} {n : Nat} {x : α} (h : x ∈ l.drop n) : x ∈ l := List.mem_of_mem_drop h
theorem szs_drop (rs : List Row) (n : Nat) : Row.szs (rs.drop n) ≤ Row.szs rs := by
  have := szs_app (rs.take n) (rs.drop n)
  rw [List.take_append_drop] at this
  omega
theorem gds_of {rs : List Row} (h : ∀ r ∈ rs, r.Gd) : Row.Gds rs := gds_all h
theorem RowsOk.drop {ws : List Str} {L : Nat} {rs : List Row} (k : RowsOk ws L rs) (n : Nat) : RowsOk ws L (rs.drop n) :=
  ⟨gds_of fun r hr => gd_mem k.gd (drop_mem hr), ins_all fun r hr => in_mem k.ri (drop_mem hr), Nat.lt_of_le_of_lt (szs_drop rs n) k.sz, lvls_le fun r hr => Nat.le_trans (lvl_mem (drop_mem hr)) k.lv⟩
theorem RowsOk.walk {ws : List Str} {L : Nat} : ∀ {ms : List Nat} {rs qs : List Row}, RowsOk ws L rs → walkR rs ms = some qs → RowsOk ws L qs
  | [], rs, qs, k, h => by cases h; exact k
  | m :: ms, rs, qs, k, h => by
    obtain ⟨r, hr, _, hw⟩ := walk_cons h
    exact RowsOk.walk (k.blk (List.mem_of_getElem? hr)) hw
/-! ## slices -/
theorem cut_from {α : Type} (f : α → PV) (rs : List α) (k : Nat) : cutP (rs.map f) (some ((k : Int) + 1)) none = (rs.drop (k + 1)).map f := by
  unfold cutP
  rw [show ((k : Int) + 1) = ((k + 1 : Nat) : Int) by omega, HT.sIx_nat, HT.sIx_none, List.length_map]
  rw [← List.map_drop, ← List.map_take]
  congr 1
  by_cases h : k + 1 ≤ rs.length
  · rw [Nat.min_eq_left h, List.take_of_length_le (by rw [List.length_drop]; omega)]
  · rw [Nat.min_eq_right (by omega), List.drop_of_length_le (by omega), List.drop_of_length_le (by omega)]; simp
theorem cut_way (i : Nat) (ms : List Nat) (j : Nat) : cutP ((plI i ms j).map PV.int) (some 1) (some (-1)) = ms.map fun (k : Nat) => PV.int (k : Int) := by
  unfold cutP plI
  have e1 : HT.sIx (((i : Int) :: (ms.map (fun k : Nat => (k : Int)) ++ [(j : Int)])).map PV.int).length 0 (some 1) = 1 := by
    rw [show (1 : Int) = ((1 : Nat) : Int) from rfl, HT.sIx_nat]
    simp
  have e2 : HT.sIx (((i : Int) :: (ms.map (fun k : Nat => (k : Int)) ++ [(j : Int)])).map PV.int).length (((i : Int) :: (ms.map (fun k : Nat => (k : Int)) ++ [(j : Int)])).map PV.int).length (some (-1)) = ms.length + 1 := by
    unfold HT.sIx
    simp
    omega
  rw [e1, e2]
  simp [List.map_append, List.map_map, Function.comp_def]
theorem v_rows1 {rs : List Row} {k : Nat} {s : VSt} : vSl (.tup (Row.pvs rs)) (some ((k : Int) + 1)) none s = .ok (.tup (Row.pvs (rs.drop (k + 1)))) s := by
  rw [v_slt, pvs_map, pvs_map, cut_from]
theorem v_way {i : Nat} {ms : List Nat} {j : Nat} {s : VSt} : vSl (plV (plI i ms j)) (some 1) (some (-1)) s = .ok (.tup (ms.map fun (k : Nat) => PV.int (k : Int))) s := by
  unfold plV
  rw [v_slt, cut_way]
theorem v_p0 {i : Nat} {ms : List Nat} {j : Nat} {s : VSt} : vIx (plV (plI i ms j)) (.int 0) s = .ok (.int (i : Int)) s := v_it0
theorem v_pl {i : Nat} {ms : List Nat} {j : Nat} {s : VSt} : vIx (plV (plI i ms j)) (.int (-1)) s = .ok (.int (j : Int)) s := by
  unfold plV plI
  rw [v_ixt]
  have : atI (((i : Int) :: (ms.map (fun k : Nat => (k : Int)) ++ [(j : Int)])).map PV.int) (-1) = some (.int (j : Int)) := by
    have ix : ixN (((i : Int) :: (ms.map (fun k : Nat => (k : Int)) ++ [(j : Int)])).map PV.int).length (-1) = some (ms.length + 1) := by
      unfold ixN
      rw [if_neg (by decide), if_pos (by simp; omega)]
      simp
      omega
    unfold atI
    rw [ix]
    simp
  rw [this]
  exact opt_some
theorem v_plen {i : Nat} {ms : List Nat} {j : Nat} {s : VSt} : vLen [plV (plI i ms j)] s = .ok (.int ((ms.length + 2 : Nat) : Int)) s := by
  unfold plV plI
  rw [v_lent]
  simp
  omega
/-! ## what is needed -/
def aheadF (rs : List Row) (names : List Str) : List Str := firstF rs ++ names.filter fun x => !decide (x ∈ sureF rs)
def stepN (rs : List Row) (names : List Str) (m : Nat) (r : Row) : List Str :=
  match r with
  | .again c bs => if 1 < c then aheadF (rs.drop (m + 1)) names ++ firstF bs else aheadF (rs.drop (m + 1)) names
  | _ => aheadF (rs.drop (m + 1)) names
def needN : List Row → List Str → List Nat → Nat → List Str
  | rs, names, [], j => aheadF (rs.drop (j + 1)) names
  | rs, names, m :: ms, j => match rs[m]? with
    | some r => needN (blkF r) (stepN rs names m r) ms j
    | none => []
theorem firstF_in {ws : List Str} {rs : List Row} (h : Row.Ins ws rs) : ∀ y ∈ firstF rs, y ∈ ws := fun y hy => (firstA_in rs h [] [] y (mem_firstF.mp hy)).resolve_left (by simp)
theorem firstF_nodup (rs : List Row) : (firstF rs).Nodup := nodup_srtS (nodup_firstA rs [] [] List.nodup_nil)
theorem firstF_ws {ws : List Str} {rs : List Row} (h : Row.Ins ws rs) : (firstF rs).length ≤ ws.length := nodup_len (firstF_nodup rs) (firstF_in h)
theorem ahead_in {ws : List Str} {rs : List Row} (h : Row.Ins ws rs) {names : List Str} (hn : ∀ y ∈ names, y ∈ ws) : ∀ y ∈ aheadF rs names, y ∈ ws := fun y hy => by
  rcases List.mem_append.mp hy with h1 | h1
  · exact firstF_in h y h1
  · exact hn y (List.mem_filter.mp h1).1
theorem ahead_len {ws : List Str} {rs : List Row} (h : Row.Ins ws rs) (names : List Str) : (aheadF rs names).length ≤ ws.length + names.length := by
  unfold aheadF
  rw [List.length_append]
  have h1 := firstF_ws h
  have h2 := List.length_filter_le (fun x => !decide (x ∈ sureF rs)) names
  omega
theorem step_ok {ws : List Str} {L : Nat} {rs : List Row} (k : RowsOk ws L rs) {names : List Str} (hn : ∀ y ∈ names, y ∈ ws) {m : Nat} {r : Row} (hr : rs[m]? = some r) : (∀ y ∈ stepN rs names m r, y ∈ ws) ∧ (stepN rs names m r).length ≤ 2 * ws.length + names.length := by
  have h1 := ahead_in (k.drop (m + 1)).ri hn
  have h2 := ahead_len (k.drop (m + 1)).ri names
  cases r with
  | again c bs =>
    have hb := (k.blk (List.mem_of_getElem? hr)).ri
    have hb : Row.Ins ws bs := hb
    unfold stepN
    dsimp only
    split
    · refine ⟨fun y hy => ?_, ?_⟩
      · rcases List.mem_append.mp hy with h | h
        · exact h1 y h
        · exact firstF_in hb y h
      · rw [List.length_append]
        have := firstF_ws hb
        omega
    · exact ⟨h1, by omega⟩
  | _ => exact ⟨h1, by show (aheadF (rs.drop (m + 1)) names).length ≤ _; omega⟩
theorem need_in {ws : List Str} {L : Nat} : ∀ (ms : List Nat) {rs : List Row} {names : List Str} {j : Nat}, RowsOk ws L rs → (∀ y ∈ names, y ∈ ws) → ∀ y ∈ needN rs names ms j, y ∈ ws
  | [], rs, names, j, k, hn, y, hy => ahead_in (k.drop (j + 1)).ri hn y hy
  | m :: ms, rs, names, j, k, hn, y, hy => by
    unfold needN at hy
    cases e : rs[m]? with
    | none => rw [e] at hy; cases hy
    | some r =>
      rw [e] at hy
      exact need_in ms (k.blk (List.mem_of_getElem? e)) (step_ok k hn e).1 y hy
theorem F_ahead {ws : List Str} (hw : ws.length < 64) {L : Nat} {rs : List Row} (k : RowsOk ws L rs) {names : List Str} (hl : names.length ≤ 900000) {n : Nat} (h : 2 * L + 9 ≤ n) (st : VSt) :
    Fm D n i__needed_ahead [.tup (Row.pvs rs), .lst (names.map PV.str)] st = .ok (.lst ((aheadF rs names).map PV.str)) st := by
  obtain ⟨m, rfl⟩ := ge_add (k := 1) (n := n) (by omega)
  rw [c__needed_ahead, b__needed_ahead_q]
  have lv := k.lv
  have hs := fun s => F_surely_set hw k.ri (by have := k.sz; omega) (n := m) (by omega) s
  have hf := fun s => F_first_read hw k.ri k.gd (by have := k.sz; omega) (n := m) (by omega) s
  have fl : ∀ (x : Str) s, vIn true (.str x) (.lst ((sureF rs).map PV.str)) s = .ok (.bl (!decide (x ∈ sureF rs))) s := fun x s => by
    have hf : (flatP (PV.str x) && ((sureF rs).map PV.str).all flatP) = true := by rw [flats]; rfl
    show (if (flatP (PV.str x) && ((sureF rs).map PV.str).all flatP) = true then Res.ok (PV.bl (if true = true then !inP (.str x) ((sureF rs).map PV.str) else inP (.str x) ((sureF rs).map PV.str))) s else .bad) = _
    rw [if_pos hf, inPs]; exact Eq.trans rfl rfl
  have hc : eComp (iSeq (eVar 1)) (gName 3) (eBin (vIn true) (eVar 3) (eVar 2)) (eVar 3) [3] [some (.tup (Row.pvs rs)), some (.lst (names.map PV.str)), some (.lst ((sureF rs).map PV.str)), none] st = .ok (.lst ((names.filter fun x => !decide (x ∈ sureF rs)).map PV.str)) st :=
    comp_enc1 (j := .seq (.lst (names.map PV.str))) (l := names) (enc := PV.str) (p := fun x => !decide (x ∈ sureF rs)) (res := PV.str) (i_lst rfl) (fun s => rfl) (by omega) (fun x hx => by
      simp -implicitDefEqProofs (disch := omega) only [x_raise, x_notL, end_ex, bind_ok, nox_ok, bind_ex, s_ex, sb_ex, s_ok, sb_nx, sb_rt, sb_ct, sb_bk, onB_bl, onBS_bl, x_var, x_c, x_bin, x_un, x_nil, x_cons, x_tup, x_lst, x_app, x_and, x_or, x_not, x_if, x_box, x_get, x_sl, x_onone, x_osome, x_snil, x_scons, x_set, x_expr, x_ret, x_retB, x_sif, x_bk, x_ct, x_aug, x_asg, x_gname, x_gnil, x_gcons, x_gtup, mkt0, mkl0, mkt1, mkl1, mkt2, mkl2, mkt3, mkl3, mkt4, mkl4, mkt5, mkl5, mkt6, mkl6, mkt7, mkl7, v_il0, v_it0, v_il1, v_it1, v_il2, v_it2, v_il3, v_it3, v_il4, v_it4, v_il5, v_it5, v_add, v_addI, v_sub, v_neg, v_mul, v_fdv, v_mod, v_cmp, v_eqs, v_nes, v_eqi, v_nei, v_eqb, v_ixc, opt_some, v_lenl, v_lent, v_lenc, v_tupt, v_tupl, v_intb, v_inti, v_max, v_isn, v_isnn, end_rt, end_nx, fz_int, fz_str, fz_bl, fz_non, List.getElem?_cons_zero, List.getElem?_cons_succ, List.set_cons_zero, List.set_cons_succ, List.length_cons, List.length_nil, List.take_length, Option.map_some, oldLoc, Bool.false_and, Bool.and_false, Bool.true_and, Bool.and_true, Bool.not_true, Bool.not_false, Bool.false_eq_true, decide_true, decide_false, decide_eq_true_eq, if_true, if_false, ↓reduceIte, Nat.reduceAdd, Nat.reduceLeDiff, fl]) fun x hx _ => rfl
  have l1 := firstF_ws k.ri
  have l2 := List.length_filter_le (fun x => !decide (x ∈ sureF rs)) names
  have hv : ∀ s, vAdd (.lst ((firstF rs).map PV.str)) (.lst ((names.filter fun x => !decide (x ∈ sureF rs)).map PV.str)) s = .ok (.lst ((aheadF rs names).map PV.str)) s := fun s => by
    rw [v_addl (by rw [List.length_map, List.length_map]; omega), ← List.map_append]; rfl
  have fz := fz_strs (s := st) (k := st.length) (aheadF rs names)
  unfold q__needed_ahead_0 q__needed_ahead_1
  simp -implicitDefEqProofs (disch := omega) only [x_raise, x_notL, end_ex, bind_ok, nox_ok, bind_ex, s_ex, sb_ex, s_ok, sb_nx, sb_rt, sb_ct, sb_bk, onB_bl, onBS_bl, x_var, x_c, x_bin, x_un, x_nil, x_cons, x_tup, x_lst, x_app, x_and, x_or, x_not, x_if, x_box, x_get, x_sl, x_onone, x_osome, x_snil, x_scons, x_set, x_expr, x_ret, x_retB, x_sif, x_bk, x_ct, x_aug, x_asg, x_gname, x_gnil, x_gcons, x_gtup, mkt0, mkl0, mkt1, mkl1, mkt2, mkl2, mkt3, mkl3, mkt4, mkl4, mkt5, mkl5, mkt6, mkl6, mkt7, mkl7, v_il0, v_it0, v_il1, v_it1, v_il2, v_it2, v_il3, v_it3, v_il4, v_it4, v_il5, v_it5, v_add, v_addI, v_sub, v_neg, v_mul, v_fdv, v_mod, v_cmp, v_eqs, v_nes, v_eqi, v_nei, v_eqb, v_ixc, opt_some, v_lenl, v_lent, v_lenc, v_tupt, v_tupl, v_intb, v_inti, v_max, v_isn, v_isnn, end_rt, end_nx, fz_int, fz_str, fz_bl, fz_non, List.getElem?_cons_zero, List.getElem?_cons_succ, List.set_cons_zero, List.set_cons_succ, List.length_cons, List.length_nil, List.take_length, Option.map_some, oldLoc, Bool.false_and, Bool.and_false, Bool.true_and, Bool.and_true, Bool.not_true, Bool.not_false, Bool.false_eq_true, decide_true, decide_false, decide_eq_true_eq, if_true, if_false, ↓reduceIte, Nat.reduceAdd, Nat.reduceLeDiff, hs, hf, hc, hv, fz]
theorem v_r0a {c : Int} {rs : List Row} {s : VSt} : vIx (Row.again c rs).pv (.int 0) s = .ok (.str "again") s := by rw [Row.pv]; exact v_it0
theorem v_r1a {c : Int} {rs : List Row} {s : VSt} : vIx (Row.again c rs).pv (.int 1) s = .ok (.int c) s := by rw [Row.pv]; exact v_it1
theorem hasB_cases {r : Row} (h : hasB r = true) : (∃ t rs, r = .when t rs) ∨ ∃ c rs, r = .again c rs := by
  cases r with
  | when t rs => exact .inl ⟨t, rs, rfl⟩
  | again c rs => exact .inr ⟨c, rs, rfl⟩
  | _ => cases h
theorem v_addS {xs ys : List Str} {s : VSt} (h : xs.length + ys.length ≤ 1000000) : vAdd (.lst (xs.map PV.str)) (.lst (ys.map PV.str)) s = .ok (.lst ((xs ++ ys).map PV.str)) s := by
  rw [v_addl (by rw [List.length_map, List.length_map]; exact h), List.map_append]
theorem need_loop {ws : List Str} (hw : ws.length < 64) {L m0 : Nat} (hm : 2 * L + 10 ≤ m0) {a b c : Option PV} {st : VSt} : ∀ (ms : List Nat) (rs qs : List Row) (names : List Str) (z z2 : Option PV), RowsOk ws L rs → walkR rs ms = some qs → (∀ y ∈ names, y ∈ ws) → names.length + 2 * ws.length * ms.length ≤ 100000 →
    ∃ names' z' z2', forL (bodyP (gName 5) (fb_needed_0 (Fm D m0))) (ms.map fun (k : Nat) => PV.int (k : Int)) [a, b, c, some (.tup (Row.pvs rs)), some (.lst (names.map PV.str)), z, z2] st =
      .nx [a, b, c, some (.tup (Row.pvs qs)), some (.lst (names'.map PV.str)), z', z2'] st ∧ (∀ j, needN rs names ms j = aheadF (qs.drop (j + 1)) names') ∧ (∀ y ∈ names', y ∈ ws) ∧ names'.length ≤ 100000
  | [], rs, qs, names, z, z2, k, h, hn, hl => by
    cases h
    exact ⟨names, z, z2, rfl, fun j => rfl, hn, by simpa using hl⟩
  | m :: ms, rs, qs, names, z, z2, k, h, hn, hl => by
    obtain ⟨r, hr, hb, hw2⟩ := walk_cons h
    have hrm := List.mem_of_getElem? hr
    have so := step_ok k hn hr
    rw [List.length_cons, Nat.mul_add, Nat.mul_one] at hl
    obtain ⟨names', z', z2', e1, e2, e3, e4⟩ := need_loop hw hm (a := a) (b := b) (c := c) (st := st) ms (blkF r) qs (stepN rs names m r) (some (.int (m : Int))) (some r.pv) (k.blk hrm) hw2 so.1 (by omega)
    refine ⟨names', z', z2', ?_, fun j => ?_, e3, e4⟩
    · have vr := fun s => v_rowt (st := s) hr
      have va := fun s => F_ahead hw (k.drop (m + 1)) (names := names) (by omega) (n := m0) (by omega) s
      have vw := fun s => F_rows_within (n := m0) (by omega) r s
      have kb := k.blk hrm
      have lb := kb.lv
      have vf := fun s => F_first_read hw kb.ri kb.gd (by have := kb.sz; omega) (n := m0) (by omega) s
      have hbody : bodyP (gName 5) (fb_needed_0 (Fm D m0)) (.int (m : Int)) [a, b, c, some (.tup (Row.pvs rs)), some (.lst (names.map PV.str)), z, z2] st =
          .nx [a, b, c, some (.tup (Row.pvs (blkF r))), some (.lst ((stepN rs names m r).map PV.str)), some (.int (m : Int)), some r.pv] st := by
        unfold fb_needed_0
        rcases hasB_cases hb with ⟨t, bs, rfl⟩ | ⟨q, bs, rfl⟩
        · have v0 : ∀ s, vIx (Row.when t bs).pv (.int 0) s = .ok (.str "when") s := fun s => by rw [Row.pv]; exact v_it0
          simp -implicitDefEqProofs (disch := omega) only [x_raise, x_notL, end_ex, bind_ok, nox_ok, bind_ex, s_ex, sb_ex, s_ok, sb_nx, sb_rt, sb_ct, sb_bk, onB_bl, onBS_bl, x_var, x_c, x_bin, x_un, x_nil, x_cons, x_tup, x_lst, x_app, x_and, x_or, x_not, x_if, x_box, x_get, x_sl, x_onone, x_osome, x_snil, x_scons, x_set, x_expr, x_ret, x_retB, x_sif, x_bk, x_ct, x_aug, x_asg, x_gname, x_gnil, x_gcons, x_gtup, mkt0, mkl0, mkt1, mkl1, mkt2, mkl2, mkt3, mkl3, mkt4, mkl4, mkt5, mkl5, mkt6, mkl6, mkt7, mkl7, v_il0, v_it0, v_il1, v_it1, v_il2, v_it2, v_il3, v_it3, v_il4, v_it4, v_il5, v_it5, v_add, v_addI, v_sub, v_neg, v_mul, v_fdv, v_mod, v_cmp, v_eqs, v_nes, v_eqi, v_nei, v_eqb, v_ixc, opt_some, v_lenl, v_lent, v_lenc, v_tupt, v_tupl, v_intb, v_inti, v_max, v_isn, v_isnn, end_rt, end_nx, fz_int, fz_str, fz_bl, fz_non, List.getElem?_cons_zero, List.getElem?_cons_succ, List.set_cons_zero, List.set_cons_succ, List.length_cons, List.length_nil, List.take_length, Option.map_some, oldLoc, Bool.false_and, Bool.and_false, Bool.true_and, Bool.and_true, Bool.not_true, Bool.not_false, Bool.false_eq_true, decide_true, decide_false, decide_eq_true_eq, if_true, if_false, ↓reduceIte, Nat.reduceAdd, Nat.reduceLeDiff, x_body, vr, v_rows1, va, vw, v0, k_wa, stepN, blkF]
        · by_cases hq : 1 < q
          · have hqd : decide (1 < q) = true := decide_eq_true hq
            have ha := fun s => v_addS (xs := aheadF (rs.drop (m + 1)) names) (ys := firstF bs) (s := s) (by have h1 := ahead_len (k.drop (m + 1)).ri names; have h2 : (firstF bs).length ≤ _ := firstF_ws kb.ri; omega)
            have hs : stepN rs names m (.again q bs) = aheadF (rs.drop (m + 1)) names ++ firstF bs := by unfold stepN; dsimp only; rw [if_pos hq]
            rw [hs]
            simp only [blkF] at vf vw
            simp -implicitDefEqProofs (disch := omega) only [x_raise, x_notL, end_ex, bind_ok, nox_ok, bind_ex, s_ex, sb_ex, s_ok, sb_nx, sb_rt, sb_ct, sb_bk, onB_bl, onBS_bl, x_var, x_c, x_bin, x_un, x_nil, x_cons, x_tup, x_lst, x_app, x_and, x_or, x_not, x_if, x_box, x_get, x_sl, x_onone, x_osome, x_snil, x_scons, x_set, x_expr, x_ret, x_retB, x_sif, x_bk, x_ct, x_aug, x_asg, x_gname, x_gnil, x_gcons, x_gtup, mkt0, mkl0, mkt1, mkl1, mkt2, mkl2, mkt3, mkl3, mkt4, mkl4, mkt5, mkl5, mkt6, mkl6, mkt7, mkl7, v_il0, v_it0, v_il1, v_it1, v_il2, v_it2, v_il3, v_it3, v_il4, v_it4, v_il5, v_it5, v_add, v_addI, v_sub, v_neg, v_mul, v_fdv, v_mod, v_cmp, v_eqs, v_nes, v_eqi, v_nei, v_eqb, v_ixc, opt_some, v_lenl, v_lent, v_lenc, v_tupt, v_tupl, v_intb, v_inti, v_max, v_isn, v_isnn, end_rt, end_nx, fz_int, fz_str, fz_bl, fz_non, List.getElem?_cons_zero, List.getElem?_cons_succ, List.set_cons_zero, List.set_cons_succ, List.length_cons, List.length_nil, List.take_length, Option.map_some, oldLoc, Bool.false_and, Bool.and_false, Bool.true_and, Bool.and_true, Bool.not_true, Bool.not_false, Bool.false_eq_true, decide_true, decide_false, decide_eq_true_eq, if_true, if_false, ↓reduceIte, Nat.reduceAdd, Nat.reduceLeDiff, x_body, vr, v_rows1, va, vw, vf, v_r0a, v_r1a, hqd, ha, blkF]
          · have hqd : decide (1 < q) = false := decide_eq_false hq
            have hs : stepN rs names m (.again q bs) = aheadF (rs.drop (m + 1)) names := by unfold stepN; dsimp only; rw [if_neg hq]
            rw [hs]
            simp -implicitDefEqProofs (disch := omega) only [x_raise, x_notL, end_ex, bind_ok, nox_ok, bind_ex, s_ex, sb_ex, s_ok, sb_nx, sb_rt, sb_ct, sb_bk, onB_bl, onBS_bl, x_var, x_c, x_bin, x_un, x_nil, x_cons, x_tup, x_lst, x_app, x_and, x_or, x_not, x_if, x_box, x_get, x_sl, x_onone, x_osome, x_snil, x_scons, x_set, x_expr, x_ret, x_retB, x_sif, x_bk, x_ct, x_aug, x_asg, x_gname, x_gnil, x_gcons, x_gtup, mkt0, mkl0, mkt1, mkl1, mkt2, mkl2, mkt3, mkl3, mkt4, mkl4, mkt5, mkl5, mkt6, mkl6, mkt7, mkl7, v_il0, v_it0, v_il1, v_it1, v_il2, v_it2, v_il3, v_it3, v_il4, v_it4, v_il5, v_it5, v_add, v_addI, v_sub, v_neg, v_mul, v_fdv, v_mod, v_cmp, v_eqs, v_nes, v_eqi, v_nei, v_eqb, v_ixc, opt_some, v_lenl, v_lent, v_lenc, v_tupt, v_tupl, v_intb, v_inti, v_max, v_isn, v_isnn, end_rt, end_nx, fz_int, fz_str, fz_bl, fz_non, List.getElem?_cons_zero, List.getElem?_cons_succ, List.set_cons_zero, List.set_cons_succ, List.length_cons, List.length_nil, List.take_length, Option.map_some, oldLoc, Bool.false_and, Bool.and_false, Bool.true_and, Bool.and_true, Bool.not_true, Bool.not_false, Bool.false_eq_true, decide_true, decide_false, decide_eq_true_eq, if_true, if_false, ↓reduceIte, Nat.reduceAdd, Nat.reduceLeDiff, x_body, vr, v_rows1, va, vw, v_r0a, v_r1a, hqd, blkF]
      rw [List.map_cons, forL_cons, hbody]
      exact e1
    · rw [needN, hr]
      exact e2 j
theorem around_loop {m0 : Nat} (hm : 2 ≤ m0) {a b : Option PV} {st : VSt} : ∀ (ms : List Nat) (rs qs : List Row) (z : Option PV), walkR rs ms = some qs →
    ∃ z', forL (bodyP (gName 3) (fb__rows_around_0 (Fm D m0))) (ms.map fun (k : Nat) => PV.int (k : Int)) [a, b, some (.tup (Row.pvs rs)), z] st = .nx [a, b, some (.tup (Row.pvs qs)), z'] st
  | [], rs, qs, z, h => by cases h; exact ⟨z, rfl⟩
  | m :: ms, rs, qs, z, h => by
    obtain ⟨r, hr, hb, hw2⟩ := walk_cons h
    obtain ⟨z', e⟩ := around_loop hm (a := a) (b := b) (st := st) ms (blkF r) qs (some (.int (m : Int))) hw2
    refine ⟨z', ?_⟩
    have vr := fun s => v_rowt (st := s) hr
    have vw := fun s => F_rows_within (n := m0) hm r s
    have vh := fun s => F_has_rows (n := m0) (by omega) r s
    rw [hb] at vh
    have hlt := (List.getElem?_eq_some_iff.mp hr).1
    have hlen : (Row.pvs rs).length = rs.length := by rw [pvs_map, List.length_map]
    have d1 : decide ((0 : Int) ≤ (m : Int)) = true := decide_eq_true (by omega)
    have d2 : decide ((m : Int) < (rs.length : Int)) = true := decide_eq_true (by omega)
    have hbody : bodyP (gName 3) (fb__rows_around_0 (Fm D m0)) (.int (m : Int)) [a, b, some (.tup (Row.pvs rs)), z] st = .nx [a, b, some (.tup (Row.pvs (blkF r))), some (.int (m : Int))] st := by
      unfold fb__rows_around_0 eChain
      simp -implicitDefEqProofs (disch := omega) only [x_raise, x_notL, end_ex, bind_ok, nox_ok, bind_ex, s_ex, sb_ex, s_ok, sb_nx, sb_rt, sb_ct, sb_bk, onB_bl, onBS_bl, x_var, x_c, x_bin, x_un, x_nil, x_cons, x_tup, x_lst, x_app, x_and, x_or, x_not, x_if, x_box, x_get, x_sl, x_onone, x_osome, x_snil, x_scons, x_set, x_expr, x_ret, x_retB, x_sif, x_bk, x_ct, x_aug, x_asg, x_gname, x_gnil, x_gcons, x_gtup, mkt0, mkl0, mkt1, mkl1, mkt2, mkl2, mkt3, mkl3, mkt4, mkl4, mkt5, mkl5, mkt6, mkl6, mkt7, mkl7, v_il0, v_it0, v_il1, v_it1, v_il2, v_it2, v_il3, v_it3, v_il4, v_it4, v_il5, v_it5, v_add, v_addI, v_sub, v_neg, v_mul, v_fdv, v_mod, v_cmp, v_eqs, v_nes, v_eqi, v_nei, v_eqb, v_ixc, opt_some, v_lenl, v_lent, v_lenc, v_tupt, v_tupl, v_intb, v_inti, v_max, v_isn, v_isnn, end_rt, end_nx, fz_int, fz_str, fz_bl, fz_non, List.getElem?_cons_zero, List.getElem?_cons_succ, List.set_cons_zero, List.set_cons_succ, List.length_cons, List.length_nil, List.take_length, Option.map_some, oldLoc, Bool.false_and, Bool.and_false, Bool.true_and, Bool.and_true, Bool.not_true, Bool.not_false, Bool.false_eq_true, decide_true, decide_false, decide_eq_true_eq, if_true, if_false, ↓reduceIte, Nat.reduceAdd, Nat.reduceLeDiff, x_body, vr, vw, vh, hlen, d1, d2]
    rw [List.map_cons, forL_cons, hbody]
    exact e
theorem F_around {fs : List Fnc} {i : Nat} {ms : List Nat} {j : Nat} {f : Fnc} {qs : List Row} (hf : fs[i]? = some f) (hq : walkR f.rows ms = some qs) {n : Nat} (h : 3 ≤ n) (st : VSt) :
    Fm D n i__rows_around [.tup (fs.map Fnc.pv), plV (plI i ms j)] st = .ok (.tup (Row.pvs qs)) st := by
  obtain ⟨m, rfl⟩ := ge_add (k := 1) (n := n) (by omega)
  rw [c__rows_around, b__rows_around_q]
  obtain ⟨z, lp⟩ := around_loop (m0 := m) (by omega) (a := some (.tup (fs.map Fnc.pv))) (b := some (plV (plI i ms j))) (st := st) ms f.rows qs none hq
  have hfor := for_tup (a := eSl (eVar 1) (oSome (eC (.int 1))) (oSome (eUn vNeg (eC (.int 1))))) (g := gName 3) (body := fb__rows_around_0 (Fm D m)) (xs := ms.map fun (k : Nat) => PV.int (k : Int)) (env := [some (.tup (fs.map Fnc.pv)), some (plV (plI i ms j)), some (.tup (Row.pvs f.rows)), none]) (st := st) (st' := st) (by simp -implicitDefEqProofs (disch := omega) only [x_raise, x_notL, end_ex, bind_ok, nox_ok, bind_ex, s_ex, sb_ex, s_ok, sb_nx, sb_rt, sb_ct, sb_bk, onB_bl, onBS_bl, x_var, x_c, x_bin, x_un, x_nil, x_cons, x_tup, x_lst, x_app, x_and, x_or, x_not, x_if, x_box, x_get, x_sl, x_onone, x_osome, x_snil, x_scons, x_set, x_expr, x_ret, x_retB, x_sif, x_bk, x_ct, x_aug, x_asg, x_gname, x_gnil, x_gcons, x_gtup, mkt0, mkl0, mkt1, mkl1, mkt2, mkl2, mkt3, mkl3, mkt4, mkl4, mkt5, mkl5, mkt6, mkl6, mkt7, mkl7, v_il0, v_it0, v_il1, v_it1, v_il2, v_it2, v_il3, v_it3, v_il4, v_it4, v_il5, v_it5, v_add, v_addI, v_sub, v_neg, v_mul, v_fdv, v_mod, v_cmp, v_eqs, v_nes, v_eqi, v_nei, v_eqb, v_ixc, opt_some, v_lenl, v_lent, v_lenc, v_tupt, v_tupl, v_intb, v_inti, v_max, v_isn, v_isnn, end_rt, end_nx, fz_int, fz_str, fz_bl, fz_non, List.getElem?_cons_zero, List.getElem?_cons_succ, List.set_cons_zero, List.set_cons_succ, List.length_cons, List.length_nil, List.take_length, Option.map_some, oldLoc, Bool.false_and, Bool.and_false, Bool.true_and, Bool.and_true, Bool.not_true, Bool.not_false, Bool.false_eq_true, decide_true, decide_false, decide_eq_true_eq, if_true, if_false, ↓reduceIte, Nat.reduceAdd, Nat.reduceLeDiff, v_way])
  rw [lp] at hfor
  have hlt := (List.getElem?_eq_some_iff.mp hf).1
  have hlen : (fs.map Fnc.pv).length = fs.length := List.length_map _
  have d0 : decide (((ms.length + 2 : Nat) : Int) < 2) = false := decide_eq_false (by omega)
  have d1 : decide ((0 : Int) ≤ (i : Int)) = true := decide_eq_true (by omega)
  have d2 : decide ((i : Int) < (fs.length : Int)) = true := decide_eq_true (by omega)
  have vf := fun s => v_fnct (st := s) hf
  have fz : freeze st st.length (.tup (Row.pvs qs)) = .tup (Row.pvs qs) := freeze_pure _ (Row.pures qs)
  unfold q__rows_around_0 q__rows_around_1 q__rows_around_2 q__rows_around_3 eChain
  simp -implicitDefEqProofs (disch := omega) only [x_raise, x_notL, end_ex, bind_ok, nox_ok, bind_ex, s_ex, sb_ex, s_ok, sb_nx, sb_rt, sb_ct, sb_bk, onB_bl, onBS_bl, x_var, x_c, x_bin, x_un, x_nil, x_cons, x_tup, x_lst, x_app, x_and, x_or, x_not, x_if, x_box, x_get, x_sl, x_onone, x_osome, x_snil, x_scons, x_set, x_expr, x_ret, x_retB, x_sif, x_bk, x_ct, x_aug, x_asg, x_gname, x_gnil, x_gcons, x_gtup, mkt0, mkl0, mkt1, mkl1, mkt2, mkl2, mkt3, mkl3, mkt4, mkl4, mkt5, mkl5, mkt6, mkl6, mkt7, mkl7, v_il0, v_it0, v_il1, v_it1, v_il2, v_it2, v_il3, v_it3, v_il4, v_it4, v_il5, v_it5, v_add, v_addI, v_sub, v_neg, v_mul, v_fdv, v_mod, v_cmp, v_eqs, v_nes, v_eqi, v_nei, v_eqb, v_ixc, opt_some, v_lenl, v_lent, v_lenc, v_tupt, v_tupl, v_intb, v_inti, v_max, v_isn, v_isnn, end_rt, end_nx, fz_int, fz_str, fz_bl, fz_non, List.getElem?_cons_zero, List.getElem?_cons_succ, List.set_cons_zero, List.set_cons_succ, List.length_cons, List.length_nil, List.take_length, Option.map_some, oldLoc, Bool.false_and, Bool.and_false, Bool.true_and, Bool.and_true, Bool.not_true, Bool.not_false, Bool.false_eq_true, decide_true, decide_false, decide_eq_true_eq, if_true, if_false, ↓reduceIte, Nat.reduceAdd, Nat.reduceLeDiff, v_plen, v_p0, hlen, d0, d1, d2, vf, v_f2, hfor, fz]
theorem F_row_at {fs : List Fnc} {i : Nat} {ms : List Nat} {j : Nat} {f : Fnc} {qs : List Row} {r : Row} (hf : fs[i]? = some f) (hq : walkR f.rows ms = some qs) (hr : qs[j]? = some r) {n : Nat} (h : 5 ≤ n) (st : VSt) :
    Fm D n i_row_at [.tup (fs.map Fnc.pv), plV (plI i ms j)] st = .ok r.pv st := by
  obtain ⟨m, rfl⟩ := ge_add (k := 2) (n := n) (by omega)
  rw [c_row_at, b_row_at_q]
  have hlt := (List.getElem?_eq_some_iff.mp hr).1
  have hlen : (Row.pvs qs).length = qs.length := by rw [pvs_map, List.length_map]
  have va := fun s => F_around (j := j) hf hq (n := m) (by omega) s
  have e1 : cutP (Row.pvs qs) (some (j : Int)) (some ((j : Int) + 1)) = [r.pv] := by
    unfold cutP
    rw [show ((j : Int) + 1) = ((j + 1 : Nat) : Int) by omega, HT.sIx_nat, HT.sIx_nat, hlen, Nat.min_eq_left (by omega), Nat.min_eq_left (by omega), pvs_map, Nat.add_sub_cancel_left, List.drop_eq_getElem_cons (by rw [List.length_map]; exact hlt)]
    obtain ⟨_, er⟩ := List.getElem?_eq_some_iff.mp hr
    rw [List.getElem_map, er]; rfl
  have vs : ∀ s, Fm D (m + 1) i_rows_from [.tup (fs.map Fnc.pv), plV (plI i ms j), .int 1] s = .ok (.tup [r.pv]) s := fun s => by
    rw [c_rows_from, b_rows_from_q]
    have d1 : decide ((j : Int) < 0) = false := decide_eq_false (by omega)
    have d2 : decide ((1 : Int) < 0) = false := decide_eq_false (by omega)
    have d3 : decide (((qs.length : Nat) : Int) < (j : Int) + 1) = false := decide_eq_false (by omega)
    have fz : freeze s s.length (.tup [r.pv]) = .tup [r.pv] := by rw [fz_tup, fzs_cons, fzs_nil, fz_row]
    unfold q_rows_from_0 q_rows_from_1 q_rows_from_2 q_rows_from_3
    simp -implicitDefEqProofs (disch := omega) only [x_raise, x_notL, end_ex, bind_ok, nox_ok, bind_ex, s_ex, sb_ex, s_ok, sb_nx, sb_rt, sb_ct, sb_bk, onB_bl, onBS_bl, x_var, x_c, x_bin, x_un, x_nil, x_cons, x_tup, x_lst, x_app, x_and, x_or, x_not, x_if, x_box, x_get, x_sl, x_onone, x_osome, x_snil, x_scons, x_set, x_expr, x_ret, x_retB, x_sif, x_bk, x_ct, x_aug, x_asg, x_gname, x_gnil, x_gcons, x_gtup, mkt0, mkl0, mkt1, mkl1, mkt2, mkl2, mkt3, mkl3, mkt4, mkl4, mkt5, mkl5, mkt6, mkl6, mkt7, mkl7, v_il0, v_it0, v_il1, v_it1, v_il2, v_it2, v_il3, v_it3, v_il4, v_it4, v_il5, v_it5, v_add, v_addI, v_sub, v_neg, v_mul, v_fdv, v_mod, v_cmp, v_eqs, v_nes, v_eqi, v_nei, v_eqb, v_ixc, opt_some, v_lenl, v_lent, v_lenc, v_tupt, v_tupl, v_intb, v_inti, v_max, v_isn, v_isnn, end_rt, end_nx, fz_int, fz_str, fz_bl, fz_non, List.getElem?_cons_zero, List.getElem?_cons_succ, List.set_cons_zero, List.set_cons_succ, List.length_cons, List.length_nil, List.take_length, Option.map_some, oldLoc, Bool.false_and, Bool.and_false, Bool.true_and, Bool.and_true, Bool.not_true, Bool.not_false, Bool.false_eq_true, decide_true, decide_false, decide_eq_true_eq, if_true, if_false, ↓reduceIte, Nat.reduceAdd, Nat.reduceLeDiff, va, v_pl, hlen, d1, d2, d3, v_slt, e1, fz]
  unfold q_row_at_0
  simp -implicitDefEqProofs (disch := omega) only [x_raise, x_notL, end_ex, bind_ok, nox_ok, bind_ex, s_ex, sb_ex, s_ok, sb_nx, sb_rt, sb_ct, sb_bk, onB_bl, onBS_bl, x_var, x_c, x_bin, x_un, x_nil, x_cons, x_tup, x_lst, x_app, x_and, x_or, x_not, x_if, x_box, x_get, x_sl, x_onone, x_osome, x_snil, x_scons, x_set, x_expr, x_ret, x_retB, x_sif, x_bk, x_ct, x_aug, x_asg, x_gname, x_gnil, x_gcons, x_gtup, mkt0, mkl0, mkt1, mkl1, mkt2, mkl2, mkt3, mkl3, mkt4, mkl4, mkt5, mkl5, mkt6, mkl6, mkt7, mkl7, v_il0, v_it0, v_il1, v_it1, v_il2, v_it2, v_il3, v_it3, v_il4, v_it4, v_il5, v_it5, v_add, v_addI, v_sub, v_neg, v_mul, v_fdv, v_mod, v_cmp, v_eqs, v_nes, v_eqi, v_nei, v_eqb, v_ixc, opt_some, v_lenl, v_lent, v_lenc, v_tupt, v_tupl, v_intb, v_inti, v_max, v_isn, v_isnn, end_rt, end_nx, fz_int, fz_str, fz_bl, fz_non, List.getElem?_cons_zero, List.getElem?_cons_succ, List.set_cons_zero, List.set_cons_succ, List.length_cons, List.length_nil, List.take_length, Option.map_some, oldLoc, Bool.false_and, Bool.and_false, Bool.true_and, Bool.and_true, Bool.not_true, Bool.not_false, Bool.false_eq_true, decide_true, decide_false, decide_eq_true_eq, if_true, if_false, ↓reduceIte, Nat.reduceAdd, Nat.reduceLeDiff, vs, fz_row]
theorem F_needed {ws : List Str} (hw : ws.length < 64) {L : Nat} {fs : List Fnc} {i : Nat} {ms : List Nat} {j : Nat} {f : Fnc} {qs : List Row} {r : Row} (hf : fs[i]? = some f) (k : RowsOk ws L f.rows) (hq : walkR f.rows ms = some qs) (hr : qs[j]? = some r)
    (ti : ∀ y ∈ f.res.names, y ∈ ws) (tz : f.res.size ≤ 50000) (td : f.res.depth ≤ 2) (hl : 2 * ws.length * ms.length ≤ 50000) {n : Nat} (h : 2 * L + 11 ≤ n) (st : VSt) :
    Fm D n i_needed [.tup (fs.map Fnc.pv), plV (plI i ms j)] st = .ok (.lst ((srtS (oneS (needN f.rows f.res.once ms j))).map PV.str)) st := by
  obtain ⟨m, rfl⟩ := ge_add (k := 1) (n := n) (by omega)
  rw [c_needed, b_needed_q]
  have oi : ∀ y ∈ f.res.once, y ∈ ws := fun y hy => ti y (mem_once.mp hy)
  have ol := once_len f.res
  obtain ⟨names', z, z2, lp, e2, e3, e4⟩ := need_loop hw (m0 := m) (by omega) (a := some (.tup (fs.map Fnc.pv))) (b := some (plV (plI i ms j))) (c := some f.pv) (st := st) ms f.rows qs f.res.once none none k hq oi (by omega)
  have hfor := for_tup (a := eSl (eVar 1) (oSome (eC (.int 1))) (oSome (eUn vNeg (eC (.int 1))))) (g := gName 5) (body := fb_needed_0 (Fm D m)) (xs := ms.map fun (k : Nat) => PV.int (k : Int)) (env := [some (.tup (fs.map Fnc.pv)), some (plV (plI i ms j)), some f.pv, some (.tup (Row.pvs f.rows)), some (.lst (f.res.once.map PV.str)), none, none]) (st := st) (st' := st) (by simp -implicitDefEqProofs (disch := omega) only [x_raise, x_notL, end_ex, bind_ok, nox_ok, bind_ex, s_ex, sb_ex, s_ok, sb_nx, sb_rt, sb_ct, sb_bk, onB_bl, onBS_bl, x_var, x_c, x_bin, x_un, x_nil, x_cons, x_tup, x_lst, x_app, x_and, x_or, x_not, x_if, x_box, x_get, x_sl, x_onone, x_osome, x_snil, x_scons, x_set, x_expr, x_ret, x_retB, x_sif, x_bk, x_ct, x_aug, x_asg, x_gname, x_gnil, x_gcons, x_gtup, mkt0, mkl0, mkt1, mkl1, mkt2, mkl2, mkt3, mkl3, mkt4, mkl4, mkt5, mkl5, mkt6, mkl6, mkt7, mkl7, v_il0, v_it0, v_il1, v_it1, v_il2, v_it2, v_il3, v_it3, v_il4, v_it4, v_il5, v_it5, v_add, v_addI, v_sub, v_neg, v_mul, v_fdv, v_mod, v_cmp, v_eqs, v_nes, v_eqi, v_nei, v_eqb, v_ixc, opt_some, v_lenl, v_lent, v_lenc, v_tupt, v_tupl, v_intb, v_inti, v_max, v_isn, v_isnn, end_rt, end_nx, fz_int, fz_str, fz_bl, fz_non, List.getElem?_cons_zero, List.getElem?_cons_succ, List.set_cons_zero, List.set_cons_succ, List.length_cons, List.length_nil, List.take_length, Option.map_some, oldLoc, Bool.false_and, Bool.and_false, Bool.true_and, Bool.and_true, Bool.not_true, Bool.not_false, Bool.false_eq_true, decide_true, decide_false, decide_eq_true_eq, if_true, if_false, ↓reduceIte, Nat.reduceAdd, Nat.reduceLeDiff, v_way])
  rw [lp] at hfor
  have vra := fun s => F_row_at hf hq hr (n := m) (by omega) s
  have vf := fun s => v_fnct (st := s) hf
  have v3 : ∀ s, vIx f.pv (.int 3) s = .ok f.res.pv s := fun s => v_it3
  have vn := fun s => F_nin (n := m) f.res (by omega) (by omega) s
  have kq := k.walk hq
  have va := fun s => F_ahead hw (kq.drop (j + 1)) (names := names') (by omega) (n := m) (by omega) s
  rw [← e2 j] at va
  have hin := need_in ms (j := j) k oi
  have v1 : ∀ s, vSet [.lst ((needN f.rows f.res.once ms j).map PV.str)] s = .ok (.sset (oneS (needN f.rows f.res.once ms j))) s := fun s => v_set rfl (by have := oneS_ws hin; omega)
  have v2 : ∀ s, vSorted [.sset (oneS (needN f.rows f.res.once ms j))] s = .ok (.lst ((srtS (oneS (needN f.rows f.res.once ms j))).map PV.str)) s := fun s => v_sorteds rfl (by have := oneS_ws hin; omega)
  have fz := fz_strs (s := st) (k := st.length) (srtS (oneS (needN f.rows f.res.once ms j)))
  have ol2 : oldLoc st.length (.lst ((srtS (oneS (needN f.rows f.res.once ms j))).map PV.str)) = false := rfl
  unfold q_needed_0 q_needed_1 q_needed_2 q_needed_3 q_needed_4 q_needed_5
  simp -implicitDefEqProofs (disch := omega) only [x_raise, x_notL, end_ex, bind_ok, nox_ok, bind_ex, s_ex, sb_ex, s_ok, sb_nx, sb_rt, sb_ct, sb_bk, onB_bl, onBS_bl, x_var, x_c, x_bin, x_un, x_nil, x_cons, x_tup, x_lst, x_app, x_and, x_or, x_not, x_if, x_box, x_get, x_sl, x_onone, x_osome, x_snil, x_scons, x_set, x_expr, x_ret, x_retB, x_sif, x_bk, x_ct, x_aug, x_asg, x_gname, x_gnil, x_gcons, x_gtup, mkt0, mkl0, mkt1, mkl1, mkt2, mkl2, mkt3, mkl3, mkt4, mkl4, mkt5, mkl5, mkt6, mkl6, mkt7, mkl7, v_il0, v_it0, v_il1, v_it1, v_il2, v_it2, v_il3, v_it3, v_il4, v_it4, v_il5, v_it5, v_add, v_addI, v_sub, v_neg, v_mul, v_fdv, v_mod, v_cmp, v_eqs, v_nes, v_eqi, v_nei, v_eqb, v_ixc, opt_some, v_lenl, v_lent, v_lenc, v_tupt, v_tupl, v_intb, v_inti, v_max, v_isn, v_isnn, end_rt, end_nx, fz_int, fz_str, fz_bl, fz_non, List.getElem?_cons_zero, List.getElem?_cons_succ, List.set_cons_zero, List.set_cons_succ, List.length_cons, List.length_nil, List.take_length, Option.map_some, oldLoc, Bool.false_and, Bool.and_false, Bool.true_and, Bool.and_true, Bool.not_true, Bool.not_false, Bool.false_eq_true, decide_true, decide_false, decide_eq_true_eq, if_true, if_false, ↓reduceIte, Nat.reduceAdd, Nat.reduceLeDiff, vra, vf, v_f2, v3, vn, v_p0, v_pl, hfor, v_rows1, va, v1, v2, fz, ol2]
end Lk


namespace Lk
open PySem L2 Vm
/-! ## the law's own needed, for one name -/
theorem mem_ahead {x : Str} {rs : List Row} {names : List Str} : x ∈ aheadF rs names ↔ x ∈ firstF rs ∨ (x ∉ sureF rs ∧ x ∈ names) := by
  unfold aheadF
  rw [List.mem_append, List.mem_filter, Bool.not_eq_true', decide_eq_false_iff_not]
  exact or_congr Iff.rfl ⟨fun h => ⟨h.2, h.1⟩, fun h => ⟨h.2, h.1⟩⟩
theorem ahead_congr {x : Str} {rs : List Row} {a b : List Str} (h : x ∈ a ↔ x ∈ b) : x ∈ aheadF rs a ↔ x ∈ aheadF rs b := by rw [mem_ahead, mem_ahead, h]
theorem step_congr {x : Str} {rs : List Row} {a b : List Str} {m : Nat} {r : Row} (h : x ∈ a ↔ x ∈ b) : x ∈ stepN rs a m r ↔ x ∈ stepN rs b m r := by
  have h1 := ahead_congr (rs := rs.drop (m + 1)) h
  cases r with
  | again c bs =>
    unfold stepN
    dsimp only
    split
    · rw [List.mem_append, List.mem_append, h1]
    · exact h1
  | _ => exact h1
theorem need_congr {x : Str} : ∀ (ms : List Nat) {rs : List Row} {a b : List Str} {j : Nat}, (x ∈ a ↔ x ∈ b) → (x ∈ needN rs a ms j ↔ x ∈ needN rs b ms j)
  | [], rs, a, b, j, h => ahead_congr h
  | m :: ms, rs, a, b, j, h => by
    rw [needN, needN]
    cases rs[m]? with
    | none => exact Iff.rfl
    | some r => exact need_congr ms (step_congr h)
theorem b_ahead {x : Str} {rs : List Row} {names : List Str} : (decide (x ∈ firstF rs) || (!decide (x ∈ sureF rs) && decide (x ∈ names))) = decide (x ∈ aheadF rs names) := by
  rw [Bool.eq_iff_iff, decide_eq_true_eq, mem_ahead, Bool.or_eq_true, Bool.and_eq_true, Bool.not_eq_true', decide_eq_true_eq, decide_eq_true_eq, decide_eq_false_iff_not]
theorem if_oa {a b l : Bool} {s : VSt} : (if a = true then Res.ok (PV.bl true) s else if b = true then Res.ok (PV.bl l) s else Res.ok (PV.bl false) s) = .ok (.bl (a || (b && l))) s := by cases a <;> cases b <;> cases l <;> rfl
theorem if_or {a b : Bool} {s : VSt} : (if a = true then Res.ok (PV.bl true) s else Res.ok (PV.bl b) s) = .ok (.bl (a || b)) s := by cases a <;> rfl
/-! ## the places of all rows -/
theorem walk_snoc {qs all : List Row} : ∀ {ms : List Nat} {rs : List Row} {k : Nat} {r : Row}, walkR rs ms = some all → all[k]? = some r → hasB r = true → walkR rs (ms ++ [k]) = some (blkF r)
  | [], rs, k, r, h, hr, hb => by
    cases h
    rw [List.nil_append]
    unfold walkR
    rw [hr]
    dsimp only
    rw [if_pos hb]
    rfl
  | m :: ms, rs, k, r, h, hr, hb => by
    obtain ⟨s, hs, hsb, hw⟩ := walk_cons h
    rw [List.cons_append]
    unfold walkR
    rw [hs]
    dsimp only
    rw [if_pos hsb]
    exact walk_snoc (qs := qs) hw hr hb
mutual
theorem plcL_way (i : Nat) (ms : List Nat) : ∀ (k : Nat) (qs : List Row) (rs all : List Row), all.drop k = rs → walkR qs ms = some all → ∀ p ∈ plcL ((i : Int) :: ms.map fun (k : Nat) => (k : Int)) (k : Int) rs, ∃ ms' j qs', p.1 = plI i ms' j ∧ walkR qs ms' = some qs' ∧ qs'[j]? = some p.2 ∧ ms'.length ≤ ms.length + Row.lvls rs
  | k, qs, [], all, _, _, p, h => by rw [plcL_nil] at h; cases h
  | k, qs, r :: rs, all, hd, hw, p, h => by
    have hi : all[k]? = some r := by
      have := congrArg List.head? hd
      rw [List.head?_drop] at this
      exact this
    have hd' : all.drop (k + 1) = rs := by rw [← List.tail_drop, hd]; rfl
    rw [lvls_cons]
    rw [plcL_cons] at h
    rcases List.mem_cons.mp h with rfl | h
    · exact ⟨ms, k, all, rfl, hw, hi, by omega⟩
    · rcases List.mem_append.mp h with h | h
      · obtain ⟨ms', j, qs', h1, h2, h3, h4⟩ := plcR_way i ms k qs all r hi hw p h
        exact ⟨ms', j, qs', h1, h2, h3, by omega⟩
      · have e : ((k : Int) + 1) = ((k + 1 : Nat) : Int) := by omega
        rw [e] at h
        obtain ⟨ms', j, qs', h1, h2, h3, h4⟩ := plcL_way i ms (k + 1) qs rs all hd' hw p h
        exact ⟨ms', j, qs', h1, h2, h3, by omega⟩
theorem plcR_way (i : Nat) (ms : List Nat) : ∀ (k : Nat) (qs all : List Row) (r : Row), all[k]? = some r → walkR qs ms = some all → ∀ p ∈ plcR (((i : Int) :: ms.map fun (k : Nat) => (k : Int)) ++ [(k : Int)]) r, ∃ ms' j qs', p.1 = plI i ms' j ∧ walkR qs ms' = some qs' ∧ qs'[j]? = some p.2 ∧ ms'.length ≤ ms.length + r.lvl
  | k, qs, all, .when t rs, hr, hw, p, h => by
    rw [plcR] at h
    have e : (((i : Int) :: ms.map fun (k : Nat) => (k : Int)) ++ [(k : Int)]) = (i : Int) :: (ms ++ [k]).map fun (k : Nat) => (k : Int) := by simp
    rw [e] at h
    obtain ⟨ms', j, qs', h1, h2, h3, h4⟩ := plcL_way i (ms ++ [k]) 0 qs rs rs rfl (walk_snoc (qs := qs) hw hr rfl) p h
    exact ⟨ms', j, qs', h1, h2, h3, by rw [lvl_when]; rw [List.length_append] at h4; simp at h4; omega⟩
  | k, qs, all, .again c rs, hr, hw, p, h => by
    rw [plcR] at h
    have e : (((i : Int) :: ms.map fun (k : Nat) => (k : Int)) ++ [(k : Int)]) = (i : Int) :: (ms ++ [k]).map fun (k : Nat) => (k : Int) := by simp
    rw [e] at h
    obtain ⟨ms', j, qs', h1, h2, h3, h4⟩ := plcL_way i (ms ++ [k]) 0 qs rs rs rfl (walk_snoc (qs := qs) hw hr rfl) p h
    exact ⟨ms', j, qs', h1, h2, h3, by rw [lvl_again]; rw [List.length_append] at h4; simp at h4; omega⟩
  | k, qs, all, .set _ _, hr, hw, p, h => by rw [plcR] at h; cases h
  | k, qs, all, .tell _, hr, hw, p, h => by rw [plcR] at h; cases h
  | k, qs, all, .call _ _ _, hr, hw, p, h => by rw [plcR] at h; cases h
end
theorem allF_way {fs : List Fnc} : ∀ (gs : List Fnc) (k : Nat), fs.drop k = gs → ∀ p ∈ allF (k : Int) gs, ∃ i ms j f qs, p.1 = plI i ms j ∧ fs[i]? = some f ∧ walkR f.rows ms = some qs ∧ qs[j]? = some p.2 ∧ ms.length ≤ Row.lvls f.rows
  | [], k, _, p, h => by cases h
  | g :: gs, k, hd, p, h => by
    have hi : fs[k]? = some g := by
      have := congrArg List.head? hd
      rw [List.head?_drop] at this
      exact this
    have hd' : fs.drop (k + 1) = gs := by rw [← List.tail_drop, hd]; rfl
    rcases List.mem_append.mp (show p ∈ plcL [(k : Int)] 0 g.rows ++ allF ((k : Int) + 1) gs from h) with h | h
    · obtain ⟨ms', j, qs', h1, h2, h3, h4⟩ := plcL_way k [] 0 g.rows g.rows g.rows rfl rfl p h
      exact ⟨k, ms', j, g, qs', h1, hi, h2, h3, by simpa using h4⟩
    · have e : ((k : Int) + 1) = ((k + 1 : Nat) : Int) := by omega
      rw [e] at h
      exact allF_way gs (k + 1) hd' p h
end Lk


namespace Lk
open PySem L2 Vm
/-! ## a place, whatever it is -/
def aroundF : List Row → List Int → Option (List Row)
  | rs, [] => some rs
  | rs, k :: ks => if 0 ≤ k ∧ k < (rs.length : Int) then match rs[k.toNat]? with
      | some r => if hasB r = true then aroundF (blkF r) ks else none
      | none => none
    else none
theorem around_loopG {m0 : Nat} (hm : 2 ≤ m0) {a b : Option PV} {st : VSt} : ∀ (ks : List Int) (rs : List Row) (z : Option PV),
    (∀ qs, aroundF rs ks = some qs → ∃ z', forL (bodyP (gName 3) (fb__rows_around_0 (Fm D m0))) (ks.map PV.int) [a, b, some (.tup (Row.pvs rs)), z] st = .nx [a, b, some (.tup (Row.pvs qs)), z'] st) ∧
    (aroundF rs ks = none → forL (bodyP (gName 3) (fb__rows_around_0 (Fm D m0))) (ks.map PV.int) [a, b, some (.tup (Row.pvs rs)), z] st = .ex 0 [] st)
  | [], rs, z => ⟨fun qs h => by cases h; exact ⟨z, rfl⟩, fun h => by cases h⟩
  | k :: ks, rs, z => by
    have hlen : (Row.pvs rs).length = rs.length := by rw [pvs_map, List.length_map]
    by_cases h0 : 0 ≤ k
    · by_cases h1 : k < (rs.length : Int)
      · have d1 : decide ((0 : Int) ≤ k) = true := decide_eq_true h0
        have d2 : decide (k < (rs.length : Int)) = true := decide_eq_true h1
        have hlt : k.toNat < rs.length := by omega
        have hr : rs[k.toNat]? = some rs[k.toNat] := List.getElem?_eq_getElem hlt
        have ek : ((k.toNat : Nat) : Int) = k := by omega
        have vr := fun s => v_rowt (st := s) hr
        rw [ek] at vr
        have vw := fun s => F_rows_within (n := m0) hm rs[k.toNat] s
        have vh := fun s => F_has_rows (n := m0) (by omega) rs[k.toNat] s
        have ea : aroundF rs (k :: ks) = if hasB rs[k.toNat] = true then aroundF (blkF rs[k.toNat]) ks else none := by
          rw [aroundF, if_pos ⟨h0, h1⟩, hr]
        by_cases hb : hasB rs[k.toNat] = true
        · rw [ea, if_pos hb]
          rw [hb] at vh
          have hbody : bodyP (gName 3) (fb__rows_around_0 (Fm D m0)) (.int k) [a, b, some (.tup (Row.pvs rs)), z] st = .nx [a, b, some (.tup (Row.pvs (blkF rs[k.toNat]))), some (.int k)] st := by
            unfold fb__rows_around_0
            simp -implicitDefEqProofs (disch := omega) only [x_raise, x_notL, end_ex, bind_ok, nox_ok, bind_ex, s_ex, sb_ex, s_ok, sb_nx, sb_rt, sb_ct, sb_bk, onB_bl, onBS_bl, x_var, x_c, x_bin, x_un, x_nil, x_cons, x_tup, x_lst, x_app, x_and, x_or, x_not, x_if, x_box, x_get, x_sl, x_onone, x_osome, x_snil, x_scons, x_set, x_expr, x_ret, x_retB, x_sif, x_bk, x_ct, x_aug, x_asg, x_gname, x_gnil, x_gcons, x_gtup, mkt0, mkl0, mkt1, mkl1, mkt2, mkl2, mkt3, mkl3, mkt4, mkl4, mkt5, mkl5, mkt6, mkl6, mkt7, mkl7, v_il0, v_it0, v_il1, v_it1, v_il2, v_it2, v_il3, v_it3, v_il4, v_it4, v_il5, v_it5, v_add, v_addI, v_sub, v_neg, v_mul, v_fdv, v_mod, v_cmp, v_eqs, v_nes, v_eqi, v_nei, v_eqb, v_ixc, opt_some, v_lenl, v_lent, v_lenc, v_tupt, v_tupl, v_intb, v_inti, v_max, v_isn, v_isnn, end_rt, end_nx, fz_int, fz_str, fz_bl, fz_non, List.getElem?_cons_zero, List.getElem?_cons_succ, List.set_cons_zero, List.set_cons_succ, List.length_cons, List.length_nil, List.take_length, Option.map_some, oldLoc, Bool.false_and, Bool.and_false, Bool.true_and, Bool.and_true, Bool.not_true, Bool.not_false, Bool.false_eq_true, decide_true, decide_false, decide_eq_true_eq, if_true, if_false, ↓reduceIte, Nat.reduceAdd, Nat.reduceLeDiff, x_chain, x_body, vr, vw, vh, hlen, d1, d2]
          obtain ⟨e1, e2⟩ := around_loopG hm (a := a) (b := b) (st := st) ks (blkF rs[k.toNat]) (some (.int k))
          rw [List.map_cons, forL_cons, hbody]
          exact ⟨e1, e2⟩
        · rw [ea, if_neg hb]
          have hb' : hasB rs[k.toNat] = false := by simpa using hb
          rw [hb'] at vh
          refine ⟨fun qs h => (by cases h), fun _ => ?_⟩
          have hbody : bodyP (gName 3) (fb__rows_around_0 (Fm D m0)) (.int k) [a, b, some (.tup (Row.pvs rs)), z] st = .ex 0 [] st := by
            unfold fb__rows_around_0
            simp -implicitDefEqProofs (disch := omega) only [x_raise, x_notL, end_ex, bind_ok, nox_ok, bind_ex, s_ex, sb_ex, s_ok, sb_nx, sb_rt, sb_ct, sb_bk, onB_bl, onBS_bl, x_var, x_c, x_bin, x_un, x_nil, x_cons, x_tup, x_lst, x_app, x_and, x_or, x_not, x_if, x_box, x_get, x_sl, x_onone, x_osome, x_snil, x_scons, x_set, x_expr, x_ret, x_retB, x_sif, x_bk, x_ct, x_aug, x_asg, x_gname, x_gnil, x_gcons, x_gtup, mkt0, mkl0, mkt1, mkl1, mkt2, mkl2, mkt3, mkl3, mkt4, mkl4, mkt5, mkl5, mkt6, mkl6, mkt7, mkl7, v_il0, v_it0, v_il1, v_it1, v_il2, v_it2, v_il3, v_it3, v_il4, v_it4, v_il5, v_it5, v_add, v_addI, v_sub, v_neg, v_mul, v_fdv, v_mod, v_cmp, v_eqs, v_nes, v_eqi, v_nei, v_eqb, v_ixc, opt_some, v_lenl, v_lent, v_lenc, v_tupt, v_tupl, v_intb, v_inti, v_max, v_isn, v_isnn, end_rt, end_nx, fz_int, fz_str, fz_bl, fz_non, List.getElem?_cons_zero, List.getElem?_cons_succ, List.set_cons_zero, List.set_cons_succ, List.length_cons, List.length_nil, List.take_length, Option.map_some, oldLoc, Bool.false_and, Bool.and_false, Bool.true_and, Bool.and_true, Bool.not_true, Bool.not_false, Bool.false_eq_true, decide_true, decide_false, decide_eq_true_eq, if_true, if_false, ↓reduceIte, Nat.reduceAdd, Nat.reduceLeDiff, x_chain, x_body, vr, vw, vh, hlen, d1, d2]
          rw [List.map_cons, forL_cons, hbody]
      · have d1 : decide ((0 : Int) ≤ k) = true := decide_eq_true h0
        have d2 : decide (k < (rs.length : Int)) = false := decide_eq_false h1
        have ea : aroundF rs (k :: ks) = none := by rw [aroundF, if_neg (fun z => h1 z.2)]
        rw [ea]
        refine ⟨fun qs h => (by cases h), fun _ => ?_⟩
        have hbody : bodyP (gName 3) (fb__rows_around_0 (Fm D m0)) (.int k) [a, b, some (.tup (Row.pvs rs)), z] st = .ex 0 [] st := by
          unfold fb__rows_around_0
          simp -implicitDefEqProofs (disch := omega) only [x_raise, x_notL, end_ex, bind_ok, nox_ok, bind_ex, s_ex, sb_ex, s_ok, sb_nx, sb_rt, sb_ct, sb_bk, onB_bl, onBS_bl, x_var, x_c, x_bin, x_un, x_nil, x_cons, x_tup, x_lst, x_app, x_and, x_or, x_not, x_if, x_box, x_get, x_sl, x_onone, x_osome, x_snil, x_scons, x_set, x_expr, x_ret, x_retB, x_sif, x_bk, x_ct, x_aug, x_asg, x_gname, x_gnil, x_gcons, x_gtup, mkt0, mkl0, mkt1, mkl1, mkt2, mkl2, mkt3, mkl3, mkt4, mkl4, mkt5, mkl5, mkt6, mkl6, mkt7, mkl7, v_il0, v_it0, v_il1, v_it1, v_il2, v_it2, v_il3, v_it3, v_il4, v_it4, v_il5, v_it5, v_add, v_addI, v_sub, v_neg, v_mul, v_fdv, v_mod, v_cmp, v_eqs, v_nes, v_eqi, v_nei, v_eqb, v_ixc, opt_some, v_lenl, v_lent, v_lenc, v_tupt, v_tupl, v_intb, v_inti, v_max, v_isn, v_isnn, end_rt, end_nx, fz_int, fz_str, fz_bl, fz_non, List.getElem?_cons_zero, List.getElem?_cons_succ, List.set_cons_zero, List.set_cons_succ, List.length_cons, List.length_nil, List.take_length, Option.map_some, oldLoc, Bool.false_and, Bool.and_false, Bool.true_and, Bool.and_true, Bool.not_true, Bool.not_false, Bool.false_eq_true, decide_true, decide_false, decide_eq_true_eq, if_true, if_false, ↓reduceIte, Nat.reduceAdd, Nat.reduceLeDiff, x_chain, x_body, hlen, d1, d2]
        rw [List.map_cons, forL_cons, hbody]
    · have d1 : decide ((0 : Int) ≤ k) = false := decide_eq_false h0
      have ea : aroundF rs (k :: ks) = none := by rw [aroundF, if_neg (fun z => h0 z.1)]
      rw [ea]
      refine ⟨fun qs h => (by cases h), fun _ => ?_⟩
      have hbody : bodyP (gName 3) (fb__rows_around_0 (Fm D m0)) (.int k) [a, b, some (.tup (Row.pvs rs)), z] st = .ex 0 [] st := by
        unfold fb__rows_around_0
        simp -implicitDefEqProofs (disch := omega) only [x_raise, x_notL, end_ex, bind_ok, nox_ok, bind_ex, s_ex, sb_ex, s_ok, sb_nx, sb_rt, sb_ct, sb_bk, onB_bl, onBS_bl, x_var, x_c, x_bin, x_un, x_nil, x_cons, x_tup, x_lst, x_app, x_and, x_or, x_not, x_if, x_box, x_get, x_sl, x_onone, x_osome, x_snil, x_scons, x_set, x_expr, x_ret, x_retB, x_sif, x_bk, x_ct, x_aug, x_asg, x_gname, x_gnil, x_gcons, x_gtup, mkt0, mkl0, mkt1, mkl1, mkt2, mkl2, mkt3, mkl3, mkt4, mkl4, mkt5, mkl5, mkt6, mkl6, mkt7, mkl7, v_il0, v_it0, v_il1, v_it1, v_il2, v_it2, v_il3, v_it3, v_il4, v_it4, v_il5, v_it5, v_add, v_addI, v_sub, v_neg, v_mul, v_fdv, v_mod, v_cmp, v_eqs, v_nes, v_eqi, v_nei, v_eqb, v_ixc, opt_some, v_lenl, v_lent, v_lenc, v_tupt, v_tupl, v_intb, v_inti, v_max, v_isn, v_isnn, end_rt, end_nx, fz_int, fz_str, fz_bl, fz_non, List.getElem?_cons_zero, List.getElem?_cons_succ, List.set_cons_zero, List.set_cons_succ, List.length_cons, List.length_nil, List.take_length, Option.map_some, oldLoc, Bool.false_and, Bool.and_false, Bool.true_and, Bool.and_true, Bool.not_true, Bool.not_false, Bool.false_eq_true, decide_true, decide_false, decide_eq_true_eq, if_true, if_false, ↓reduceIte, Nat.reduceAdd, Nat.reduceLeDiff, x_chain, x_body, hlen, d1]
      rw [List.map_cons, forL_cons, hbody]
def plG (i : Int) (ks : List Int) (x : Int) : List Int := i :: (ks ++ [x])
theorem cutG (i : Int) (ks : List Int) (x : Int) : cutP ((plG i ks x).map PV.int) (some 1) (some (-1)) = ks.map PV.int := by
  unfold cutP plG
  have e1 : HT.sIx ((i :: (ks ++ [x])).map PV.int).length 0 (some 1) = 1 := by
    rw [show (1 : Int) = ((1 : Nat) : Int) from rfl, HT.sIx_nat]
    simp
  have e2 : HT.sIx ((i :: (ks ++ [x])).map PV.int).length ((i :: (ks ++ [x])).map PV.int).length (some (-1)) = ks.length + 1 := by
    unfold HT.sIx
    simp
    omega
  rw [e1, e2]
  simp [List.map_append]
theorem g_way {i : Int} {ks : List Int} {x : Int} {s : VSt} : vSl (plV (plG i ks x)) (some 1) (some (-1)) s = .ok (.tup (ks.map PV.int)) s := by
  unfold plV
  rw [v_slt, cutG]
theorem g_p0 {i : Int} {ks : List Int} {x : Int} {s : VSt} : vIx (plV (plG i ks x)) (.int 0) s = .ok (.int i) s := v_it0
theorem g_pl {i : Int} {ks : List Int} {x : Int} {s : VSt} : vIx (plV (plG i ks x)) (.int (-1)) s = .ok (.int x) s := by
  unfold plV plG
  rw [v_ixt]
  have : atI ((i :: (ks ++ [x])).map PV.int) (-1) = some (.int x) := by
    have ix : ixN ((i :: (ks ++ [x])).map PV.int).length (-1) = some (ks.length + 1) := by
      unfold ixN
      rw [if_neg (by decide), if_pos (by simp; omega)]
      simp
      omega
    unfold atI
    rw [ix]
    simp
  rw [this]
  exact opt_some
theorem g_plen {i : Int} {ks : List Int} {x : Int} {s : VSt} : vLen [plV (plG i ks x)] s = .ok (.int ((ks.length + 2 : Nat) : Int)) s := by
  unfold plV plG
  rw [v_lent]
  simp
  omega
/-- the program has no row there -/
def NoAr (fs : List Fnc) (pl : List Int) : Prop := ∀ n, 3 ≤ n → ∀ st, Fm D n i__rows_around [.tup (fs.map Fnc.pv), plV pl] st = .ex 0 [] st
def NoRow (fs : List Fnc) (pl : List Int) : Prop := ∀ n, 5 ≤ n → ∀ st, Fm D n i_row_at [.tup (fs.map Fnc.pv), plV pl] st = .ex 0 [] st
theorem noAr0 (fs : List Fnc) : NoAr fs [] := fun n h st => by
  obtain ⟨m, rfl⟩ := ge_add (k := 1) (n := n) (by omega)
  rw [c__rows_around, b__rows_around_q]
  have e : ∀ s, vLen [plV []] s = .ok (.int 0) s := fun s => v_lent
  have d0 : decide ((0 : Int) < 2) = true := rfl
  unfold q__rows_around_0
  simp -implicitDefEqProofs (disch := omega) only [x_raise, x_notL, end_ex, bind_ok, nox_ok, bind_ex, s_ex, sb_ex, s_ok, sb_nx, sb_rt, sb_ct, sb_bk, onB_bl, onBS_bl, x_var, x_c, x_bin, x_un, x_nil, x_cons, x_tup, x_lst, x_app, x_and, x_or, x_not, x_if, x_box, x_get, x_sl, x_onone, x_osome, x_snil, x_scons, x_set, x_expr, x_ret, x_retB, x_sif, x_bk, x_ct, x_aug, x_asg, x_gname, x_gnil, x_gcons, x_gtup, mkt0, mkl0, mkt1, mkl1, mkt2, mkl2, mkt3, mkl3, mkt4, mkl4, mkt5, mkl5, mkt6, mkl6, mkt7, mkl7, v_il0, v_it0, v_il1, v_it1, v_il2, v_it2, v_il3, v_it3, v_il4, v_it4, v_il5, v_it5, v_add, v_addI, v_sub, v_neg, v_mul, v_fdv, v_mod, v_cmp, v_eqs, v_nes, v_eqi, v_nei, v_eqb, v_ixc, opt_some, v_lenl, v_lent, v_lenc, v_tupt, v_tupl, v_intb, v_inti, v_max, v_isn, v_isnn, end_rt, end_nx, fz_int, fz_str, fz_bl, fz_non, List.getElem?_cons_zero, List.getElem?_cons_succ, List.set_cons_zero, List.set_cons_succ, List.length_cons, List.length_nil, List.take_length, Option.map_some, oldLoc, Bool.false_and, Bool.and_false, Bool.true_and, Bool.and_true, Bool.not_true, Bool.not_false, Bool.false_eq_true, decide_true, decide_false, decide_eq_true_eq, if_true, if_false, ↓reduceIte, Nat.reduceAdd, Nat.reduceLeDiff, e, d0]
theorem noAr1 (fs : List Fnc) (i : Int) : NoAr fs [i] := fun n h st => by
  obtain ⟨m, rfl⟩ := ge_add (k := 1) (n := n) (by omega)
  rw [c__rows_around, b__rows_around_q]
  have e : ∀ s, vLen [plV [i]] s = .ok (.int 1) s := fun s => v_lent
  have d0 : decide ((1 : Int) < 2) = true := rfl
  unfold q__rows_around_0
  simp -implicitDefEqProofs (disch := omega) only [x_raise, x_notL, end_ex, bind_ok, nox_ok, bind_ex, s_ex, sb_ex, s_ok, sb_nx, sb_rt, sb_ct, sb_bk, onB_bl, onBS_bl, x_var, x_c, x_bin, x_un, x_nil, x_cons, x_tup, x_lst, x_app, x_and, x_or, x_not, x_if, x_box, x_get, x_sl, x_onone, x_osome, x_snil, x_scons, x_set, x_expr, x_ret, x_retB, x_sif, x_bk, x_ct, x_aug, x_asg, x_gname, x_gnil, x_gcons, x_gtup, mkt0, mkl0, mkt1, mkl1, mkt2, mkl2, mkt3, mkl3, mkt4, mkl4, mkt5, mkl5, mkt6, mkl6, mkt7, mkl7, v_il0, v_it0, v_il1, v_it1, v_il2, v_it2, v_il3, v_it3, v_il4, v_it4, v_il5, v_it5, v_add, v_addI, v_sub, v_neg, v_mul, v_fdv, v_mod, v_cmp, v_eqs, v_nes, v_eqi, v_nei, v_eqb, v_ixc, opt_some, v_lenl, v_lent, v_lenc, v_tupt, v_tupl, v_intb, v_inti, v_max, v_isn, v_isnn, end_rt, end_nx, fz_int, fz_str, fz_bl, fz_non, List.getElem?_cons_zero, List.getElem?_cons_succ, List.set_cons_zero, List.set_cons_succ, List.length_cons, List.length_nil, List.take_length, Option.map_some, oldLoc, Bool.false_and, Bool.and_false, Bool.true_and, Bool.and_true, Bool.not_true, Bool.not_false, Bool.false_eq_true, decide_true, decide_false, decide_eq_true_eq, if_true, if_false, ↓reduceIte, Nat.reduceAdd, Nat.reduceLeDiff, e, d0]
theorem noArO (fs : List Fnc) (i : Int) (ks : List Int) (x : Int) (hi : i < 0 ∨ (fs.length : Int) ≤ i) : NoAr fs (plG i ks x) := fun n h st => by
  obtain ⟨m, rfl⟩ := ge_add (k := 1) (n := n) (by omega)
  rw [c__rows_around, b__rows_around_q]
  have d0 : decide (((ks.length + 2 : Nat) : Int) < 2) = false := decide_eq_false (by omega)
  have hlen : (fs.map Fnc.pv).length = fs.length := List.length_map _
  unfold q__rows_around_0
  by_cases h0 : 0 ≤ i
  · have d1 : decide ((0 : Int) ≤ i) = true := decide_eq_true h0
    have d2 : decide (i < (fs.length : Int)) = false := decide_eq_false (by omega)
    simp -implicitDefEqProofs (disch := omega) only [x_raise, x_notL, end_ex, bind_ok, nox_ok, bind_ex, s_ex, sb_ex, s_ok, sb_nx, sb_rt, sb_ct, sb_bk, onB_bl, onBS_bl, x_var, x_c, x_bin, x_un, x_nil, x_cons, x_tup, x_lst, x_app, x_and, x_or, x_not, x_if, x_box, x_get, x_sl, x_onone, x_osome, x_snil, x_scons, x_set, x_expr, x_ret, x_retB, x_sif, x_bk, x_ct, x_aug, x_asg, x_gname, x_gnil, x_gcons, x_gtup, mkt0, mkl0, mkt1, mkl1, mkt2, mkl2, mkt3, mkl3, mkt4, mkl4, mkt5, mkl5, mkt6, mkl6, mkt7, mkl7, v_il0, v_it0, v_il1, v_it1, v_il2, v_it2, v_il3, v_it3, v_il4, v_it4, v_il5, v_it5, v_add, v_addI, v_sub, v_neg, v_mul, v_fdv, v_mod, v_cmp, v_eqs, v_nes, v_eqi, v_nei, v_eqb, v_ixc, opt_some, v_lenl, v_lent, v_lenc, v_tupt, v_tupl, v_intb, v_inti, v_max, v_isn, v_isnn, end_rt, end_nx, fz_int, fz_str, fz_bl, fz_non, List.getElem?_cons_zero, List.getElem?_cons_succ, List.set_cons_zero, List.set_cons_succ, List.length_cons, List.length_nil, List.take_length, Option.map_some, oldLoc, Bool.false_and, Bool.and_false, Bool.true_and, Bool.and_true, Bool.not_true, Bool.not_false, Bool.false_eq_true, decide_true, decide_false, decide_eq_true_eq, if_true, if_false, ↓reduceIte, Nat.reduceAdd, Nat.reduceLeDiff, x_chain, g_plen, g_p0, hlen, d0, d1, d2]
  · have d1 : decide ((0 : Int) ≤ i) = false := decide_eq_false h0
    simp -implicitDefEqProofs (disch := omega) only [x_raise, x_notL, end_ex, bind_ok, nox_ok, bind_ex, s_ex, sb_ex, s_ok, sb_nx, sb_rt, sb_ct, sb_bk, onB_bl, onBS_bl, x_var, x_c, x_bin, x_un, x_nil, x_cons, x_tup, x_lst, x_app, x_and, x_or, x_not, x_if, x_box, x_get, x_sl, x_onone, x_osome, x_snil, x_scons, x_set, x_expr, x_ret, x_retB, x_sif, x_bk, x_ct, x_aug, x_asg, x_gname, x_gnil, x_gcons, x_gtup, mkt0, mkl0, mkt1, mkl1, mkt2, mkl2, mkt3, mkl3, mkt4, mkl4, mkt5, mkl5, mkt6, mkl6, mkt7, mkl7, v_il0, v_it0, v_il1, v_it1, v_il2, v_it2, v_il3, v_it3, v_il4, v_it4, v_il5, v_it5, v_add, v_addI, v_sub, v_neg, v_mul, v_fdv, v_mod, v_cmp, v_eqs, v_nes, v_eqi, v_nei, v_eqb, v_ixc, opt_some, v_lenl, v_lent, v_lenc, v_tupt, v_tupl, v_intb, v_inti, v_max, v_isn, v_isnn, end_rt, end_nx, fz_int, fz_str, fz_bl, fz_non, List.getElem?_cons_zero, List.getElem?_cons_succ, List.set_cons_zero, List.set_cons_succ, List.length_cons, List.length_nil, List.take_length, Option.map_some, oldLoc, Bool.false_and, Bool.and_false, Bool.true_and, Bool.and_true, Bool.not_true, Bool.not_false, Bool.false_eq_true, decide_true, decide_false, decide_eq_true_eq, if_true, if_false, ↓reduceIte, Nat.reduceAdd, Nat.reduceLeDiff, x_chain, g_plen, g_p0, hlen, d0, d1]
theorem arG {fs : List Fnc} {i : Nat} {f : Fnc} (hf : fs[i]? = some f) (ks : List Int) (x : Int) :
    (aroundF f.rows ks = none → NoAr fs (plG i ks x)) ∧ (∀ qs, aroundF f.rows ks = some qs → ∀ n, 3 ≤ n → ∀ st, Fm D n i__rows_around [.tup (fs.map Fnc.pv), plV (plG i ks x)] st = .ok (.tup (Row.pvs qs)) st) := by
  have hlt := (List.getElem?_eq_some_iff.mp hf).1
  have hlen : (fs.map Fnc.pv).length = fs.length := List.length_map _
  have d0 : decide (((ks.length + 2 : Nat) : Int) < 2) = false := decide_eq_false (by omega)
  have d1 : decide ((0 : Int) ≤ (i : Int)) = true := decide_eq_true (by omega)
  have d2 : decide ((i : Int) < (fs.length : Int)) = true := decide_eq_true (by omega)
  have vf := fun s => v_fnct (st := s) hf
  refine ⟨fun e n h st => ?_, fun qs e n h st => ?_⟩
  · obtain ⟨m, rfl⟩ := ge_add (k := 1) (n := n) (by omega)
    rw [c__rows_around, b__rows_around_q]
    have lp := (around_loopG (m0 := m) (by omega) (a := some (.tup (fs.map Fnc.pv))) (b := some (plV (plG i ks x))) (st := st) ks f.rows none).2 e
    have hfor := for_tup (a := eSl (eVar 1) (oSome (eC (.int 1))) (oSome (eUn vNeg (eC (.int 1))))) (g := gName 3) (body := fb__rows_around_0 (Fm D m)) (xs := ks.map PV.int) (env := [some (.tup (fs.map Fnc.pv)), some (plV (plG i ks x)), some (.tup (Row.pvs f.rows)), none]) (st := st) (st' := st) (by simp -implicitDefEqProofs (disch := omega) only [x_raise, x_notL, end_ex, bind_ok, nox_ok, bind_ex, s_ex, sb_ex, s_ok, sb_nx, sb_rt, sb_ct, sb_bk, onB_bl, onBS_bl, x_var, x_c, x_bin, x_un, x_nil, x_cons, x_tup, x_lst, x_app, x_and, x_or, x_not, x_if, x_box, x_get, x_sl, x_onone, x_osome, x_snil, x_scons, x_set, x_expr, x_ret, x_retB, x_sif, x_bk, x_ct, x_aug, x_asg, x_gname, x_gnil, x_gcons, x_gtup, mkt0, mkl0, mkt1, mkl1, mkt2, mkl2, mkt3, mkl3, mkt4, mkl4, mkt5, mkl5, mkt6, mkl6, mkt7, mkl7, v_il0, v_it0, v_il1, v_it1, v_il2, v_it2, v_il3, v_it3, v_il4, v_it4, v_il5, v_it5, v_add, v_addI, v_sub, v_neg, v_mul, v_fdv, v_mod, v_cmp, v_eqs, v_nes, v_eqi, v_nei, v_eqb, v_ixc, opt_some, v_lenl, v_lent, v_lenc, v_tupt, v_tupl, v_intb, v_inti, v_max, v_isn, v_isnn, end_rt, end_nx, fz_int, fz_str, fz_bl, fz_non, List.getElem?_cons_zero, List.getElem?_cons_succ, List.set_cons_zero, List.set_cons_succ, List.length_cons, List.length_nil, List.take_length, Option.map_some, oldLoc, Bool.false_and, Bool.and_false, Bool.true_and, Bool.and_true, Bool.not_true, Bool.not_false, Bool.false_eq_true, decide_true, decide_false, decide_eq_true_eq, if_true, if_false, ↓reduceIte, Nat.reduceAdd, Nat.reduceLeDiff, g_way])
    rw [lp] at hfor
    unfold q__rows_around_0 q__rows_around_1 q__rows_around_2 q__rows_around_3
    simp -implicitDefEqProofs (disch := omega) only [x_raise, x_notL, end_ex, bind_ok, nox_ok, bind_ex, s_ex, sb_ex, s_ok, sb_nx, sb_rt, sb_ct, sb_bk, onB_bl, onBS_bl, x_var, x_c, x_bin, x_un, x_nil, x_cons, x_tup, x_lst, x_app, x_and, x_or, x_not, x_if, x_box, x_get, x_sl, x_onone, x_osome, x_snil, x_scons, x_set, x_expr, x_ret, x_retB, x_sif, x_bk, x_ct, x_aug, x_asg, x_gname, x_gnil, x_gcons, x_gtup, mkt0, mkl0, mkt1, mkl1, mkt2, mkl2, mkt3, mkl3, mkt4, mkl4, mkt5, mkl5, mkt6, mkl6, mkt7, mkl7, v_il0, v_it0, v_il1, v_it1, v_il2, v_it2, v_il3, v_it3, v_il4, v_it4, v_il5, v_it5, v_add, v_addI, v_sub, v_neg, v_mul, v_fdv, v_mod, v_cmp, v_eqs, v_nes, v_eqi, v_nei, v_eqb, v_ixc, opt_some, v_lenl, v_lent, v_lenc, v_tupt, v_tupl, v_intb, v_inti, v_max, v_isn, v_isnn, end_rt, end_nx, fz_int, fz_str, fz_bl, fz_non, List.getElem?_cons_zero, List.getElem?_cons_succ, List.set_cons_zero, List.set_cons_succ, List.length_cons, List.length_nil, List.take_length, Option.map_some, oldLoc, Bool.false_and, Bool.and_false, Bool.true_and, Bool.and_true, Bool.not_true, Bool.not_false, Bool.false_eq_true, decide_true, decide_false, decide_eq_true_eq, if_true, if_false, ↓reduceIte, Nat.reduceAdd, Nat.reduceLeDiff, x_chain, g_plen, g_p0, hlen, d0, d1, d2, vf, v_f2, hfor]
  · obtain ⟨m, rfl⟩ := ge_add (k := 1) (n := n) (by omega)
    rw [c__rows_around, b__rows_around_q]
    obtain ⟨z, lp⟩ := (around_loopG (m0 := m) (by omega) (a := some (.tup (fs.map Fnc.pv))) (b := some (plV (plG i ks x))) (st := st) ks f.rows none).1 qs e
    have hfor := for_tup (a := eSl (eVar 1) (oSome (eC (.int 1))) (oSome (eUn vNeg (eC (.int 1))))) (g := gName 3) (body := fb__rows_around_0 (Fm D m)) (xs := ks.map PV.int) (env := [some (.tup (fs.map Fnc.pv)), some (plV (plG i ks x)), some (.tup (Row.pvs f.rows)), none]) (st := st) (st' := st) (by simp -implicitDefEqProofs (disch := omega) only [x_raise, x_notL, end_ex, bind_ok, nox_ok, bind_ex, s_ex, sb_ex, s_ok, sb_nx, sb_rt, sb_ct, sb_bk, onB_bl, onBS_bl, x_var, x_c, x_bin, x_un, x_nil, x_cons, x_tup, x_lst, x_app, x_and, x_or, x_not, x_if, x_box, x_get, x_sl, x_onone, x_osome, x_snil, x_scons, x_set, x_expr, x_ret, x_retB, x_sif, x_bk, x_ct, x_aug, x_asg, x_gname, x_gnil, x_gcons, x_gtup, mkt0, mkl0, mkt1, mkl1, mkt2, mkl2, mkt3, mkl3, mkt4, mkl4, mkt5, mkl5, mkt6, mkl6, mkt7, mkl7, v_il0, v_it0, v_il1, v_it1, v_il2, v_it2, v_il3, v_it3, v_il4, v_it4, v_il5, v_it5, v_add, v_addI, v_sub, v_neg, v_mul, v_fdv, v_mod, v_cmp, v_eqs, v_nes, v_eqi, v_nei, v_eqb, v_ixc, opt_some, v_lenl, v_lent, v_lenc, v_tupt, v_tupl, v_intb, v_inti, v_max, v_isn, v_isnn, end_rt, end_nx, fz_int, fz_str, fz_bl, fz_non, List.getElem?_cons_zero, List.getElem?_cons_succ, List.set_cons_zero, List.set_cons_succ, List.length_cons, List.length_nil, List.take_length, Option.map_some, oldLoc, Bool.false_and, Bool.and_false, Bool.true_and, Bool.and_true, Bool.not_true, Bool.not_false, Bool.false_eq_true, decide_true, decide_false, decide_eq_true_eq, if_true, if_false, ↓reduceIte, Nat.reduceAdd, Nat.reduceLeDiff, g_way])
    rw [lp] at hfor
    have fz : freeze st st.length (.tup (Row.pvs qs)) = .tup (Row.pvs qs) := freeze_pure _ (Row.pures qs)
    unfold q__rows_around_0 q__rows_around_1 q__rows_around_2 q__rows_around_3
    simp -implicitDefEqProofs (disch := omega) only [x_raise, x_notL, end_ex, bind_ok, nox_ok, bind_ex, s_ex, sb_ex, s_ok, sb_nx, sb_rt, sb_ct, sb_bk, onB_bl, onBS_bl, x_var, x_c, x_bin, x_un, x_nil, x_cons, x_tup, x_lst, x_app, x_and, x_or, x_not, x_if, x_box, x_get, x_sl, x_onone, x_osome, x_snil, x_scons, x_set, x_expr, x_ret, x_retB, x_sif, x_bk, x_ct, x_aug, x_asg, x_gname, x_gnil, x_gcons, x_gtup, mkt0, mkl0, mkt1, mkl1, mkt2, mkl2, mkt3, mkl3, mkt4, mkl4, mkt5, mkl5, mkt6, mkl6, mkt7, mkl7, v_il0, v_it0, v_il1, v_it1, v_il2, v_it2, v_il3, v_it3, v_il4, v_it4, v_il5, v_it5, v_add, v_addI, v_sub, v_neg, v_mul, v_fdv, v_mod, v_cmp, v_eqs, v_nes, v_eqi, v_nei, v_eqb, v_ixc, opt_some, v_lenl, v_lent, v_lenc, v_tupt, v_tupl, v_intb, v_inti, v_max, v_isn, v_isnn, end_rt, end_nx, fz_int, fz_str, fz_bl, fz_non, List.getElem?_cons_zero, List.getElem?_cons_succ, List.set_cons_zero, List.set_cons_succ, List.length_cons, List.length_nil, List.take_length, Option.map_some, oldLoc, Bool.false_and, Bool.and_false, Bool.true_and, Bool.and_true, Bool.not_true, Bool.not_false, Bool.false_eq_true, decide_true, decide_false, decide_eq_true_eq, if_true, if_false, ↓reduceIte, Nat.reduceAdd, Nat.reduceLeDiff, x_chain, g_plen, g_p0, hlen, d0, d1, d2, vf, v_f2, hfor, fz]
theorem noRow_ar {fs : List Fnc} {pl : List Int} (h : NoAr fs pl) : NoRow fs pl := fun n hn st => by
  obtain ⟨m, rfl⟩ := ge_add (k := 2) (n := n) (by omega)
  rw [c_row_at, b_row_at_q]
  have va := fun s => h m (by omega) s
  have vs : ∀ s, Fm D (m + 1) i_rows_from [.tup (fs.map Fnc.pv), plV pl, .int 1] s = .ex 0 [] s := fun s => by
    rw [c_rows_from, b_rows_from_q]
    unfold q_rows_from_0
    simp -implicitDefEqProofs (disch := omega) only [x_raise, x_notL, end_ex, bind_ok, nox_ok, bind_ex, s_ex, sb_ex, s_ok, sb_nx, sb_rt, sb_ct, sb_bk, onB_bl, onBS_bl, x_var, x_c, x_bin, x_un, x_nil, x_cons, x_tup, x_lst, x_app, x_and, x_or, x_not, x_if, x_box, x_get, x_sl, x_onone, x_osome, x_snil, x_scons, x_set, x_expr, x_ret, x_retB, x_sif, x_bk, x_ct, x_aug, x_asg, x_gname, x_gnil, x_gcons, x_gtup, mkt0, mkl0, mkt1, mkl1, mkt2, mkl2, mkt3, mkl3, mkt4, mkl4, mkt5, mkl5, mkt6, mkl6, mkt7, mkl7, v_il0, v_it0, v_il1, v_it1, v_il2, v_it2, v_il3, v_it3, v_il4, v_it4, v_il5, v_it5, v_add, v_addI, v_sub, v_neg, v_mul, v_fdv, v_mod, v_cmp, v_eqs, v_nes, v_eqi, v_nei, v_eqb, v_ixc, opt_some, v_lenl, v_lent, v_lenc, v_tupt, v_tupl, v_intb, v_inti, v_max, v_isn, v_isnn, end_rt, end_nx, fz_int, fz_str, fz_bl, fz_non, List.getElem?_cons_zero, List.getElem?_cons_succ, List.set_cons_zero, List.set_cons_succ, List.length_cons, List.length_nil, List.take_length, Option.map_some, oldLoc, Bool.false_and, Bool.and_false, Bool.true_and, Bool.and_true, Bool.not_true, Bool.not_false, Bool.false_eq_true, decide_true, decide_false, decide_eq_true_eq, if_true, if_false, ↓reduceIte, Nat.reduceAdd, Nat.reduceLeDiff, va]
  unfold q_row_at_0
  simp -implicitDefEqProofs (disch := omega) only [x_raise, x_notL, end_ex, bind_ok, nox_ok, bind_ex, s_ex, sb_ex, s_ok, sb_nx, sb_rt, sb_ct, sb_bk, onB_bl, onBS_bl, x_var, x_c, x_bin, x_un, x_nil, x_cons, x_tup, x_lst, x_app, x_and, x_or, x_not, x_if, x_box, x_get, x_sl, x_onone, x_osome, x_snil, x_scons, x_set, x_expr, x_ret, x_retB, x_sif, x_bk, x_ct, x_aug, x_asg, x_gname, x_gnil, x_gcons, x_gtup, mkt0, mkl0, mkt1, mkl1, mkt2, mkl2, mkt3, mkl3, mkt4, mkl4, mkt5, mkl5, mkt6, mkl6, mkt7, mkl7, v_il0, v_it0, v_il1, v_it1, v_il2, v_it2, v_il3, v_it3, v_il4, v_it4, v_il5, v_it5, v_add, v_addI, v_sub, v_neg, v_mul, v_fdv, v_mod, v_cmp, v_eqs, v_nes, v_eqi, v_nei, v_eqb, v_ixc, opt_some, v_lenl, v_lent, v_lenc, v_tupt, v_tupl, v_intb, v_inti, v_max, v_isn, v_isnn, end_rt, end_nx, fz_int, fz_str, fz_bl, fz_non, List.getElem?_cons_zero, List.getElem?_cons_succ, List.set_cons_zero, List.set_cons_succ, List.length_cons, List.length_nil, List.take_length, Option.map_some, oldLoc, Bool.false_and, Bool.and_false, Bool.true_and, Bool.and_true, Bool.not_true, Bool.not_false, Bool.false_eq_true, decide_true, decide_false, decide_eq_true_eq, if_true, if_false, ↓reduceIte, Nat.reduceAdd, Nat.reduceLeDiff, vs]
theorem noRow_last {fs : List Fnc} {i : Nat} {f : Fnc} (hf : fs[i]? = some f) {ks : List Int} {x : Int} {qs : List Row} (e : aroundF f.rows ks = some qs) (hx : x < 0 ∨ (qs.length : Int) ≤ x) : NoRow fs (plG i ks x) := fun n hn st => by
  obtain ⟨m, rfl⟩ := ge_add (k := 2) (n := n) (by omega)
  rw [c_row_at, b_row_at_q]
  have hlen : (Row.pvs qs).length = qs.length := by rw [pvs_map, List.length_map]
  have va := fun s => (arG hf ks x).2 qs e m (by omega) s
  have vs : ∀ s, Fm D (m + 1) i_rows_from [.tup (fs.map Fnc.pv), plV (plG i ks x), .int 1] s = .ex 0 [] s := fun s => by
    rw [c_rows_from, b_rows_from_q]
    have d2 : decide ((1 : Int) < 0) = false := rfl
    unfold q_rows_from_0 q_rows_from_1 q_rows_from_2 q_rows_from_3
    by_cases h0 : x < 0
    · have d1 : decide (x < 0) = true := decide_eq_true h0
      simp -implicitDefEqProofs (disch := omega) only [x_raise, x_notL, end_ex, bind_ok, nox_ok, bind_ex, s_ex, sb_ex, s_ok, sb_nx, sb_rt, sb_ct, sb_bk, onB_bl, onBS_bl, x_var, x_c, x_bin, x_un, x_nil, x_cons, x_tup, x_lst, x_app, x_and, x_or, x_not, x_if, x_box, x_get, x_sl, x_onone, x_osome, x_snil, x_scons, x_set, x_expr, x_ret, x_retB, x_sif, x_bk, x_ct, x_aug, x_asg, x_gname, x_gnil, x_gcons, x_gtup, mkt0, mkl0, mkt1, mkl1, mkt2, mkl2, mkt3, mkl3, mkt4, mkl4, mkt5, mkl5, mkt6, mkl6, mkt7, mkl7, v_il0, v_it0, v_il1, v_it1, v_il2, v_it2, v_il3, v_it3, v_il4, v_it4, v_il5, v_it5, v_add, v_addI, v_sub, v_neg, v_mul, v_fdv, v_mod, v_cmp, v_eqs, v_nes, v_eqi, v_nei, v_eqb, v_ixc, opt_some, v_lenl, v_lent, v_lenc, v_tupt, v_tupl, v_intb, v_inti, v_max, v_isn, v_isnn, end_rt, end_nx, fz_int, fz_str, fz_bl, fz_non, List.getElem?_cons_zero, List.getElem?_cons_succ, List.set_cons_zero, List.set_cons_succ, List.length_cons, List.length_nil, List.take_length, Option.map_some, oldLoc, Bool.false_and, Bool.and_false, Bool.true_and, Bool.and_true, Bool.not_true, Bool.not_false, Bool.false_eq_true, decide_true, decide_false, decide_eq_true_eq, if_true, if_false, ↓reduceIte, Nat.reduceAdd, Nat.reduceLeDiff, va, g_pl, hlen, d1]
    · have d1 : decide (x < 0) = false := decide_eq_false h0
      have d3 : decide ((qs.length : Int) < x + 1) = true := decide_eq_true (by omega)
      simp -implicitDefEqProofs (disch := omega) only [x_raise, x_notL, end_ex, bind_ok, nox_ok, bind_ex, s_ex, sb_ex, s_ok, sb_nx, sb_rt, sb_ct, sb_bk, onB_bl, onBS_bl, x_var, x_c, x_bin, x_un, x_nil, x_cons, x_tup, x_lst, x_app, x_and, x_or, x_not, x_if, x_box, x_get, x_sl, x_onone, x_osome, x_snil, x_scons, x_set, x_expr, x_ret, x_retB, x_sif, x_bk, x_ct, x_aug, x_asg, x_gname, x_gnil, x_gcons, x_gtup, mkt0, mkl0, mkt1, mkl1, mkt2, mkl2, mkt3, mkl3, mkt4, mkl4, mkt5, mkl5, mkt6, mkl6, mkt7, mkl7, v_il0, v_it0, v_il1, v_it1, v_il2, v_it2, v_il3, v_it3, v_il4, v_it4, v_il5, v_it5, v_add, v_addI, v_sub, v_neg, v_mul, v_fdv, v_mod, v_cmp, v_eqs, v_nes, v_eqi, v_nei, v_eqb, v_ixc, opt_some, v_lenl, v_lent, v_lenc, v_tupt, v_tupl, v_intb, v_inti, v_max, v_isn, v_isnn, end_rt, end_nx, fz_int, fz_str, fz_bl, fz_non, List.getElem?_cons_zero, List.getElem?_cons_succ, List.set_cons_zero, List.set_cons_succ, List.length_cons, List.length_nil, List.take_length, Option.map_some, oldLoc, Bool.false_and, Bool.and_false, Bool.true_and, Bool.and_true, Bool.not_true, Bool.not_false, Bool.false_eq_true, decide_true, decide_false, decide_eq_true_eq, if_true, if_false, ↓reduceIte, Nat.reduceAdd, Nat.reduceLeDiff, va, g_pl, hlen, d1, d2, d3]
  unfold q_row_at_0
  simp -implicitDefEqProofs (disch := omega) only [x_raise, x_notL, end_ex, bind_ok, nox_ok, bind_ex, s_ex, sb_ex, s_ok, sb_nx, sb_rt, sb_ct, sb_bk, onB_bl, onBS_bl, x_var, x_c, x_bin, x_un, x_nil, x_cons, x_tup, x_lst, x_app, x_and, x_or, x_not, x_if, x_box, x_get, x_sl, x_onone, x_osome, x_snil, x_scons, x_set, x_expr, x_ret, x_retB, x_sif, x_bk, x_ct, x_aug, x_asg, x_gname, x_gnil, x_gcons, x_gtup, mkt0, mkl0, mkt1, mkl1, mkt2, mkl2, mkt3, mkl3, mkt4, mkl4, mkt5, mkl5, mkt6, mkl6, mkt7, mkl7, v_il0, v_it0, v_il1, v_it1, v_il2, v_it2, v_il3, v_it3, v_il4, v_it4, v_il5, v_it5, v_add, v_addI, v_sub, v_neg, v_mul, v_fdv, v_mod, v_cmp, v_eqs, v_nes, v_eqi, v_nei, v_eqb, v_ixc, opt_some, v_lenl, v_lent, v_lenc, v_tupt, v_tupl, v_intb, v_inti, v_max, v_isn, v_isnn, end_rt, end_nx, fz_int, fz_str, fz_bl, fz_non, List.getElem?_cons_zero, List.getElem?_cons_succ, List.set_cons_zero, List.set_cons_succ, List.length_cons, List.length_nil, List.take_length, Option.map_some, oldLoc, Bool.false_and, Bool.and_false, Bool.true_and, Bool.and_true, Bool.not_true, Bool.not_false, Bool.false_eq_true, decide_true, decide_false, decide_eq_true_eq, if_true, if_false, ↓reduceIte, Nat.reduceAdd, Nat.reduceLeDiff, vs]
theorem noRow_in {fs : List Fnc} {i : Nat} {f : Fnc} (hf : fs[i]? = some f) {ks : List Int} {x : Int} (h : ∀ qs, aroundF f.rows ks = some qs → x < 0 ∨ (qs.length : Int) ≤ x) : NoRow fs (plG i ks x) := by
  cases e : aroundF f.rows ks with
  | none => exact noRow_ar ((arG hf ks x).1 e)
  | some qs => exact noRow_last hf e (h qs e)
/-! ## told -/
theorem told_none {fs : List Fnc} {pl : List Int} (h : NoRow fs pl) {n : Nat} (hn : 7 ≤ n) (w : Int) (st : VSt) : Fm D n i__law_told [.int w, .tup (fs.map Fnc.pv), plV pl] st = .ok (.str "place") st := by
  obtain ⟨m, rfl⟩ := ge_add (k := 1) (n := n) (by omega)
  rw [c__law_told, b__law_told_q]
  have vr := fun s => h m (by omega) s
  have vn : ∀ s, Fm D m i_needed [.tup (fs.map Fnc.pv), plV pl] s = .ex 0 [] s := fun s => by
    obtain ⟨m', rfl⟩ := ge_add (k := 1) (n := m) (by omega)
    have vr' := fun s => h m' (by omega) s
    rw [c_needed, b_needed_q]
    unfold q_needed_0
    simp -implicitDefEqProofs (disch := omega) only [x_raise, x_notL, end_ex, bind_ok, nox_ok, bind_ex, s_ex, sb_ex, s_ok, sb_nx, sb_rt, sb_ct, sb_bk, onB_bl, onBS_bl, x_var, x_c, x_bin, x_un, x_nil, x_cons, x_tup, x_lst, x_app, x_and, x_or, x_not, x_if, x_box, x_get, x_sl, x_onone, x_osome, x_snil, x_scons, x_set, x_expr, x_ret, x_retB, x_sif, x_bk, x_ct, x_aug, x_asg, x_gname, x_gnil, x_gcons, x_gtup, mkt0, mkl0, mkt1, mkl1, mkt2, mkl2, mkt3, mkl3, mkt4, mkl4, mkt5, mkl5, mkt6, mkl6, mkt7, mkl7, v_il0, v_it0, v_il1, v_it1, v_il2, v_it2, v_il3, v_it3, v_il4, v_it4, v_il5, v_it5, v_add, v_addI, v_sub, v_neg, v_mul, v_fdv, v_mod, v_cmp, v_eqs, v_nes, v_eqi, v_nei, v_eqb, v_ixc, opt_some, v_lenl, v_lent, v_lenc, v_tupt, v_tupl, v_intb, v_inti, v_max, v_isn, v_isnn, end_rt, end_nx, fz_int, fz_str, fz_bl, fz_non, List.getElem?_cons_zero, List.getElem?_cons_succ, List.set_cons_zero, List.set_cons_succ, List.length_cons, List.length_nil, List.take_length, Option.map_some, oldLoc, Bool.false_and, Bool.and_false, Bool.true_and, Bool.and_true, Bool.not_true, Bool.not_false, Bool.false_eq_true, decide_true, decide_false, decide_eq_true_eq, if_true, if_false, ↓reduceIte, Nat.reduceAdd, Nat.reduceLeDiff, vr']
  have hk : hk_told 0 [] st = .ok (.str "place") st := rfl
  unfold q__law_told_0
  by_cases e : w = 0
  · have d : decide (w = 0) = true := decide_eq_true e
    rw [x_scons, try_ex (c := 0) (fs := []) (s := st) (by simp -implicitDefEqProofs (disch := omega) only [x_raise, x_notL, end_ex, bind_ok, nox_ok, bind_ex, s_ex, sb_ex, s_ok, sb_nx, sb_rt, sb_ct, sb_bk, onB_bl, onBS_bl, x_var, x_c, x_bin, x_un, x_nil, x_cons, x_tup, x_lst, x_app, x_and, x_or, x_not, x_if, x_box, x_get, x_sl, x_onone, x_osome, x_snil, x_scons, x_set, x_expr, x_ret, x_retB, x_sif, x_bk, x_ct, x_aug, x_asg, x_gname, x_gnil, x_gcons, x_gtup, mkt0, mkl0, mkt1, mkl1, mkt2, mkl2, mkt3, mkl3, mkt4, mkl4, mkt5, mkl5, mkt6, mkl6, mkt7, mkl7, v_il0, v_it0, v_il1, v_it1, v_il2, v_it2, v_il3, v_it3, v_il4, v_it4, v_il5, v_it5, v_add, v_addI, v_sub, v_neg, v_mul, v_fdv, v_mod, v_cmp, v_eqs, v_nes, v_eqi, v_nei, v_eqb, v_ixc, opt_some, v_lenl, v_lent, v_lenc, v_tupt, v_tupl, v_intb, v_inti, v_max, v_isn, v_isnn, end_rt, end_nx, fz_int, fz_str, fz_bl, fz_non, List.getElem?_cons_zero, List.getElem?_cons_succ, List.set_cons_zero, List.set_cons_succ, List.length_cons, List.length_nil, List.take_length, Option.map_some, oldLoc, Bool.false_and, Bool.and_false, Bool.true_and, Bool.and_true, Bool.not_true, Bool.not_false, Bool.false_eq_true, decide_true, decide_false, decide_eq_true_eq, if_true, if_false, ↓reduceIte, Nat.reduceAdd, Nat.reduceLeDiff, d, vr]), hk]
    simp -implicitDefEqProofs (disch := omega) only [x_raise, x_notL, end_ex, bind_ok, nox_ok, bind_ex, s_ex, sb_ex, s_ok, sb_nx, sb_rt, sb_ct, sb_bk, onB_bl, onBS_bl, x_var, x_c, x_bin, x_un, x_nil, x_cons, x_tup, x_lst, x_app, x_and, x_or, x_not, x_if, x_box, x_get, x_sl, x_onone, x_osome, x_snil, x_scons, x_set, x_expr, x_ret, x_retB, x_sif, x_bk, x_ct, x_aug, x_asg, x_gname, x_gnil, x_gcons, x_gtup, mkt0, mkl0, mkt1, mkl1, mkt2, mkl2, mkt3, mkl3, mkt4, mkl4, mkt5, mkl5, mkt6, mkl6, mkt7, mkl7, v_il0, v_it0, v_il1, v_it1, v_il2, v_it2, v_il3, v_it3, v_il4, v_it4, v_il5, v_it5, v_add, v_addI, v_sub, v_neg, v_mul, v_fdv, v_mod, v_cmp, v_eqs, v_nes, v_eqi, v_nei, v_eqb, v_ixc, opt_some, v_lenl, v_lent, v_lenc, v_tupt, v_tupl, v_intb, v_inti, v_max, v_isn, v_isnn, end_rt, end_nx, fz_int, fz_str, fz_bl, fz_non, List.getElem?_cons_zero, List.getElem?_cons_succ, List.set_cons_zero, List.set_cons_succ, List.length_cons, List.length_nil, List.take_length, Option.map_some, oldLoc, Bool.false_and, Bool.and_false, Bool.true_and, Bool.and_true, Bool.not_true, Bool.not_false, Bool.false_eq_true, decide_true, decide_false, decide_eq_true_eq, if_true, if_false, ↓reduceIte, Nat.reduceAdd, Nat.reduceLeDiff]
  · have d : decide (w = 0) = false := decide_eq_false e
    rw [x_scons, try_ex (c := 0) (fs := []) (s := st) (by simp -implicitDefEqProofs (disch := omega) only [x_raise, x_notL, end_ex, bind_ok, nox_ok, bind_ex, s_ex, sb_ex, s_ok, sb_nx, sb_rt, sb_ct, sb_bk, onB_bl, onBS_bl, x_var, x_c, x_bin, x_un, x_nil, x_cons, x_tup, x_lst, x_app, x_and, x_or, x_not, x_if, x_box, x_get, x_sl, x_onone, x_osome, x_snil, x_scons, x_set, x_expr, x_ret, x_retB, x_sif, x_bk, x_ct, x_aug, x_asg, x_gname, x_gnil, x_gcons, x_gtup, mkt0, mkl0, mkt1, mkl1, mkt2, mkl2, mkt3, mkl3, mkt4, mkl4, mkt5, mkl5, mkt6, mkl6, mkt7, mkl7, v_il0, v_it0, v_il1, v_it1, v_il2, v_it2, v_il3, v_it3, v_il4, v_it4, v_il5, v_it5, v_add, v_addI, v_sub, v_neg, v_mul, v_fdv, v_mod, v_cmp, v_eqs, v_nes, v_eqi, v_nei, v_eqb, v_ixc, opt_some, v_lenl, v_lent, v_lenc, v_tupt, v_tupl, v_intb, v_inti, v_max, v_isn, v_isnn, end_rt, end_nx, fz_int, fz_str, fz_bl, fz_non, List.getElem?_cons_zero, List.getElem?_cons_succ, List.set_cons_zero, List.set_cons_succ, List.length_cons, List.length_nil, List.take_length, Option.map_some, oldLoc, Bool.false_and, Bool.and_false, Bool.true_and, Bool.and_true, Bool.not_true, Bool.not_false, Bool.false_eq_true, decide_true, decide_false, decide_eq_true_eq, if_true, if_false, ↓reduceIte, Nat.reduceAdd, Nat.reduceLeDiff, d, vn]), hk]
    simp -implicitDefEqProofs (disch := omega) only [x_raise, x_notL, end_ex, bind_ok, nox_ok, bind_ex, s_ex, sb_ex, s_ok, sb_nx, sb_rt, sb_ct, sb_bk, onB_bl, onBS_bl, x_var, x_c, x_bin, x_un, x_nil, x_cons, x_tup, x_lst, x_app, x_and, x_or, x_not, x_if, x_box, x_get, x_sl, x_onone, x_osome, x_snil, x_scons, x_set, x_expr, x_ret, x_retB, x_sif, x_bk, x_ct, x_aug, x_asg, x_gname, x_gnil, x_gcons, x_gtup, mkt0, mkl0, mkt1, mkl1, mkt2, mkl2, mkt3, mkl3, mkt4, mkl4, mkt5, mkl5, mkt6, mkl6, mkt7, mkl7, v_il0, v_it0, v_il1, v_it1, v_il2, v_it2, v_il3, v_it3, v_il4, v_it4, v_il5, v_it5, v_add, v_addI, v_sub, v_neg, v_mul, v_fdv, v_mod, v_cmp, v_eqs, v_nes, v_eqi, v_nei, v_eqb, v_ixc, opt_some, v_lenl, v_lent, v_lenc, v_tupt, v_tupl, v_intb, v_inti, v_max, v_isn, v_isnn, end_rt, end_nx, fz_int, fz_str, fz_bl, fz_non, List.getElem?_cons_zero, List.getElem?_cons_succ, List.set_cons_zero, List.set_cons_succ, List.length_cons, List.length_nil, List.take_length, Option.map_some, oldLoc, Bool.false_and, Bool.and_false, Bool.true_and, Bool.and_true, Bool.not_true, Bool.not_false, Bool.false_eq_true, decide_true, decide_false, decide_eq_true_eq, if_true, if_false, ↓reduceIte, Nat.reduceAdd, Nat.reduceLeDiff]
theorem told_row {fs : List Fnc} {i : Nat} {ms : List Nat} {j : Nat} {f : Fnc} {qs : List Row} {r : Row} (hf : fs[i]? = some f) (hq : walkR f.rows ms = some qs) (hr : qs[j]? = some r) {n : Nat} (h : 6 ≤ n) (st : VSt) :
    Fm D n i__law_told [.int 0, .tup (fs.map Fnc.pv), plV (plI i ms j)] st = .ok (.lst [r.pv]) st := by
  obtain ⟨m, rfl⟩ := ge_add (k := 1) (n := n) (by omega)
  rw [c__law_told, b__law_told_q]
  have vr := fun s => F_row_at hf hq hr (n := m) (by omega) s
  have d : decide ((0 : Int) = 0) = true := rfl
  have hp : pures [r.pv] = true := by have z := Row.pures [r]; rw [pvs_map] at z; exact z
  have fz : freeze st st.length (.lst [r.pv]) = .lst [r.pv] := fz_lst hp
  unfold q__law_told_0
  rw [x_scons, try_rt (p := .lst [r.pv]) (s := st) (by simp -implicitDefEqProofs (disch := omega) only [x_raise, x_notL, end_ex, bind_ok, nox_ok, bind_ex, s_ex, sb_ex, s_ok, sb_nx, sb_rt, sb_ct, sb_bk, onB_bl, onBS_bl, x_var, x_c, x_bin, x_un, x_nil, x_cons, x_tup, x_lst, x_app, x_and, x_or, x_not, x_if, x_box, x_get, x_sl, x_onone, x_osome, x_snil, x_scons, x_set, x_expr, x_ret, x_retB, x_sif, x_bk, x_ct, x_aug, x_asg, x_gname, x_gnil, x_gcons, x_gtup, mkt0, mkl0, mkt1, mkl1, mkt2, mkl2, mkt3, mkl3, mkt4, mkl4, mkt5, mkl5, mkt6, mkl6, mkt7, mkl7, v_il0, v_it0, v_il1, v_it1, v_il2, v_it2, v_il3, v_it3, v_il4, v_it4, v_il5, v_it5, v_add, v_addI, v_sub, v_neg, v_mul, v_fdv, v_mod, v_cmp, v_eqs, v_nes, v_eqi, v_nei, v_eqb, v_ixc, opt_some, v_lenl, v_lent, v_lenc, v_tupt, v_tupl, v_intb, v_inti, v_max, v_isn, v_isnn, end_rt, end_nx, fz_int, fz_str, fz_bl, fz_non, List.getElem?_cons_zero, List.getElem?_cons_succ, List.set_cons_zero, List.set_cons_succ, List.length_cons, List.length_nil, List.take_length, Option.map_some, oldLoc, Bool.false_and, Bool.and_false, Bool.true_and, Bool.and_true, Bool.not_true, Bool.not_false, Bool.false_eq_true, decide_true, decide_false, decide_eq_true_eq, if_true, if_false, ↓reduceIte, Nat.reduceAdd, Nat.reduceLeDiff, d, vr])]
  simp -implicitDefEqProofs (disch := omega) only [x_raise, x_notL, end_ex, bind_ok, nox_ok, bind_ex, s_ex, sb_ex, s_ok, sb_nx, sb_rt, sb_ct, sb_bk, onB_bl, onBS_bl, x_var, x_c, x_bin, x_un, x_nil, x_cons, x_tup, x_lst, x_app, x_and, x_or, x_not, x_if, x_box, x_get, x_sl, x_onone, x_osome, x_snil, x_scons, x_set, x_expr, x_ret, x_retB, x_sif, x_bk, x_ct, x_aug, x_asg, x_gname, x_gnil, x_gcons, x_gtup, mkt0, mkl0, mkt1, mkl1, mkt2, mkl2, mkt3, mkl3, mkt4, mkl4, mkt5, mkl5, mkt6, mkl6, mkt7, mkl7, v_il0, v_it0, v_il1, v_it1, v_il2, v_it2, v_il3, v_it3, v_il4, v_it4, v_il5, v_it5, v_add, v_addI, v_sub, v_neg, v_mul, v_fdv, v_mod, v_cmp, v_eqs, v_nes, v_eqi, v_nei, v_eqb, v_ixc, opt_some, v_lenl, v_lent, v_lenc, v_tupt, v_tupl, v_intb, v_inti, v_max, v_isn, v_isnn, end_rt, end_nx, fz_int, fz_str, fz_bl, fz_non, List.getElem?_cons_zero, List.getElem?_cons_succ, List.set_cons_zero, List.set_cons_succ, List.length_cons, List.length_nil, List.take_length, Option.map_some, oldLoc, Bool.false_and, Bool.and_false, Bool.true_and, Bool.and_true, Bool.not_true, Bool.not_false, Bool.false_eq_true, decide_true, decide_false, decide_eq_true_eq, if_true, if_false, ↓reduceIte, Nat.reduceAdd, Nat.reduceLeDiff, fz]
end Lk


namespace Lk
open PySem L2 Vm
/-! ## the law's own likeness: a value is like itself -/
inductive AkP : Nat → PV → Prop
  | non {d : Nat} : AkP d .non
  | str {d : Nat} {x : Str} : AkP d (.str x)
  | int {d : Nat} {i : Int} : AkP d (.int i)
  | tup {d : Nat} {xs : List PV} (h : ∀ x ∈ xs, AkP d x) (hl : xs.length ≤ 1000000) : AkP (d + 1) (.tup xs)
theorem AkP.mono {d : Nat} {p : PV} (h : AkP d p) : ∀ {e : Nat}, d ≤ e → AkP e p := by
  induction h with
  | non => exact fun _ => .non
  | str => exact fun _ => .str
  | int => exact fun _ => .int
  | tup h hl ih =>
    intro e he
    obtain ⟨k, rfl⟩ : ∃ k, e = k + 1 := ⟨e - 1, by omega⟩
    exact .tup (fun x hx => ih x hx (by omega)) hl
theorem at_nat' {xs : List PV} {k : Nat} {x : PV} (h : xs[k]? = some x) : atI xs (0 + (k : Int)) = some x := by
  rw [Int.zero_add]
  exact atI_nat (xs := xs) (j := k) (v := x) h
theorem isk_tt : isaT "tuple" "tuple" = some true := by decide +kernel
theorem isk_tn : isaT "tuple" "NoneType" = some false := by decide +kernel
theorem isk_ts : isaT "tuple" "str" = some false := by decide +kernel
theorem isk_ti : isaT "tuple" "int" = some false := by decide +kernel
theorem isk_sn : isaT "str" "NoneType" = some false := by decide +kernel
theorem isk_ss : isaT "str" "str" = some true := by decide +kernel
theorem isk_si : isaT "str" "int" = some false := by decide +kernel
theorem isk_ii : isaT "int" "int" = some true := by decide +kernel
theorem isk_bi : isaT "bool" "int" = some false := by decide +kernel
theorem vk_eqn {s : VSt} : vEqF false .non .non s = .ok (.bl true) s := by
  have e : SeqAt.shaped PyData.none = true := by decide +kernel
  show (if (SeqAt.shaped PyData.none && SeqAt.shaped PyData.none) = true then Res.ok (PV.bl (if false = true then !PyData.eqv .none .none else PyData.eqv .none .none)) s else Res.bad) = _
  rw [e]; rfl
theorem F_alike : ∀ (d : Nat) (p : PV), AkP d p → ∀ (n : Nat), d + 1 ≤ n → ∀ (st : VSt), Fm D n i__law_alike [p, p] st = .ok (.bl true) st := by
  intro d
  induction d with
  | zero =>
    intro p hp n hn st
    obtain ⟨m, rfl⟩ := ge_add (k := 1) (n := n) (by omega)
    rw [c__law_alike, b__law_alike_q]
    cases hp with
    | non =>
      have t1 := fun s => v_isa (T := "tuple") (p := .non) (st := s) rfl isk_tn
      have t2 := fun s => v_isa (T := "str") (p := .non) (st := s) rfl isk_sn
      unfold q__law_alike_0 q__law_alike_1
      simp -implicitDefEqProofs (disch := omega) only [x_raise, x_notL, end_ex, bind_ok, nox_ok, bind_ex, s_ex, sb_ex, s_ok, sb_nx, sb_rt, sb_ct, sb_bk, onB_bl, onBS_bl, x_var, x_c, x_bin, x_un, x_nil, x_cons, x_tup, x_lst, x_app, x_and, x_or, x_not, x_if, x_box, x_get, x_sl, x_onone, x_osome, x_snil, x_scons, x_set, x_expr, x_ret, x_retB, x_sif, x_bk, x_ct, x_aug, x_asg, x_gname, x_gnil, x_gcons, x_gtup, mkt0, mkl0, mkt1, mkl1, mkt2, mkl2, mkt3, mkl3, mkt4, mkl4, mkt5, mkl5, mkt6, mkl6, mkt7, mkl7, v_il0, v_it0, v_il1, v_it1, v_il2, v_it2, v_il3, v_it3, v_il4, v_it4, v_il5, v_it5, v_add, v_addI, v_sub, v_neg, v_mul, v_fdv, v_mod, v_cmp, v_eqs, v_nes, v_eqi, v_nei, v_eqb, v_ixc, opt_some, v_lenl, v_lent, v_lenc, v_tupt, v_tupl, v_intb, v_inti, v_max, v_isn, v_isnn, end_rt, end_nx, fz_int, fz_str, fz_bl, fz_non, List.getElem?_cons_zero, List.getElem?_cons_succ, List.set_cons_zero, List.set_cons_succ, List.length_cons, List.length_nil, List.take_length, Option.map_some, oldLoc, Bool.false_and, Bool.and_false, Bool.true_and, Bool.and_true, Bool.not_true, Bool.not_false, Bool.false_eq_true, decide_true, decide_false, decide_eq_true_eq, if_true, if_false, ↓reduceIte, Nat.reduceAdd, Nat.reduceLeDiff, t1, t2, Vm.isNon, vk_eqn]
    | str =>
      rename_i x
      have t1 := fun s => v_isa (T := "tuple") (p := .str x) (st := s) rfl isk_ts
      have t2 := fun s => v_isa (T := "str") (p := .str x) (st := s) rfl isk_ss
      unfold q__law_alike_0 q__law_alike_1
      simp -implicitDefEqProofs (disch := omega) only [x_raise, x_notL, end_ex, bind_ok, nox_ok, bind_ex, s_ex, sb_ex, s_ok, sb_nx, sb_rt, sb_ct, sb_bk, onB_bl, onBS_bl, x_var, x_c, x_bin, x_un, x_nil, x_cons, x_tup, x_lst, x_app, x_and, x_or, x_not, x_if, x_box, x_get, x_sl, x_onone, x_osome, x_snil, x_scons, x_set, x_expr, x_ret, x_retB, x_sif, x_bk, x_ct, x_aug, x_asg, x_gname, x_gnil, x_gcons, x_gtup, mkt0, mkl0, mkt1, mkl1, mkt2, mkl2, mkt3, mkl3, mkt4, mkl4, mkt5, mkl5, mkt6, mkl6, mkt7, mkl7, v_il0, v_it0, v_il1, v_it1, v_il2, v_it2, v_il3, v_it3, v_il4, v_it4, v_il5, v_it5, v_add, v_addI, v_sub, v_neg, v_mul, v_fdv, v_mod, v_cmp, v_eqs, v_nes, v_eqi, v_nei, v_eqb, v_ixc, opt_some, v_lenl, v_lent, v_lenc, v_tupt, v_tupl, v_intb, v_inti, v_max, v_isn, v_isnn, end_rt, end_nx, fz_int, fz_str, fz_bl, fz_non, List.getElem?_cons_zero, List.getElem?_cons_succ, List.set_cons_zero, List.set_cons_succ, List.length_cons, List.length_nil, List.take_length, Option.map_some, oldLoc, Bool.false_and, Bool.and_false, Bool.true_and, Bool.and_true, Bool.not_true, Bool.not_false, Bool.false_eq_true, decide_true, decide_false, decide_eq_true_eq, if_true, if_false, ↓reduceIte, Nat.reduceAdd, Nat.reduceLeDiff, t1, t2, Vm.isNon]
    | int =>
      rename_i i
      have t1 := fun s => v_isa (T := "tuple") (p := .int i) (st := s) rfl isk_ti
      have t2 := fun s => v_isa (T := "str") (p := .int i) (st := s) rfl isk_si
      have t3 := fun s => v_isa (T := "int") (p := .int i) (st := s) rfl isk_ii
      have t4 := fun s => v_isa (T := "bool") (p := .int i) (st := s) rfl isk_bi
      unfold q__law_alike_0 q__law_alike_1 q__law_alike_2
      simp -implicitDefEqProofs (disch := omega) only [x_raise, x_notL, end_ex, bind_ok, nox_ok, bind_ex, s_ex, sb_ex, s_ok, sb_nx, sb_rt, sb_ct, sb_bk, onB_bl, onBS_bl, x_var, x_c, x_bin, x_un, x_nil, x_cons, x_tup, x_lst, x_app, x_and, x_or, x_not, x_if, x_box, x_get, x_sl, x_onone, x_osome, x_snil, x_scons, x_set, x_expr, x_ret, x_retB, x_sif, x_bk, x_ct, x_aug, x_asg, x_gname, x_gnil, x_gcons, x_gtup, mkt0, mkl0, mkt1, mkl1, mkt2, mkl2, mkt3, mkl3, mkt4, mkl4, mkt5, mkl5, mkt6, mkl6, mkt7, mkl7, v_il0, v_it0, v_il1, v_it1, v_il2, v_it2, v_il3, v_it3, v_il4, v_it4, v_il5, v_it5, v_add, v_addI, v_sub, v_neg, v_mul, v_fdv, v_mod, v_cmp, v_eqs, v_nes, v_eqi, v_nei, v_eqb, v_ixc, opt_some, v_lenl, v_lent, v_lenc, v_tupt, v_tupl, v_intb, v_inti, v_max, v_isn, v_isnn, end_rt, end_nx, fz_int, fz_str, fz_bl, fz_non, List.getElem?_cons_zero, List.getElem?_cons_succ, List.set_cons_zero, List.set_cons_succ, List.length_cons, List.length_nil, List.take_length, Option.map_some, oldLoc, Bool.false_and, Bool.and_false, Bool.true_and, Bool.and_true, Bool.not_true, Bool.not_false, Bool.false_eq_true, decide_true, decide_false, decide_eq_true_eq, if_true, if_false, ↓reduceIte, Nat.reduceAdd, Nat.reduceLeDiff, t1, t2, t3, t4, Vm.isNon]
  | succ d ih =>
    intro p hp n hn st
    cases hp with
    | non => exact ih .non .non n (by omega) st
    | str => exact ih _ .str n (by omega) st
    | int => exact ih _ .int n (by omega) st
    | tup h hl =>
      rename_i xs
      obtain ⟨m, rfl⟩ := ge_add (k := 1) (n := n) (by omega)
      rw [c__law_alike, b__law_alike_q]
      have t1 := fun s => v_isa (T := "tuple") (p := .tup xs) (st := s) rfl isk_tt
      have hn0 : decide ((xs.length : Int) = (xs.length : Int)) = true := decide_eq_true rfl
      have hc : eComp (iRng1' (eApp vLen (aCons (eVar 1) aNil))) (gName 2) (eNot (eApp (Fm D m i__law_alike) (aCons (eBin vIx (eVar 0) (eVar 2)) (aCons (eBin vIx (eVar 1) (eVar 2)) aNil)))) (eVar 2) [2] [some (.tup xs), some (.tup xs), none] st = .ok (.lst []) st := by
        have z := comp_enc1 (it := iRng1' (eApp vLen (aCons (eVar 1) aNil))) (t := eNot (eApp (Fm D m i__law_alike) (aCons (eBin vIx (eVar 0) (eVar 2)) (aCons (eBin vIx (eVar 1) (eVar 2)) aNil)))) (el := eVar 2) (i := 2) (env := [some (.tup xs), some (.tup xs), none]) (st := st) (j := .rng 0 (xs.length : Int).toNat) (l := List.range xs.length) (enc := fun k : Nat => .int (0 + (k : Int))) (p := fun _ => false) (res := fun k : Nat => .int (0 + (k : Int)))
          (i_rng (i := (xs.length : Int)) (by simp -implicitDefEqProofs (disch := omega) only [x_raise, x_notL, end_ex, bind_ok, nox_ok, bind_ex, s_ex, sb_ex, s_ok, sb_nx, sb_rt, sb_ct, sb_bk, onB_bl, onBS_bl, x_var, x_c, x_bin, x_un, x_nil, x_cons, x_tup, x_lst, x_app, x_and, x_or, x_not, x_if, x_box, x_get, x_sl, x_onone, x_osome, x_snil, x_scons, x_set, x_expr, x_ret, x_retB, x_sif, x_bk, x_ct, x_aug, x_asg, x_gname, x_gnil, x_gcons, x_gtup, mkt0, mkl0, mkt1, mkl1, mkt2, mkl2, mkt3, mkl3, mkt4, mkl4, mkt5, mkl5, mkt6, mkl6, mkt7, mkl7, v_il0, v_it0, v_il1, v_it1, v_il2, v_it2, v_il3, v_it3, v_il4, v_it4, v_il5, v_it5, v_add, v_addI, v_sub, v_neg, v_mul, v_fdv, v_mod, v_cmp, v_eqs, v_nes, v_eqi, v_nei, v_eqb, v_ixc, opt_some, v_lenl, v_lent, v_lenc, v_tupt, v_tupl, v_intb, v_inti, v_max, v_isn, v_isnn, end_rt, end_nx, fz_int, fz_str, fz_bl, fz_non, List.getElem?_cons_zero, List.getElem?_cons_succ, List.set_cons_zero, List.set_cons_succ, List.length_cons, List.length_nil, List.take_length, Option.map_some, oldLoc, Bool.false_and, Bool.and_false, Bool.true_and, Bool.and_true, Bool.not_true, Bool.not_false, Bool.false_eq_true, decide_true, decide_false, decide_eq_true_eq, if_true, if_false, ↓reduceIte, Nat.reduceAdd, Nat.reduceLeDiff]) (by omega) (by omega)) (fun s => rfl) (by rw [List.length_range]; exact hl)
          (fun k hk => by
            have hk' : k < xs.length := List.mem_range.mp hk
            have ea := at_nat' (xs := xs) (List.getElem?_eq_getElem hk')
            have va := fun s => ih xs[k] (h _ (List.getElem_mem hk')) m (by omega) s
            simp -implicitDefEqProofs (disch := omega) only [x_raise, x_notL, end_ex, bind_ok, nox_ok, bind_ex, s_ex, sb_ex, s_ok, sb_nx, sb_rt, sb_ct, sb_bk, onB_bl, onBS_bl, x_var, x_c, x_bin, x_un, x_nil, x_cons, x_tup, x_lst, x_app, x_and, x_or, x_not, x_if, x_box, x_get, x_sl, x_onone, x_osome, x_snil, x_scons, x_set, x_expr, x_ret, x_retB, x_sif, x_bk, x_ct, x_aug, x_asg, x_gname, x_gnil, x_gcons, x_gtup, mkt0, mkl0, mkt1, mkl1, mkt2, mkl2, mkt3, mkl3, mkt4, mkl4, mkt5, mkl5, mkt6, mkl6, mkt7, mkl7, v_il0, v_it0, v_il1, v_it1, v_il2, v_it2, v_il3, v_it3, v_il4, v_it4, v_il5, v_it5, v_add, v_addI, v_sub, v_neg, v_mul, v_fdv, v_mod, v_cmp, v_eqs, v_nes, v_eqi, v_nei, v_eqb, v_ixc, opt_some, v_lenl, v_lent, v_lenc, v_tupt, v_tupl, v_intb, v_inti, v_max, v_isn, v_isnn, end_rt, end_nx, fz_int, fz_str, fz_bl, fz_non, List.getElem?_cons_zero, List.getElem?_cons_succ, List.set_cons_zero, List.set_cons_succ, List.length_cons, List.length_nil, List.take_length, Option.map_some, oldLoc, Bool.false_and, Bool.and_false, Bool.true_and, Bool.and_true, Bool.not_true, Bool.not_false, Bool.false_eq_true, decide_true, decide_false, decide_eq_true_eq, if_true, if_false, ↓reduceIte, Nat.reduceAdd, Nat.reduceLeDiff, v_ixt, ea, va])
          (fun k _ z => by cases z)
        rw [z, List.filter_eq_nil_iff.mpr (by simp)]; rfl
      unfold q__law_alike_0
      simp -implicitDefEqProofs (disch := omega) only [x_raise, x_notL, end_ex, bind_ok, nox_ok, bind_ex, s_ex, sb_ex, s_ok, sb_nx, sb_rt, sb_ct, sb_bk, onB_bl, onBS_bl, x_var, x_c, x_bin, x_un, x_nil, x_cons, x_tup, x_lst, x_app, x_and, x_or, x_not, x_if, x_box, x_get, x_sl, x_onone, x_osome, x_snil, x_scons, x_set, x_expr, x_ret, x_retB, x_sif, x_bk, x_ct, x_aug, x_asg, x_gname, x_gnil, x_gcons, x_gtup, mkt0, mkl0, mkt1, mkl1, mkt2, mkl2, mkt3, mkl3, mkt4, mkl4, mkt5, mkl5, mkt6, mkl6, mkt7, mkl7, v_il0, v_it0, v_il1, v_it1, v_il2, v_it2, v_il3, v_it3, v_il4, v_it4, v_il5, v_it5, v_add, v_addI, v_sub, v_neg, v_mul, v_fdv, v_mod, v_cmp, v_eqs, v_nes, v_eqi, v_nei, v_eqb, v_ixc, opt_some, v_lenl, v_lent, v_lenc, v_tupt, v_tupl, v_intb, v_inti, v_max, v_isn, v_isnn, end_rt, end_nx, fz_int, fz_str, fz_bl, fz_non, List.getElem?_cons_zero, List.getElem?_cons_succ, List.set_cons_zero, List.set_cons_succ, List.length_cons, List.length_nil, List.take_length, Option.map_some, oldLoc, Bool.false_and, Bool.and_false, Bool.true_and, Bool.and_true, Bool.not_true, Bool.not_false, Bool.false_eq_true, decide_true, decide_false, decide_eq_true_eq, if_true, if_false, ↓reduceIte, Nat.reduceAdd, Nat.reduceLeDiff, t1, hn0, hc, List.isEmpty_nil]
theorem ak_trm : ∀ t : Trm, AkP (t.depth + 1) t.pv
  | .num n => .tup (fun x hx => by
      rcases List.mem_cons.mp hx with rfl | hx
      · exact .str
      · rcases List.mem_cons.mp hx with rfl | hx
        · exact .int
        · cases hx) (by show 2 ≤ _; omega)
  | .name y => .tup (fun x hx => by
      rcases List.mem_cons.mp hx with rfl | hx
      · exact .str
      · rcases List.mem_cons.mp hx with rfl | hx
        · exact .str
        · cases hx) (by show 2 ≤ _; omega)
  | .bin k a b => by
    have ha := ak_trm a
    have hb := ak_trm b
    show AkP (max a.depth b.depth + 1 + 1) (.tup [.str (opS k), a.pv, b.pv])
    exact .tup (fun x hx => by
      rcases List.mem_cons.mp hx with rfl | hx
      · exact .str
      · rcases List.mem_cons.mp hx with rfl | hx
        · exact ha.mono (by omega)
        · rcases List.mem_cons.mp hx with rfl | hx
          · exact hb.mono (by omega)
          · cases hx) (by show 3 ≤ _; omega)
theorem tot_ge : ∀ ts : List Trm, ts.length ≤ tot ts
  | [] => Nat.zero_le _
  | t :: ts => by
    have h1 := tot_ge ts
    have h2 : 1 ≤ t.size := by cases t <;> simp [Trm.size]
    show ts.length + 1 ≤ t.size + tot ts
    omega
theorem szs_ge : ∀ rs : List Row, rs.length ≤ Row.szs rs
  | [] => Nat.zero_le _
  | r :: rs => by
    have h1 := szs_ge rs
    have h2 : 1 ≤ r.sz := by cases r <;> rw [Row.sz] <;> omega
    rw [Row.szs]
    show rs.length + 1 ≤ _
    omega
theorem ak_opt {d : Nat} (x : Option Str) : AkP d (optS x) := by
  cases x with
  | none => exact .non
  | some y => exact .str
mutual
theorem ak_row : ∀ r : Row, r.Gd → r.sz ≤ 1000000 → AkP (5 + 2 * r.lvl) r.pv
  | .set y t, g, _ => by
    unfold Row.Gd at g
    rw [Row.pv]
    have ht := ak_trm t
    exact .tup (d := 4 + 2 * (Row.set y t).lvl) (fun x hx => by
      rcases List.mem_cons.mp hx with rfl | hx
      · exact .str
      · rcases List.mem_cons.mp hx with rfl | hx
        · exact .str
        · rcases List.mem_cons.mp hx with rfl | hx
          · exact ht.mono (by have := g.2.2; omega)
          · cases hx) (by show 3 ≤ _; omega)
  | .tell t, g, _ => by
    unfold Row.Gd at g
    rw [Row.pv]
    have ht := ak_trm t
    exact .tup (d := 4 + 2 * (Row.tell t).lvl) (fun x hx => by
      rcases List.mem_cons.mp hx with rfl | hx
      · exact .str
      · rcases List.mem_cons.mp hx with rfl | hx
        · exact ht.mono (by have := g.2; omega)
        · cases hx) (by show 2 ≤ _; omega)
  | .call y f ts, g, hz => by
    unfold Row.Gd at g
    rw [Row.sz] at hz
    rw [Row.pv]
    have h1 := tot_ge ts
    exact .tup (d := 4 + 2 * (Row.call y f ts).lvl) (fun x hx => by
      rcases List.mem_cons.mp hx with rfl | hx
      · exact .str
      · rcases List.mem_cons.mp hx with rfl | hx
        · exact ak_opt y
        · rcases List.mem_cons.mp hx with rfl | hx
          · exact .str
          · rcases List.mem_cons.mp hx with rfl | hx
            · refine (AkP.tup (d := 3) (fun z hz' => ?_) (by rw [List.length_map]; omega)).mono (by omega)
              obtain ⟨t, ht, rfl⟩ := List.mem_map.mp hz'
              exact (ak_trm t).mono (by have := (g.2.2 t ht).2; omega)
            · cases hx) (by show 4 ≤ _; omega)
  | .when t rs, g, hz => by
    unfold Row.Gd at g
    rw [Row.sz] at hz
    rw [Row.pv, Row.lvl]
    have ht := ak_trm t
    have hr := ak_rows rs g.2.2 (by omega)
    have h1 := szs_ge rs
    exact (AkP.tup (d := 6 + 2 * Row.lvls rs) (fun x hx => by
      rcases List.mem_cons.mp hx with rfl | hx
      · exact .str
      · rcases List.mem_cons.mp hx with rfl | hx
        · exact ht.mono (by have := g.2.1; omega)
        · rcases List.mem_cons.mp hx with rfl | hx
          · exact (AkP.tup (d := 5 + 2 * Row.lvls rs) hr (by rw [pvs_map, List.length_map]; omega)).mono (by omega)
          · cases hx) (by show 3 ≤ _; omega)).mono (by omega)
  | .again c rs, g, hz => by
    unfold Row.Gd at g
    rw [Row.sz] at hz
    rw [Row.pv, Row.lvl]
    have hr := ak_rows rs g.2.2 (by omega)
    have h1 := szs_ge rs
    exact (AkP.tup (d := 6 + 2 * Row.lvls rs) (fun x hx => by
      rcases List.mem_cons.mp hx with rfl | hx
      · exact .str
      · rcases List.mem_cons.mp hx with rfl | hx
        · exact .int
        · rcases List.mem_cons.mp hx with rfl | hx
          · exact (AkP.tup (d := 5 + 2 * Row.lvls rs) hr (by rw [pvs_map, List.length_map]; omega)).mono (by omega)
          · cases hx) (by show 3 ≤ _; omega)).mono (by omega)
theorem ak_rows : ∀ rs : List Row, Row.Gds rs → Row.szs rs ≤ 1000000 → ∀ x ∈ Row.pvs rs, AkP (5 + 2 * Row.lvls rs) x
  | [], _, _, x, hx => by rw [Row.pvs] at hx; cases hx
  | r :: rs, g, hz, x, hx => by
    rw [gds_cons] at g
    rw [szs_cons] at hz
    rw [Row.pvs] at hx
    rw [lvls_cons]
    rcases List.mem_cons.mp hx with rfl | hx
    · exact (ak_row r g.1 (by omega)).mono (by omega)
    · exact (ak_rows rs g.2 (by omega) x hx).mono (by omega)
end
end Lk


namespace Lk
open PySem L2 Vm
/-! ## a place that the program does not have -/
theorem around_walk : ∀ (ms : List Nat) (rs qs : List Row) (ks : List Int), walkR rs ms = some qs → aroundF rs (ms.map (fun k : Nat => (k : Int)) ++ ks) = aroundF qs ks
  | [], rs, qs, ks, h => by cases h; rfl
  | m :: ms, rs, qs, ks, h => by
    obtain ⟨r, hr, hb, hw⟩ := walk_cons h
    have hlt := (List.getElem?_eq_some_iff.mp hr).1
    show aroundF rs ((m : Int) :: (ms.map (fun k : Nat => (k : Int)) ++ ks)) = _
    rw [aroundF, if_pos (by omega), show ((m : Int).toNat) = m by omega, hr]
    dsimp only
    rw [if_pos hb]
    exact around_walk ms (blkF r) qs ks hw
def cs9 (i n : Nat) (l far : Int) : List (List Int) := [[(i : Int), -1], [(i : Int), l], [(n : Int) + far, 0], [-1 - far, 0], [(i : Int)], [], [(i : Int), l + far], [(i : Int), 0, -1 - far], [(i : Int), l, 0]]
def leavesF (i : Nat) (rs : List Row) (b : Int) : List (List Int) := ((plcL [(i : Int)] 0 rs).filter fun p => (blkF p.2).isEmpty).map fun p => p.1 ++ [b]
theorem cands_none {fs : List Fnc} {i : Nat} {f : Fnc} (hf : fs[i]? = some f) {far : Int} (h0 : 0 ≤ far) : ∀ pl ∈ cs9 i fs.length (f.rows.length : Int) far ++ leavesF i f.rows (far % 2), NoRow fs pl := fun pl hp => by
  rcases List.mem_append.mp hp with hp | hp
  · have ar0 : ∀ qs, aroundF f.rows [] = some qs → qs = f.rows := fun qs e => by cases e; rfl
    have arL : aroundF f.rows [(f.rows.length : Int)] = none := by rw [aroundF, if_neg (by omega)]
    unfold cs9 at hp
    rcases List.mem_cons.mp hp with rfl | hp
    · exact noRow_in (ks := []) (x := -1) hf fun qs e => .inl (by omega)
    rcases List.mem_cons.mp hp with rfl | hp
    · exact noRow_in (ks := []) (x := (f.rows.length : Int)) hf fun qs e => .inr (by rw [ar0 qs e]; omega)
    rcases List.mem_cons.mp hp with rfl | hp
    · exact noRow_ar (noArO fs ((fs.length : Int) + far) [] 0 (.inr (by omega)))
    rcases List.mem_cons.mp hp with rfl | hp
    · exact noRow_ar (noArO fs (-1 - far) [] 0 (.inl (by omega)))
    rcases List.mem_cons.mp hp with rfl | hp
    · exact noRow_ar (noAr1 fs _)
    rcases List.mem_cons.mp hp with rfl | hp
    · exact noRow_ar (noAr0 fs)
    rcases List.mem_cons.mp hp with rfl | hp
    · exact noRow_in (ks := []) (x := (f.rows.length : Int) + far) hf fun qs e => .inr (by rw [ar0 qs e]; omega)
    rcases List.mem_cons.mp hp with rfl | hp
    · exact noRow_in (ks := [0]) (x := -1 - far) hf fun qs e => .inl (by omega)
    rcases List.mem_cons.mp hp with rfl | hp
    · exact noRow_in (ks := [(f.rows.length : Int)]) (x := 0) hf fun qs e => by rw [arL] at e; cases e
    cases hp
  · unfold leavesF at hp
    obtain ⟨p, hp1, rfl⟩ := List.mem_map.mp hp
    obtain ⟨hp2, he⟩ := List.mem_filter.mp hp1
    obtain ⟨ms, j, qs, h1, h2, h3, _⟩ := plcL_way i [] 0 f.rows f.rows f.rows rfl rfl p hp2
    have hb : blkF p.2 = [] := List.isEmpty_iff.mp he
    have e1 : p.1 ++ [far % 2] = plG i (ms.map (fun k : Nat => (k : Int)) ++ [(j : Int)]) (far % 2) := by rw [h1]; rfl
    rw [e1]
    have hlt := (List.getElem?_eq_some_iff.mp h3).1
    refine noRow_in hf fun qs' e => .inr ?_
    rw [around_walk ms f.rows qs [(j : Int)] h2, aroundF, if_pos (by omega), show ((j : Int).toNat) = j by omega, h3] at e
    dsimp only at e
    by_cases hbb : hasB p.2 = true
    · rw [if_pos hbb, hb] at e
      cases e
      have := Int.emod_nonneg far (show (2 : Int) ≠ 0 by decide)
      simpa using this
    · rw [if_neg hbb] at e; cases e
theorem pow1020 (s : VSt) : vPow (.int 10) (.int 20) s = .ok (.int 100000000000000000000) s := by
  unfold vPow
  dsimp only
  rw [if_pos (by decide)]
  exact Eq.trans rfl rfl
theorem v_emt {rs : List Row} (g : Row.Gds rs) (h : Row.lvls rs ≤ 9) (s : VSt) : vEqF false (.tup (Row.pvs rs)) (.tup []) s = .ok (.bl rs.isEmpty) s := by
  obtain ⟨s1, s2⟩ := Row.soks rs g
  rw [v_nilt s1 (by omega), pvs_map]
  cases rs <;> rfl
theorem v_addP {xs ys : List (List Int)} {s : VSt} (h : xs.length + ys.length ≤ 1000000) : vAdd (.lst (xs.map plV)) (.lst (ys.map plV)) s = .ok (.lst ((xs ++ ys).map plV)) s := by
  rw [v_addl (by rw [List.length_map, List.length_map]; exact h), List.map_append]
theorem F_none {ws : List Str} {fs : List Fnc} (hpd : ∀ f ∈ fs, f.Pd ws) (h0 : 0 < fs.length) (hl : fs.length ≤ 1000) (c : Int) {n : Nat} (hn : 13 ≤ n) :
    ∃ pl, NoRow fs pl ∧ ∀ st : VSt, Fm D n i__law_none [.tup (fs.map Fnc.pv), .int c] st = .ok (plV pl) st := by
  obtain ⟨m, rfl⟩ := ge_add (k := 1) (n := n) (by omega)
  have i0 : 0 ≤ c / 6 % (fs.length : Int) := Int.emod_nonneg _ (by omega)
  have i1 : c / 6 % (fs.length : Int) < fs.length := Int.emod_lt_of_pos _ (by omega)
  obtain ⟨i, hi⟩ : ∃ i : Nat, c / 6 % (fs.length : Int) = (i : Int) := ⟨(c / 6 % (fs.length : Int)).toNat, by omega⟩
  have hil : i < fs.length := by omega
  obtain ⟨f, hf⟩ : ∃ f, fs[i]? = some f := ⟨fs[i], List.getElem?_eq_getElem hil⟩
  have pd := hpd f (List.mem_of_getElem? hf)
  have f0 : 0 ≤ c / 30 % 100000000000000000000 := Int.emod_nonneg _ (by decide)
  generalize hfar : c / 30 % 100000000000000000000 = far at f0
  have hlen : (fs.map Fnc.pv).length = fs.length := List.length_map _
  have hlr : (Row.pvs f.rows).length = f.rows.length := by rw [pvs_map, List.length_map]
  have hz := szs_ge f.rows
  have hrs := pd.rs
  have hlv := pd.lv
  have vf := fun s => v_fnct (st := s) hf
  have pl1 := plcL_len [(i : Int)] 0 f.rows
  have vp := fun s => F_places (rs := f.rows) (by omega) (n := m) (pl := [(i : Int)]) (by show 1 + _ + 1 < 1000; omega) (by omega) s
  have ep : plV [(i : Int)] = .tup [.int (i : Int)] := rfl
  rw [ep] at vp
  have hcomp : ∀ (st : VSt) (z5 z6 z7 : Option PV), eComp (iSeq (eApp (Fm D m i__law_places) (aCons (eTup (aCons (eVar 2) aNil)) (aCons (eVar 3) aNil)))) (gName 7) (eBin (vEqF false) (eApp (Fm D m i__law_block) (aCons (eBin vIx (eVar 7) (eC (.int 1))) aNil)) (eTup aNil)) (eBin vAdd (eBin vIx (eVar 7) (eC (.int 0))) (eTup (aCons (eBin vMod (eVar 4) (eC (.int 2))) aNil))) [7]
      [some (.tup (fs.map Fnc.pv)), some (.int c), some (.int (i : Int)), some (.tup (Row.pvs f.rows)), some (.int far), z5, z6, z7] st = .ok (.lst ((leavesF i f.rows (far % 2)).map plV)) st := fun st z5 z6 z7 => by
    have z := comp_enc1 (j := .seq (.lst ((plcL [(i : Int)] 0 f.rows).map prV))) (l := plcL [(i : Int)] 0 f.rows) (enc := prV) (p := fun p => (blkF p.2).isEmpty) (res := fun p => plV (p.1 ++ [far % 2]))
      (it := iSeq (eApp (Fm D m i__law_places) (aCons (eTup (aCons (eVar 2) aNil)) (aCons (eVar 3) aNil)))) (i := 7) (t := eBin (vEqF false) (eApp (Fm D m i__law_block) (aCons (eBin vIx (eVar 7) (eC (.int 1))) aNil)) (eTup aNil)) (el := eBin vAdd (eBin vIx (eVar 7) (eC (.int 0))) (eTup (aCons (eBin vMod (eVar 4) (eC (.int 2))) aNil)))
      (env := [some (.tup (fs.map Fnc.pv)), some (.int c), some (.int (i : Int)), some (.tup (Row.pvs f.rows)), some (.int far), z5, z6, z7]) (st := st)
      (i_lst (by simp -implicitDefEqProofs (disch := omega) only [x_raise, x_notL, end_ex, bind_ok, nox_ok, bind_ex, s_ex, sb_ex, s_ok, sb_nx, sb_rt, sb_ct, sb_bk, onB_bl, onBS_bl, x_var, x_c, x_bin, x_un, x_nil, x_cons, x_tup, x_lst, x_app, x_and, x_or, x_not, x_if, x_box, x_get, x_sl, x_onone, x_osome, x_snil, x_scons, x_set, x_expr, x_ret, x_retB, x_sif, x_bk, x_ct, x_aug, x_asg, x_gname, x_gnil, x_gcons, x_gtup, mkt0, mkl0, mkt1, mkl1, mkt2, mkl2, mkt3, mkl3, mkt4, mkl4, mkt5, mkl5, mkt6, mkl6, mkt7, mkl7, v_il0, v_it0, v_il1, v_it1, v_il2, v_it2, v_il3, v_it3, v_il4, v_it4, v_il5, v_it5, v_add, v_addI, v_sub, v_neg, v_mul, v_fdv, v_mod, v_cmp, v_eqs, v_nes, v_eqi, v_nei, v_eqb, v_ixc, opt_some, v_lenl, v_lent, v_lenc, v_tupt, v_tupl, v_intb, v_inti, v_max, v_isn, v_isnn, end_rt, end_nx, fz_int, fz_str, fz_bl, fz_non, List.getElem?_cons_zero, List.getElem?_cons_succ, List.set_cons_zero, List.set_cons_succ, List.length_cons, List.length_nil, List.take_length, Option.map_some, oldLoc, Bool.false_and, Bool.and_false, Bool.true_and, Bool.and_true, Bool.not_true, Bool.not_false, Bool.false_eq_true, decide_true, decide_false, decide_eq_true_eq, if_true, if_false, ↓reduceIte, Nat.reduceAdd, Nat.reduceLeDiff, vp])) (fun s => rfl) (by omega)
      (fun p hp => by
        have q := plcL_all (P := fun r : Row => r.Pd ws) (fun r h => h.blk) [(i : Int)] 0 f.rows (rows_pd pd) p hp
        have se := fun s => v_emt (blk_gd q.gd) (lvls_le fun s hs => by have := blk_lvl hs; have := q.lv; omega) s
        have hb := fun s => F_block (m - 1) p.2 s
        rw [show m - 1 + 1 = m by omega] at hb
        unfold prV
        simp -implicitDefEqProofs (disch := omega) only [x_raise, x_notL, end_ex, bind_ok, nox_ok, bind_ex, s_ex, sb_ex, s_ok, sb_nx, sb_rt, sb_ct, sb_bk, onB_bl, onBS_bl, x_var, x_c, x_bin, x_un, x_nil, x_cons, x_tup, x_lst, x_app, x_and, x_or, x_not, x_if, x_box, x_get, x_sl, x_onone, x_osome, x_snil, x_scons, x_set, x_expr, x_ret, x_retB, x_sif, x_bk, x_ct, x_aug, x_asg, x_gname, x_gnil, x_gcons, x_gtup, mkt0, mkl0, mkt1, mkl1, mkt2, mkl2, mkt3, mkl3, mkt4, mkl4, mkt5, mkl5, mkt6, mkl6, mkt7, mkl7, v_il0, v_it0, v_il1, v_it1, v_il2, v_it2, v_il3, v_it3, v_il4, v_it4, v_il5, v_it5, v_add, v_addI, v_sub, v_neg, v_mul, v_fdv, v_mod, v_cmp, v_eqs, v_nes, v_eqi, v_nei, v_eqb, v_ixc, opt_some, v_lenl, v_lent, v_lenc, v_tupt, v_tupl, v_intb, v_inti, v_max, v_isn, v_isnn, end_rt, end_nx, fz_int, fz_str, fz_bl, fz_non, List.getElem?_cons_zero, List.getElem?_cons_succ, List.set_cons_zero, List.set_cons_succ, List.length_cons, List.length_nil, List.take_length, Option.map_some, oldLoc, Bool.false_and, Bool.and_false, Bool.true_and, Bool.and_true, Bool.not_true, Bool.not_false, Bool.false_eq_true, decide_true, decide_false, decide_eq_true_eq, if_true, if_false, ↓reduceIte, Nat.reduceAdd, Nat.reduceLeDiff, hb, se])
      (fun p hp _ => by
        obtain ⟨ms, j, qs, e1, _, _, e4⟩ := plcL_way i [] 0 f.rows f.rows f.rows rfl rfl p hp
        have hpl : (p.1.map PV.int).length ≤ 1000 := by
          rw [e1, List.length_map]
          show (ms.map (fun k : Nat => (k : Int)) ++ [(j : Int)]).length + 1 ≤ 1000
          rw [List.length_append, List.length_map]
          simp at e4 ⊢
          omega
        have ad : ∀ s, vAdd (plV p.1) (.tup [.int (far % 2)]) s = .ok (plV (p.1 ++ [far % 2])) s := fun s => by
          unfold plV
          rw [v_addt (by show _ + 1 ≤ _; omega), List.map_append]; rfl
        unfold prV
        simp -implicitDefEqProofs (disch := omega) only [x_raise, x_notL, end_ex, bind_ok, nox_ok, bind_ex, s_ex, sb_ex, s_ok, sb_nx, sb_rt, sb_ct, sb_bk, onB_bl, onBS_bl, x_var, x_c, x_bin, x_un, x_nil, x_cons, x_tup, x_lst, x_app, x_and, x_or, x_not, x_if, x_box, x_get, x_sl, x_onone, x_osome, x_snil, x_scons, x_set, x_expr, x_ret, x_retB, x_sif, x_bk, x_ct, x_aug, x_asg, x_gname, x_gnil, x_gcons, x_gtup, mkt0, mkl0, mkt1, mkl1, mkt2, mkl2, mkt3, mkl3, mkt4, mkl4, mkt5, mkl5, mkt6, mkl6, mkt7, mkl7, v_il0, v_it0, v_il1, v_it1, v_il2, v_it2, v_il3, v_it3, v_il4, v_it4, v_il5, v_it5, v_add, v_addI, v_sub, v_neg, v_mul, v_fdv, v_mod, v_cmp, v_eqs, v_nes, v_eqi, v_nei, v_eqb, v_ixc, opt_some, v_lenl, v_lent, v_lenc, v_tupt, v_tupl, v_intb, v_inti, v_max, v_isn, v_isnn, end_rt, end_nx, fz_int, fz_str, fz_bl, fz_non, List.getElem?_cons_zero, List.getElem?_cons_succ, List.set_cons_zero, List.set_cons_succ, List.length_cons, List.length_nil, List.take_length, Option.map_some, oldLoc, Bool.false_and, Bool.and_false, Bool.true_and, Bool.and_true, Bool.not_true, Bool.not_false, Bool.false_eq_true, decide_true, decide_false, decide_eq_true_eq, if_true, if_false, ↓reduceIte, Nat.reduceAdd, Nat.reduceLeDiff, ad])
    rw [z]
    unfold leavesF
    rw [List.map_map]; rfl
  have ll : (leavesF i f.rows (far % 2)).length ≤ 2000 := by
    unfold leavesF
    rw [List.length_map]
    have := List.length_filter_le (fun p : List Int × Row => (blkF p.2).isEmpty) (plcL [(i : Int)] 0 f.rows)
    omega
  have c9 : (cs9 i fs.length (f.rows.length : Int) far).length = 9 := rfl
  let cands := cs9 i fs.length (f.rows.length : Int) far ++ leavesF i f.rows (far % 2)
  have cl : cands.length = 9 + (leavesF i f.rows (far % 2)).length := by show (cs9 i fs.length (f.rows.length : Int) far ++ leavesF i f.rows (far % 2)).length = _; rw [List.length_append, c9]
  have j0 : 0 ≤ c % (9 + ((leavesF i f.rows (far % 2)).length : Int)) := Int.emod_nonneg _ (by omega)
  have j1 : c % (9 + ((leavesF i f.rows (far % 2)).length : Int)) < 9 + ((leavesF i f.rows (far % 2)).length : Int) := Int.emod_lt_of_pos _ (by omega)
  have jl : (c % (9 + ((leavesF i f.rows (far % 2)).length : Int))).toNat < cands.length := by rw [cl]; omega
  refine ⟨cands[(c % (9 + ((leavesF i f.rows (far % 2)).length : Int))).toNat], cands_none hf f0 _ (List.getElem_mem jl), fun st => ?_⟩
  have hix : ∀ s, vIx (.lst (cands.map plV)) (.int (c % (9 + ((leavesF i f.rows (far % 2)).length : Int)))) s = .ok (plV cands[(c % (9 + ((leavesF i f.rows (far % 2)).length : Int))).toNat]) s := fun s => by
    rw [v_ixl, at_in j0 (by rw [List.length_map, cl]; omega), List.getElem_map]
    exact opt_some
  have adA : ∀ s, vAdd (.lst [.tup [.int (i : Int), .int (-1)], .tup [.int (i : Int), .int (f.rows.length : Int)], .tup [.int ((fs.length : Int) + far), .int 0], .tup [.int (-1 - far), .int 0], .tup [.int (i : Int)], .tup []])
      (.lst [.tup [.int (i : Int), .int ((f.rows.length : Int) + far)], .tup [.int (i : Int), .int 0, .int (-1 - far)], .tup [.int (i : Int), .int (f.rows.length : Int), .int 0]]) s = .ok (.lst ((cs9 i fs.length (f.rows.length : Int) far).map plV)) s := fun s => by
    rw [v_addl (by show 6 + 3 ≤ _; omega)]; rfl
  have adB : ∀ s, vAdd (.lst ((cs9 i fs.length (f.rows.length : Int) far).map plV)) (.lst ((leavesF i f.rows (far % 2)).map plV)) s = .ok (.lst (cands.map plV)) s := fun s => v_addP (by rw [c9]; omega)
  have lnl : ((leavesF i f.rows (far % 2)).map plV).length = (leavesF i f.rows (far % 2)).length := List.length_map _
  have fz : ∀ (st : VSt) pl, freeze st st.length (plV pl) = plV pl := fun st pl => freeze_pure _ (plV_pure pl)
  rw [c__law_none, b__law_none_q]
  unfold q__law_none_0 q__law_none_1 q__law_none_2 q__law_none_3 q__law_none_4 q__law_none_5 q__law_none_6
  simp -implicitDefEqProofs (disch := omega) only [x_raise, x_notL, end_ex, bind_ok, nox_ok, bind_ex, s_ex, sb_ex, s_ok, sb_nx, sb_rt, sb_ct, sb_bk, onB_bl, onBS_bl, x_var, x_c, x_bin, x_un, x_nil, x_cons, x_tup, x_lst, x_app, x_and, x_or, x_not, x_if, x_box, x_get, x_sl, x_onone, x_osome, x_snil, x_scons, x_set, x_expr, x_ret, x_retB, x_sif, x_bk, x_ct, x_aug, x_asg, x_gname, x_gnil, x_gcons, x_gtup, mkt0, mkl0, mkt1, mkl1, mkt2, mkl2, mkt3, mkl3, mkt4, mkl4, mkt5, mkl5, mkt6, mkl6, mkt7, mkl7, v_il0, v_it0, v_il1, v_it1, v_il2, v_it2, v_il3, v_it3, v_il4, v_it4, v_il5, v_it5, v_add, v_addI, v_sub, v_neg, v_mul, v_fdv, v_mod, v_cmp, v_eqs, v_nes, v_eqi, v_nei, v_eqb, v_ixc, opt_some, v_lenl, v_lent, v_lenc, v_tupt, v_tupl, v_intb, v_inti, v_max, v_isn, v_isnn, end_rt, end_nx, fz_int, fz_str, fz_bl, fz_non, List.getElem?_cons_zero, List.getElem?_cons_succ, List.set_cons_zero, List.set_cons_succ, List.length_cons, List.length_nil, List.take_length, Option.map_some, oldLoc, Bool.false_and, Bool.and_false, Bool.true_and, Bool.and_true, Bool.not_true, Bool.not_false, Bool.false_eq_true, decide_true, decide_false, decide_eq_true_eq, if_true, if_false, ↓reduceIte, Nat.reduceAdd, Nat.reduceLeDiff, hlen, hi, vf, v_f2, pow1020, hfar, hlr, adA, hcomp, adB, lnl, hix, fz]
end Lk


namespace Lk
open PySem L2 Vm
theorem soks_map {α : Type} (g : α → PV) : ∀ l : List α, (∀ a ∈ l, sokP (g a) = true) → soks (l.map g) = true
  | [], _ => rfl
  | a :: l, h => by
    show (sokP (g a) && soks (l.map g)) = true
    rw [h a List.mem_cons_self, soks_map g l fun b hb => h b (List.mem_cons_of_mem _ hb)]; rfl
theorem deps_map {α : Type} (g : α → PV) (n : Nat) : ∀ l : List α, (∀ a ∈ l, depP (g a) ≤ n) → deps (l.map g) ≤ n
  | [], _ => Nat.zero_le _
  | a :: l, h => by
    have h1 := h a List.mem_cons_self
    have h2 := deps_map g n l fun b hb => h b (List.mem_cons_of_mem _ hb)
    show max (depP (g a)) (deps (l.map g)) ≤ n
    omega
theorem sok_plV (pl : List Int) : sokP (plV pl) = true := soks_map PV.int pl fun _ _ => rfl
theorem dep_plV (pl : List Int) : depP (plV pl) ≤ 1 := by
  have := deps_map PV.int 0 pl fun _ _ => Nat.le_refl _
  show deps (pl.map PV.int) + 1 ≤ 1
  omega
theorem sok_prV {p : List Int × Row} (g : p.2.Gd) (h : p.2.lvl ≤ 9) : sokP (prV p) = true ∧ depP (prV p) ≤ 30 := by
  obtain ⟨s1, s2⟩ := Row.sok p.2 g
  have s3 := dep_plV p.1
  refine ⟨?_, ?_⟩
  · show (sokP (plV p.1) && (sokP p.2.pv && true)) = true
    rw [sok_plV, s1]; rfl
  · show max (depP (plV p.1)) (max (depP p.2.pv) 0) + 1 ≤ 30
    omega
abbrev Lv : Nat := 200
theorem main (ns : List Int) (_ : ns.length ≤ 63) : ∃ st, callI d_law (Fm D Lv) [.scr ns] [] = .ok (.bl true) st := by
  rw [call_np rfl]
  show ∃ st, endI false 0 (b_law (Fm D Lv) [some (.scr ns), none, none, none, none, none] []) = _
  have hp := fun s => F_program' (n := Lv) (by decide) ns s
  have hc0 : ∀ s, Fm D Lv i__law_cell [.scr ns, .int 0] s = .ok (.int (cellF ns 0)) s := fun s => F_cell' (n := Lv) (by decide) ns 0 s
  have hc1 : ∀ s, Fm D Lv i__law_cell [.scr ns, .int 1] s = .ok (.int (cellF ns 1)) s := fun s => F_cell' (n := Lv) (by decide) ns 1 s
  obtain ⟨pl1, pl2⟩ := prog_len ns
  have hz := prog_szs ns
  have ha := fun s => F_all (fs := progF ns) (L := 9) (fun f hf => (prog_pd ns f hf).lv) (by omega) (by omega) (by omega) (n := Lv) (by decide) s
  have al := allF_len 0 (progF ns)
  have hs1 : soks ((allF 0 (progF ns)).map prV) = true := soks_map prV _ fun p hp => (sok_prV (all_pd ns p hp).gd (all_pd ns p hp).lv).1
  have hs2 : deps ((allF 0 (progF ns)).map prV) ≤ 30 := deps_map prV 30 _ fun p hp => (sok_prV (all_pd ns p hp).gd (all_pd ns p hp).lv).2
  have hnil : ∀ s, vEqF false (.lst ((allF 0 (progF ns)).map prV)) (.lst []) s = .ok (.bl (allF 0 (progF ns)).isEmpty) s := fun s => by
    rw [v_nil hs1 (by omega)]
    cases allF 0 (progF ns) <;> rfl
  obtain ⟨pl, hno, hnv⟩ := F_none (prog_pd ns) (by omega) (by omega) (cellF ns 1) (n := Lv) (by decide)
  have t0 := fun s => told_none hno (n := Lv) (by decide) 0 s
  have t1 := fun s => told_none hno (n := Lv) (by decide) 1 s
  have eqp : ∀ s, vEqF false (.str "place") (.str "place") s = .ok (.bl true) s := fun s => by rw [v_eqs]; rfl
  rw [b_law_q]
  by_cases hd : cellF ns 0 % 3 = 0
  · have d : decide (cellF ns 0 % 3 = 0) = true := decide_eq_true hd
    unfold q_law_0 q_law_1 q_law_2
    refine ⟨[], ?_⟩
    simp -implicitDefEqProofs (disch := omega) only [x_raise, x_notL, end_ex, bind_ok, nox_ok, bind_ex, s_ex, sb_ex, s_ok, sb_nx, sb_rt, sb_ct, sb_bk, onB_bl, onBS_bl, x_var, x_c, x_bin, x_un, x_nil, x_cons, x_tup, x_lst, x_app, x_and, x_or, x_not, x_if, x_box, x_get, x_sl, x_onone, x_osome, x_snil, x_scons, x_set, x_expr, x_ret, x_retB, x_sif, x_bk, x_ct, x_aug, x_asg, x_gname, x_gnil, x_gcons, x_gtup, mkt0, mkl0, mkt1, mkl1, mkt2, mkl2, mkt3, mkl3, mkt4, mkl4, mkt5, mkl5, mkt6, mkl6, mkt7, mkl7, v_il0, v_it0, v_il1, v_it1, v_il2, v_it2, v_il3, v_it3, v_il4, v_it4, v_il5, v_it5, v_add, v_addI, v_sub, v_neg, v_mul, v_fdv, v_mod, v_cmp, v_eqs, v_nes, v_eqi, v_nei, v_eqb, v_ixc, opt_some, v_lenl, v_lent, v_lenc, v_tupt, v_tupl, v_intb, v_inti, v_max, v_isn, v_isnn, end_rt, end_nx, fz_int, fz_str, fz_bl, fz_non, List.getElem?_cons_zero, List.getElem?_cons_succ, List.set_cons_zero, List.set_cons_succ, List.length_cons, List.length_nil, List.take_length, Option.map_some, oldLoc, Bool.false_and, Bool.and_false, Bool.true_and, Bool.and_true, Bool.not_true, Bool.not_false, Bool.false_eq_true, decide_true, decide_false, decide_eq_true_eq, if_true, if_false, ↓reduceIte, Nat.reduceAdd, Nat.reduceLeDiff, hp, ha, hc0, hc1, d, hnv, t0, t1, eqp]
    exact Eq.trans rfl rfl
  · have d : decide (cellF ns 0 % 3 = 0) = false := decide_eq_false hd
    by_cases he : (allF 0 (progF ns)).isEmpty = true
    · rw [he] at hnil
      unfold q_law_0 q_law_1 q_law_2
      refine ⟨[], ?_⟩
      simp -implicitDefEqProofs (disch := omega) only [x_raise, x_notL, end_ex, bind_ok, nox_ok, bind_ex, s_ex, sb_ex, s_ok, sb_nx, sb_rt, sb_ct, sb_bk, onB_bl, onBS_bl, x_var, x_c, x_bin, x_un, x_nil, x_cons, x_tup, x_lst, x_app, x_and, x_or, x_not, x_if, x_box, x_get, x_sl, x_onone, x_osome, x_snil, x_scons, x_set, x_expr, x_ret, x_retB, x_sif, x_bk, x_ct, x_aug, x_asg, x_gname, x_gnil, x_gcons, x_gtup, mkt0, mkl0, mkt1, mkl1, mkt2, mkl2, mkt3, mkl3, mkt4, mkl4, mkt5, mkl5, mkt6, mkl6, mkt7, mkl7, v_il0, v_it0, v_il1, v_it1, v_il2, v_it2, v_il3, v_it3, v_il4, v_it4, v_il5, v_it5, v_add, v_addI, v_sub, v_neg, v_mul, v_fdv, v_mod, v_cmp, v_eqs, v_nes, v_eqi, v_nei, v_eqb, v_ixc, opt_some, v_lenl, v_lent, v_lenc, v_tupt, v_tupl, v_intb, v_inti, v_max, v_isn, v_isnn, end_rt, end_nx, fz_int, fz_str, fz_bl, fz_non, List.getElem?_cons_zero, List.getElem?_cons_succ, List.set_cons_zero, List.set_cons_succ, List.length_cons, List.length_nil, List.take_length, Option.map_some, oldLoc, Bool.false_and, Bool.and_false, Bool.true_and, Bool.and_true, Bool.not_true, Bool.not_false, Bool.false_eq_true, decide_true, decide_false, decide_eq_true_eq, if_true, if_false, ↓reduceIte, Nat.reduceAdd, Nat.reduceLeDiff, hp, ha, hc0, hc1, d, hnil, hnv, t0, t1, eqp]
      exact Eq.trans rfl rfl
    · have he' : (allF 0 (progF ns)).isEmpty = false := by simpa using he
      rw [he'] at hnil
      have sl : 0 < (allF 0 (progF ns)).length := List.length_pos_iff.mpr fun z => by rw [z] at he; exact he rfl
      have lens : ((allF 0 (progF ns)).map prV).length = (allF 0 (progF ns)).length := List.length_map _
      have i0 : 0 ≤ cellF ns 1 % ((allF 0 (progF ns)).length : Int) := Int.emod_nonneg _ (by omega)
      have i1 : cellF ns 1 % ((allF 0 (progF ns)).length : Int) < (allF 0 (progF ns)).length := Int.emod_lt_of_pos _ (by omega)
      obtain ⟨p, hix, hm⟩ : ∃ p, (∀ s, vIx (.lst ((allF 0 (progF ns)).map prV)) (.int (cellF ns 1 % ((allF 0 (progF ns)).length : Int))) s = .ok (prV p) s) ∧ p ∈ allF 0 (progF ns) := by
        have hlt : (cellF ns 1 % ((allF 0 (progF ns)).length : Int)).toNat < (allF 0 (progF ns)).length := by omega
        refine ⟨(allF 0 (progF ns))[(cellF ns 1 % ((allF 0 (progF ns)).length : Int)).toNat], fun s => ?_, List.getElem_mem _⟩
        rw [v_ixl, at_in i0 (by rw [lens]; exact i1), List.getElem_map]
        exact opt_some
      have pd := all_pd ns p hm
      obtain ⟨i, ms, j, f, qs, e1, e2, e3, e4, _⟩ := allF_way (fs := progF ns) (progF ns) 0 rfl p hm
      have tr := fun s => told_row (fs := progF ns) e2 e3 e4 (n := Lv) (by decide) s
      rw [← e1] at tr
      have ak : AkP 25 (.tup [p.2.pv]) := .tup (d := 24) (fun x hx => by
        rcases List.mem_cons.mp hx with rfl | hx
        · exact (ak_row p.2 pd.gd (by have := pd.rs; omega)).mono (by have := pd.lv; omega)
        · cases hx) (by show 1 ≤ _; omega)
      have al := fun s => F_alike 25 _ ak Lv (by decide) s
      have isl := fun s => isa_lst (p := .lst [p.2.pv]) (st := s) (xs := [p.2.pv]) rfl
      unfold q_law_0 q_law_1 q_law_2 q_law_3 q_law_4 q_law_5
      refine ⟨[], ?_⟩
      have hpv : prV p = .tup [plV p.1, p.2.pv] := rfl
      rw [hpv] at hix
      simp -implicitDefEqProofs (disch := omega) only [x_raise, x_notL, end_ex, bind_ok, nox_ok, bind_ex, s_ex, sb_ex, s_ok, sb_nx, sb_rt, sb_ct, sb_bk, onB_bl, onBS_bl, x_var, x_c, x_bin, x_un, x_nil, x_cons, x_tup, x_lst, x_app, x_and, x_or, x_not, x_if, x_box, x_get, x_sl, x_onone, x_osome, x_snil, x_scons, x_set, x_expr, x_ret, x_retB, x_sif, x_bk, x_ct, x_aug, x_asg, x_gname, x_gnil, x_gcons, x_gtup, mkt0, mkl0, mkt1, mkl1, mkt2, mkl2, mkt3, mkl3, mkt4, mkl4, mkt5, mkl5, mkt6, mkl6, mkt7, mkl7, v_il0, v_it0, v_il1, v_it1, v_il2, v_it2, v_il3, v_it3, v_il4, v_it4, v_il5, v_it5, v_add, v_addI, v_sub, v_neg, v_mul, v_fdv, v_mod, v_cmp, v_eqs, v_nes, v_eqi, v_nei, v_eqb, v_ixc, opt_some, v_lenl, v_lent, v_lenc, v_tupt, v_tupl, v_intb, v_inti, v_max, v_isn, v_isnn, end_rt, end_nx, fz_int, fz_str, fz_bl, fz_non, List.getElem?_cons_zero, List.getElem?_cons_succ, List.set_cons_zero, List.set_cons_succ, List.length_cons, List.length_nil, List.take_length, Option.map_some, oldLoc, Bool.false_and, Bool.and_false, Bool.true_and, Bool.and_true, Bool.not_true, Bool.not_false, Bool.false_eq_true, decide_true, decide_false, decide_eq_true_eq, if_true, if_false, ↓reduceIte, Nat.reduceAdd, Nat.reduceLeDiff, hp, ha, hc0, hc1, d, hnil, lens, hix, tr, isl, al, Option.bind_some]
      exact Eq.trans rfl rfl
end Lk


namespace Lk
open PySem PySem.Spec PyProof.Rows L2 Vm
theorem all_mk (main : ∀ ns : List Int, ns.length ≤ 63 → ∃ st, callI d_law (Fm D 200) [.scr ns] [] = .ok (.bl true) st) {P : Program} {w : World} {K : PySem.W.Frag} {h : Heap} {mg : Str → Option Value} {fa f0 f1 f2 f3 f4 f5 f6 f7 f8 f9 f10 f11 f12 f13 f14 f15 f16 f17 f18 f19 f20 f21 f22 f23 f24 f25 f26 f27 f28 f29 f30 f31 f32 f33 f34 f35 e0 e1 e2 e3 e4 e5 e6 : Addr} (X : K.In h) (G : h.Ns mainGlobals mg) (hfa : mg "law" = some (.ref fa))
    {od0 an0 od1 an1 od2 an2 od3 an3 od4 an4 od5 an5 od6 an6 od7 an7 od8 an8 od9 an9 od10 an10 od11 an11 od12 an12 od13 an13 od14 an14 od15 an15 od16 an16 od17 an17 od18 an18 od19 an19 od20 an20 od21 an21 od22 an22 od23 an23 od24 an24 od25 an25 od26 an26 od27 an27 od28 an28 od29 an29 od30 an30 od31 an31 od32 an32 od33 an33 od34 an34 od35 an35 : Option Addr} {sl0 sl1 sl2 sl3 sl4 sl5 sl6 sl7 sl8 sl9 sl10 sl11 sl12 sl13 sl14 sl15 sl16 sl17 sl18 sl19 sl20 sl21 sl22 sl23 sl24 sl25 sl26 sl27 sl28 sl29 sl30 sl31 sl32 sl33 sl34 sl35 : Array (Option Value)} {oc0 kV0 dc0 pm0 cd0 ct0 oc1 kV1 dc1 pm1 cd1 ct1 oc2 kV2 dc2 pm2 cd2 ct2 oc3 kV3 dc3 pm3 cd3 ct3 oc4 kV4 dc4 pm4 cd4 ct4 oc5 kV5 dc5 pm5 cd5 ct5 oc6 kV6 dc6 pm6 cd6 ct6 oc7 kV7 dc7 pm7 cd7 ct7 oc8 kV8 dc8 pm8 cd8 ct8 oc9 kV9 dc9 pm9 cd9 ct9 oc10 kV10 dc10 pm10 cd10 ct10 oc11 kV11 dc11 pm11 cd11 ct11 oc12 kV12 dc12 pm12 cd12 ct12 oc13 kV13 dc13 pm13 cd13 ct13 oc14 kV14 dc14 pm14 cd14 ct14 oc15 kV15 dc15 pm15 cd15 ct15 oc16 kV16 dc16 pm16 cd16 ct16 oc17 kV17 dc17 pm17 cd17 ct17 oc18 kV18 dc18 pm18 cd18 ct18 oc19 kV19 dc19 pm19 cd19 ct19 oc20 kV20 dc20 pm20 cd20 ct20 oc21 kV21 dc21 pm21 cd21 ct21 oc22 kV22 dc22 pm22 cd22 ct22 oc23 kV23 dc23 pm23 cd23 ct23 oc24 kV24 dc24 pm24 cd24 ct24 oc25 kV25 dc25 pm25 cd25 ct25 oc26 kV26 dc26 pm26 cd26 ct26 oc27 kV27 dc27 pm27 cd27 ct27 oc28 kV28 dc28 pm28 cd28 ct28 oc29 kV29 dc29 pm29 cd29 ct29 oc30 kV30 dc30 pm30 cd30 ct30 oc31 kV31 dc31 pm31 cd31 ct31 oc32 kV32 dc32 pm32 cd32 ct32 oc33 kV33 dc33 pm33 cd33 ct33 oc34 kV34 dc34 pm34 cd34 ct34 oc35 kV35 dc35 pm35 cd35 ct35 : Value}
    (a0 : PySem.W.nsIn K mainGlobals "names_in" = some (some (.ref f0))) (l0 : K.lookup f0 = some ⟨oc0, od0, .func (PySem.W.fnOf "names_in" "names_in" (defArgs s_names_in) (defBody s_names_in) (defScope s_names_in) .none kV0 dc0 pm0 an0 cd0 ct0), sl0⟩) (c0 : PySem.W.codeIn K cd0 "names_in" = true) (k0 : PySem.W.keepIn K (.ref f0) = true)
    (a1 : PySem.W.nsIn K mainGlobals "_note_names" = some (some (.ref f1))) (l1 : K.lookup f1 = some ⟨oc1, od1, .func (PySem.W.fnOf "_note_names" "_note_names" (defArgs s__note_names) (defBody s__note_names) (defScope s__note_names) .none kV1 dc1 pm1 an1 cd1 ct1), sl1⟩) (c1 : PySem.W.codeIn K cd1 "_note_names" = true) (k1 : PySem.W.keepIn K (.ref f1) = true)
    (a2 : PySem.W.nsIn K mainGlobals "own_terms" = some (some (.ref f2))) (l2 : K.lookup f2 = some ⟨oc2, od2, .func (PySem.W.fnOf "own_terms" "own_terms" (defArgs s_own_terms) (defBody s_own_terms) (defScope s_own_terms) .none kV2 dc2 pm2 an2 cd2 ct2), sl2⟩) (c2 : PySem.W.codeIn K cd2 "own_terms" = true) (k2 : PySem.W.keepIn K (.ref f2) = true)
    (a3 : PySem.W.nsIn K mainGlobals "own_names" = some (some (.ref f3))) (l3 : K.lookup f3 = some ⟨oc3, od3, .func (PySem.W.fnOf "own_names" "own_names" (defArgs s_own_names) (defBody s_own_names) (defScope s_own_names) .none kV3 dc3 pm3 an3 cd3 ct3), sl3⟩) (c3 : PySem.W.codeIn K cd3 "own_names" = true) (k3 : PySem.W.keepIn K (.ref f3) = true)
    (a4 : PySem.W.nsIn K mainGlobals "own_set" = some (some (.ref f4))) (l4 : K.lookup f4 = some ⟨oc4, od4, .func (PySem.W.fnOf "own_set" "own_set" (defArgs s_own_set) (defBody s_own_set) (defScope s_own_set) .none kV4 dc4 pm4 an4 cd4 ct4), sl4⟩) (c4 : PySem.W.codeIn K cd4 "own_set" = true) (k4 : PySem.W.keepIn K (.ref f4) = true)
    (a5 : PySem.W.nsIn K mainGlobals "has_rows" = some (some (.ref f5))) (l5 : K.lookup f5 = some ⟨oc5, od5, .func (PySem.W.fnOf "has_rows" "has_rows" (defArgs s_has_rows) (defBody s_has_rows) (defScope s_has_rows) .none kV5 dc5 pm5 an5 cd5 ct5), sl5⟩) (c5 : PySem.W.codeIn K cd5 "has_rows" = true) (k5 : PySem.W.keepIn K (.ref f5) = true)
    (a6 : PySem.W.nsIn K mainGlobals "rows_within" = some (some (.ref f6))) (l6 : K.lookup f6 = some ⟨oc6, od6, .func (PySem.W.fnOf "rows_within" "rows_within" (defArgs s_rows_within) (defBody s_rows_within) (defScope s_rows_within) .none kV6 dc6 pm6 an6 cd6 ct6), sl6⟩) (c6 : PySem.W.codeIn K cd6 "rows_within" = true) (k6 : PySem.W.keepIn K (.ref f6) = true)
    (a7 : PySem.W.nsIn K mainGlobals "surely_set" = some (some (.ref f7))) (l7 : K.lookup f7 = some ⟨oc7, od7, .func (PySem.W.fnOf "surely_set" "surely_set" (defArgs s_surely_set) (defBody s_surely_set) (defScope s_surely_set) .none kV7 dc7 pm7 an7 cd7 ct7), sl7⟩) (c7 : PySem.W.codeIn K cd7 "surely_set" = true) (k7 : PySem.W.keepIn K (.ref f7) = true)
    (a8 : PySem.W.nsIn K mainGlobals "_surely_set_by" = some (some (.ref f8))) (l8 : K.lookup f8 = some ⟨oc8, od8, .func (PySem.W.fnOf "_surely_set_by" "_surely_set_by" (defArgs s__surely_set_by) (defBody s__surely_set_by) (defScope s__surely_set_by) .none kV8 dc8 pm8 an8 cd8 ct8), sl8⟩) (c8 : PySem.W.codeIn K cd8 "_surely_set_by" = true) (k8 : PySem.W.keepIn K (.ref f8) = true)
    (a9 : PySem.W.nsIn K mainGlobals "first_read" = some (some (.ref f9))) (l9 : K.lookup f9 = some ⟨oc9, od9, .func (PySem.W.fnOf "first_read" "first_read" (defArgs s_first_read) (defBody s_first_read) (defScope s_first_read) .none kV9 dc9 pm9 an9 cd9 ct9), sl9⟩) (c9 : PySem.W.codeIn K cd9 "first_read" = true) (k9 : PySem.W.keepIn K (.ref f9) = true)
    (a10 : PySem.W.nsIn K mainGlobals "_first_read_by" = some (some (.ref f10))) (l10 : K.lookup f10 = some ⟨oc10, od10, .func (PySem.W.fnOf "_first_read_by" "_first_read_by" (defArgs s__first_read_by) (defBody s__first_read_by) (defScope s__first_read_by) .none kV10 dc10 pm10 an10 cd10 ct10), sl10⟩) (c10 : PySem.W.codeIn K cd10 "_first_read_by" = true) (k10 : PySem.W.keepIn K (.ref f10) = true)
    (a11 : PySem.W.nsIn K mainGlobals "row_at" = some (some (.ref f11))) (l11 : K.lookup f11 = some ⟨oc11, od11, .func (PySem.W.fnOf "row_at" "row_at" (defArgs s_row_at) (defBody s_row_at) (defScope s_row_at) .none kV11 dc11 pm11 an11 cd11 ct11), sl11⟩) (c11 : PySem.W.codeIn K cd11 "row_at" = true) (k11 : PySem.W.keepIn K (.ref f11) = true)
    (a12 : PySem.W.nsIn K mainGlobals "rows_from" = some (some (.ref f12))) (l12 : K.lookup f12 = some ⟨oc12, od12, .func (PySem.W.fnOf "rows_from" "rows_from" (defArgs s_rows_from) (defBody s_rows_from) (defScope s_rows_from) .none kV12 dc12 pm12 an12 cd12 ct12), sl12⟩) (c12 : PySem.W.codeIn K cd12 "rows_from" = true) (k12 : PySem.W.keepIn K (.ref f12) = true)
    (a13 : PySem.W.nsIn K mainGlobals "_rows_around" = some (some (.ref f13))) (l13 : K.lookup f13 = some ⟨oc13, od13, .func (PySem.W.fnOf "_rows_around" "_rows_around" (defArgs s__rows_around) (defBody s__rows_around) (defScope s__rows_around) .none kV13 dc13 pm13 an13 cd13 ct13), sl13⟩) (c13 : PySem.W.codeIn K cd13 "_rows_around" = true) (k13 : PySem.W.keepIn K (.ref f13) = true)
    (a14 : PySem.W.nsIn K mainGlobals "needed" = some (some (.ref f14))) (l14 : K.lookup f14 = some ⟨oc14, od14, .func (PySem.W.fnOf "needed" "needed" (defArgs s_needed) (defBody s_needed) (defScope s_needed) .none kV14 dc14 pm14 an14 cd14 ct14), sl14⟩) (c14 : PySem.W.codeIn K cd14 "needed" = true) (k14 : PySem.W.keepIn K (.ref f14) = true)
    (a15 : PySem.W.nsIn K mainGlobals "_needed_ahead" = some (some (.ref f15))) (l15 : K.lookup f15 = some ⟨oc15, od15, .func (PySem.W.fnOf "_needed_ahead" "_needed_ahead" (defArgs s__needed_ahead) (defBody s__needed_ahead) (defScope s__needed_ahead) .none kV15 dc15 pm15 an15 cd15 ct15), sl15⟩) (c15 : PySem.W.codeIn K cd15 "_needed_ahead" = true) (k15 : PySem.W.keepIn K (.ref f15) = true)
    (a16 : PySem.W.nsIn K mainGlobals "_law_cell" = some (some (.ref f16))) (l16 : K.lookup f16 = some ⟨oc16, od16, .func (PySem.W.fnOf "_law_cell" "_law_cell" (defArgs s__law_cell) (defBody s__law_cell) (defScope s__law_cell) .none kV16 dc16 pm16 an16 cd16 ct16), sl16⟩) (c16 : PySem.W.codeIn K cd16 "_law_cell" = true) (k16 : PySem.W.keepIn K (.ref f16) = true)
    (a17 : PySem.W.nsIn K mainGlobals "_law_mixed" = some (some (.ref f17))) (l17 : K.lookup f17 = some ⟨oc17, od17, .func (PySem.W.fnOf "_law_mixed" "_law_mixed" (defArgs s__law_mixed) (defBody s__law_mixed) (defScope s__law_mixed) .none kV17 dc17 pm17 an17 cd17 ct17), sl17⟩) (c17 : PySem.W.codeIn K cd17 "_law_mixed" = true) (k17 : PySem.W.keepIn K (.ref f17) = true)
    (a18 : PySem.W.nsIn K mainGlobals "_law_words" = some (some (.ref f18))) (l18 : K.lookup f18 = some ⟨oc18, od18, .func (PySem.W.fnOf "_law_words" "_law_words" (defArgs s__law_words) (defBody s__law_words) (defScope s__law_words) .none kV18 dc18 pm18 an18 cd18 ct18), sl18⟩) (c18 : PySem.W.codeIn K cd18 "_law_words" = true) (k18 : PySem.W.keepIn K (.ref f18) = true)
    (a19 : PySem.W.nsIn K mainGlobals "_law_term" = some (some (.ref f19))) (l19 : K.lookup f19 = some ⟨oc19, od19, .func (PySem.W.fnOf "_law_term" "_law_term" (defArgs s__law_term) (defBody s__law_term) (defScope s__law_term) .none kV19 dc19 pm19 an19 cd19 ct19), sl19⟩) (c19 : PySem.W.codeIn K cd19 "_law_term" = true) (k19 : PySem.W.keepIn K (.ref f19) = true)
    (a20 : PySem.W.nsIn K mainGlobals "_law_given" = some (some (.ref f20))) (l20 : K.lookup f20 = some ⟨oc20, od20, .func (PySem.W.fnOf "_law_given" "_law_given" (defArgs s__law_given) (defBody s__law_given) (defScope s__law_given) .none kV20 dc20 pm20 an20 cd20 ct20), sl20⟩) (c20 : PySem.W.codeIn K cd20 "_law_given" = true) (k20 : PySem.W.keepIn K (.ref f20) = true)
    (a21 : PySem.W.nsIn K mainGlobals "_law_call" = some (some (.ref f21))) (l21 : K.lookup f21 = some ⟨oc21, od21, .func (PySem.W.fnOf "_law_call" "_law_call" (defArgs s__law_call) (defBody s__law_call) (defScope s__law_call) .none kV21 dc21 pm21 an21 cd21 ct21), sl21⟩) (c21 : PySem.W.codeIn K cd21 "_law_call" = true) (k21 : PySem.W.keepIn K (.ref f21) = true)
    (a22 : PySem.W.nsIn K mainGlobals "_law_row" = some (some (.ref f22))) (l22 : K.lookup f22 = some ⟨oc22, od22, .func (PySem.W.fnOf "_law_row" "_law_row" (defArgs s__law_row) (defBody s__law_row) (defScope s__law_row) .none kV22 dc22 pm22 an22 cd22 ct22), sl22⟩) (c22 : PySem.W.codeIn K cd22 "_law_row" = true) (k22 : PySem.W.keepIn K (.ref f22) = true)
    (a23 : PySem.W.nsIn K mainGlobals "_law_rows" = some (some (.ref f23))) (l23 : K.lookup f23 = some ⟨oc23, od23, .func (PySem.W.fnOf "_law_rows" "_law_rows" (defArgs s__law_rows) (defBody s__law_rows) (defScope s__law_rows) .none kV23 dc23 pm23 an23 cd23 ct23), sl23⟩) (c23 : PySem.W.codeIn K cd23 "_law_rows" = true) (k23 : PySem.W.keepIn K (.ref f23) = true)
    (a24 : PySem.W.nsIn K mainGlobals "_law_looped" = some (some (.ref f24))) (l24 : K.lookup f24 = some ⟨oc24, od24, .func (PySem.W.fnOf "_law_looped" "_law_looped" (defArgs s__law_looped) (defBody s__law_looped) (defScope s__law_looped) .none kV24 dc24 pm24 an24 cd24 ct24), sl24⟩) (c24 : PySem.W.codeIn K cd24 "_law_looped" = true) (k24 : PySem.W.keepIn K (.ref f24) = true)
    (a25 : PySem.W.nsIn K mainGlobals "_law_function" = some (some (.ref f25))) (l25 : K.lookup f25 = some ⟨oc25, od25, .func (PySem.W.fnOf "_law_function" "_law_function" (defArgs s__law_function) (defBody s__law_function) (defScope s__law_function) .none kV25 dc25 pm25 an25 cd25 ct25), sl25⟩) (c25 : PySem.W.codeIn K cd25 "_law_function" = true) (k25 : PySem.W.keepIn K (.ref f25) = true)
    (a26 : PySem.W.nsIn K mainGlobals "_law_variables" = some (some (.ref f26))) (l26 : K.lookup f26 = some ⟨oc26, od26, .func (PySem.W.fnOf "_law_variables" "_law_variables" (defArgs s__law_variables) (defBody s__law_variables) (defScope s__law_variables) .none kV26 dc26 pm26 an26 cd26 ct26), sl26⟩) (c26 : PySem.W.codeIn K cd26 "_law_variables" = true) (k26 : PySem.W.keepIn K (.ref f26) = true)
    (a27 : PySem.W.nsIn K mainGlobals "_law_program" = some (some (.ref f27))) (l27 : K.lookup f27 = some ⟨oc27, od27, .func (PySem.W.fnOf "_law_program" "_law_program" (defArgs s__law_program) (defBody s__law_program) (defScope s__law_program) .none kV27 dc27 pm27 an27 cd27 ct27), sl27⟩) (c27 : PySem.W.codeIn K cd27 "_law_program" = true) (k27 : PySem.W.keepIn K (.ref f27) = true)
    (a28 : PySem.W.nsIn K mainGlobals "_law_block" = some (some (.ref f28))) (l28 : K.lookup f28 = some ⟨oc28, od28, .func (PySem.W.fnOf "_law_block" "_law_block" (defArgs s__law_block) (defBody s__law_block) (defScope s__law_block) .none kV28 dc28 pm28 an28 cd28 ct28), sl28⟩) (c28 : PySem.W.codeIn K cd28 "_law_block" = true) (k28 : PySem.W.keepIn K (.ref f28) = true)
    (a29 : PySem.W.nsIn K mainGlobals "_law_places" = some (some (.ref f29))) (l29 : K.lookup f29 = some ⟨oc29, od29, .func (PySem.W.fnOf "_law_places" "_law_places" (defArgs s__law_places) (defBody s__law_places) (defScope s__law_places) .none kV29 dc29 pm29 an29 cd29 ct29), sl29⟩) (c29 : PySem.W.codeIn K cd29 "_law_places" = true) (k29 : PySem.W.keepIn K (.ref f29) = true)
    (a30 : PySem.W.nsIn K mainGlobals "_law_all" = some (some (.ref f30))) (l30 : K.lookup f30 = some ⟨oc30, od30, .func (PySem.W.fnOf "_law_all" "_law_all" (defArgs s__law_all) (defBody s__law_all) (defScope s__law_all) .none kV30 dc30 pm30 an30 cd30 ct30), sl30⟩) (c30 : PySem.W.codeIn K cd30 "_law_all" = true) (k30 : PySem.W.keepIn K (.ref f30) = true)
    (a31 : PySem.W.nsIn K mainGlobals "_law_alike" = some (some (.ref f31))) (l31 : K.lookup f31 = some ⟨oc31, od31, .func (PySem.W.fnOf "_law_alike" "_law_alike" (defArgs s__law_alike) (defBody s__law_alike) (defScope s__law_alike) .none kV31 dc31 pm31 an31 cd31 ct31), sl31⟩) (c31 : PySem.W.codeIn K cd31 "_law_alike" = true) (k31 : PySem.W.keepIn K (.ref f31) = true)
    (a32 : PySem.W.nsIn K mainGlobals "_law_told" = some (some (.ref f32))) (l32 : K.lookup f32 = some ⟨oc32, od32, .func (PySem.W.fnOf "_law_told" "_law_told" (defArgs s__law_told) (defBody s__law_told) (defScope s__law_told) .none kV32 dc32 pm32 an32 cd32 ct32), sl32⟩) (c32 : PySem.W.codeIn K cd32 "_law_told" = true) (k32 : PySem.W.keepIn K (.ref f32) = true)
    (a33 : PySem.W.nsIn K mainGlobals "_law_none" = some (some (.ref f33))) (l33 : K.lookup f33 = some ⟨oc33, od33, .func (PySem.W.fnOf "_law_none" "_law_none" (defArgs s__law_none) (defBody s__law_none) (defScope s__law_none) .none kV33 dc33 pm33 an33 cd33 ct33), sl33⟩) (c33 : PySem.W.codeIn K cd33 "_law_none" = true) (k33 : PySem.W.keepIn K (.ref f33) = true)
    (a34 : PySem.W.nsIn K mainGlobals "law" = some (some (.ref f34))) (l34 : K.lookup f34 = some ⟨oc34, od34, .func (PySem.W.fnOf "law" "law" (defArgs s_law) (defBody s_law) (defScope s_law) .none kV34 dc34 pm34 an34 cd34 ct34), sl34⟩) (c34 : PySem.W.codeIn K cd34 "law" = true) (k34 : PySem.W.keepIn K (.ref f34) = true)
    (a35 : PySem.W.nsIn K mainGlobals "_law_kind" = some (some (.ref f35))) (l35 : K.lookup f35 = some ⟨oc35, od35, .func (PySem.W.fnOf "_law_kind" "_law_kind" (defArgs s__law_kind) (defBody s__law_kind) (defScope s__law_kind) .none kV35 dc35 pm35 an35 cd35 ct35), sl35⟩) (c35 : PySem.W.codeIn K cd35 "_law_kind" = true) (k35 : PySem.W.keepIn K (.ref f35) = true)
    (z0 : PySem.W.nsIn K mainGlobals "ValueError" = some none)
    (z1 : PySem.W.nsIn K mainGlobals "bool" = some none)
    (z2 : PySem.W.nsIn K mainGlobals "int" = some none)
    (z3 : PySem.W.nsIn K mainGlobals "isinstance" = some none)
    (z4 : PySem.W.nsIn K mainGlobals "len" = some none)
    (z5 : PySem.W.nsIn K mainGlobals "list" = some none)
    (z6 : PySem.W.nsIn K mainGlobals "range" = some none)
    (z7 : PySem.W.nsIn K mainGlobals "set" = some none)
    (z8 : PySem.W.nsIn K mainGlobals "sorted" = some none)
    (z9 : PySem.W.nsIn K mainGlobals "str" = some none)
    (z10 : PySem.W.nsIn K mainGlobals "tuple" = some none)
    (cg0 : PySem.W.nsIn K mainGlobals "NoPlace" = some (some (.ref e0)))
    (cg1 : PySem.W.nsIn K mainGlobals "NoName" = some (some (.ref e1)))
    (cg2 : PySem.W.nsIn K mainGlobals "Taken" = some (some (.ref e2)))
    (cg3 : PySem.W.nsIn K mainGlobals "NoCall" = some (some (.ref e3)))
    (cg4 : PySem.W.nsIn K mainGlobals "Unlike" = some (some (.ref e4)))
    (cg5 : PySem.W.nsIn K mainGlobals "Clash" = some (some (.ref e5)))
    (cg6 : PySem.W.nsIn K mainGlobals "TurnError" = some (some (.ref e6)))
    (x0q : PySem.W.excIn K e0 [.type "ValueError", .type "Exception", .type "BaseException", .type "object"] "ValueError.__new__" = true) (x0k : PySem.W.keepIn K (.ref e0) = true) (x0b : PySem.W.subIn K (.ref e0) (.type "BaseException") = some true) (x0t : PySem.W.typeIn K (.ref e0) = some (.type "type"))
    (v0i : PySem.W.isClsIn K e0 = true) (v0t : PySem.W.typeIn K (.ref e0) = some (.type "type"))
    (v1i : PySem.W.isClsIn K e1 = true) (v1t : PySem.W.typeIn K (.ref e1) = some (.type "type"))
    (v2i : PySem.W.isClsIn K e2 = true) (v2t : PySem.W.typeIn K (.ref e2) = some (.type "type"))
    (v3i : PySem.W.isClsIn K e3 = true) (v3t : PySem.W.typeIn K (.ref e3) = some (.type "type"))
    (v4i : PySem.W.isClsIn K e4 = true) (v4t : PySem.W.typeIn K (.ref e4) = some (.type "type"))
    (v5i : PySem.W.isClsIn K e5 = true) (v5t : PySem.W.typeIn K (.ref e5) = some (.type "type"))
    (v6i : PySem.W.isClsIn K e6 = true) (v6t : PySem.W.typeIn K (.ref e6) = some (.type "type"))
    (v6b : PySem.W.subIn K (.ref e6) (.type "BaseException") = some true)
    (w0g : PySem.W.findIn K (.ref e0) "__getattribute__" = some (some (.builtin "BaseException.__getattribute__"))) (w0h : PySem.W.findIn K (.ref e0) "__getattr__" = some none) (w0a : PySem.W.findIn K (.ref e0) "__class__" = some (some (.builtin "object.__class__"))) (w0m : PySem.W.mroIn K e0 (.type "object") = some true)
    (w0s0 : PySem.W.subIn K (.ref e0) (.ref e0) = some true)
    (w0s1 : PySem.W.subIn K (.ref e0) (.ref e1) = some false)
    (w0s2 : PySem.W.subIn K (.ref e0) (.ref e2) = some false)
    (w0s3 : PySem.W.subIn K (.ref e0) (.ref e3) = some false)
    (w0s4 : PySem.W.subIn K (.ref e0) (.ref e4) = some false)
    (w0s5 : PySem.W.subIn K (.ref e0) (.ref e5) = some false)
    (w0s6 : PySem.W.subIn K (.ref e0) (.ref e6) = some true)
    (w0v : PySem.W.subIn K (.ref e0) (.type "ValueError") = some true)
    (wn : PySem.W.specialIn K (.builtin "object.__class__") "__get__" = some (some (.builtin "getset_descriptor.__get__"))) (wt : PySem.W.takesIn K (.builtin "object.__class__") = some true) :
    ∃ fd : FuncData, (∀ (s : Shared) (v : Value), BindsTo s fd ⟨[v], []⟩ [("_law_script", v)]) ∧ ∀ base : Heap, K.In base → base.Ns mainGlobals mg → FnOk P w K mg base CX0 201 fa fd ["_law_script"] (spLaw K) := by
  have e := hfa.symm.trans (PySem.W.mg_of X G a34)
  cases e
  have F0 := fun_mk (st := s_names_in) l0 c0 k0
  have b0 := F0.binds (ps := ["term"]) fun _ _ _ _ _ _ us hl => match us, hl with | [_], _ => rfl
  have F1 := fun_mk (st := s__note_names) l1 c1 k1
  have b1 := F1.binds (ps := ["term", "found"]) fun _ _ _ _ _ _ us hl => match us, hl with | [_, _], _ => rfl
  have F2 := fun_mk (st := s_own_terms) l2 c2 k2
  have b2 := F2.binds (ps := ["row"]) fun _ _ _ _ _ _ us hl => match us, hl with | [_], _ => rfl
  have F3 := fun_mk (st := s_own_names) l3 c3 k3
  have b3 := F3.binds (ps := ["row"]) fun _ _ _ _ _ _ us hl => match us, hl with | [_], _ => rfl
  have F4 := fun_mk (st := s_own_set) l4 c4 k4
  have b4 := F4.binds (ps := ["row"]) fun _ _ _ _ _ _ us hl => match us, hl with | [_], _ => rfl
  have F5 := fun_mk (st := s_has_rows) l5 c5 k5
  have b5 := F5.binds (ps := ["row"]) fun _ _ _ _ _ _ us hl => match us, hl with | [_], _ => rfl
  have F6 := fun_mk (st := s_rows_within) l6 c6 k6
  have b6 := F6.binds (ps := ["row"]) fun _ _ _ _ _ _ us hl => match us, hl with | [_], _ => rfl
  have F7 := fun_mk (st := s_surely_set) l7 c7 k7
  have b7 := F7.binds (ps := ["rows"]) fun _ _ _ _ _ _ us hl => match us, hl with | [_], _ => rfl
  have F8 := fun_mk (st := s__surely_set_by) l8 c8 k8
  have b8 := F8.binds (ps := ["row"]) fun _ _ _ _ _ _ us hl => match us, hl with | [_], _ => rfl
  have F9 := fun_mk (st := s_first_read) l9 c9 k9
  have b9 := F9.binds (ps := ["rows"]) fun _ _ _ _ _ _ us hl => match us, hl with | [_], _ => rfl
  have F10 := fun_mk (st := s__first_read_by) l10 c10 k10
  have b10 := F10.binds (ps := ["row"]) fun _ _ _ _ _ _ us hl => match us, hl with | [_], _ => rfl
  have F11 := fun_mk (st := s_row_at) l11 c11 k11
  have b11 := F11.binds (ps := ["program", "place"]) fun _ _ _ _ _ _ us hl => match us, hl with | [_, _], _ => rfl
  have F12 := fun_mk (st := s_rows_from) l12 c12 k12
  have b12 := F12.binds (ps := ["program", "place", "many"]) fun _ _ _ _ _ _ us hl => match us, hl with | [_, _, _], _ => rfl
  have F13 := fun_mk (st := s__rows_around) l13 c13 k13
  have b13 := F13.binds (ps := ["program", "place"]) fun _ _ _ _ _ _ us hl => match us, hl with | [_, _], _ => rfl
  have F14 := fun_mk (st := s_needed) l14 c14 k14
  have b14 := F14.binds (ps := ["program", "place"]) fun _ _ _ _ _ _ us hl => match us, hl with | [_, _], _ => rfl
  have F15 := fun_mk (st := s__needed_ahead) l15 c15 k15
  have b15 := F15.binds (ps := ["rows", "names"]) fun _ _ _ _ _ _ us hl => match us, hl with | [_, _], _ => rfl
  have F16 := fun_mk (st := s__law_cell) l16 c16 k16
  have b16 := F16.binds (ps := ["_law_script", "_law_k"]) fun _ _ _ _ _ _ us hl => match us, hl with | [_, _], _ => rfl
  have F17 := fun_mk (st := s__law_mixed) l17 c17 k17
  have b17 := F17.binds (ps := ["_law_cell_here", "_law_k"]) fun _ _ _ _ _ _ us hl => match us, hl with | [_, _], _ => rfl
  have F18 := fun_mk (st := s__law_words) l18 c18 k18
  have b18 := F18.binds (ps := ["_law_cell_here", "_law_many"]) fun _ _ _ _ _ _ us hl => match us, hl with | [_, _], _ => rfl
  have F19 := fun_mk (st := s__law_term) l19 c19 k19
  have b19 := F19.binds (ps := ["_law_cell_here", "_law_words_here", "_law_deep"]) fun _ _ _ _ _ _ us hl => match us, hl with | [_, _, _], _ => rfl
  have F20 := fun_mk (st := s__law_given) l20 c20 k20
  have b20 := F20.binds (ps := ["_law_cell_here", "_law_words_here", "_law_name"]) fun _ _ _ _ _ _ us hl => match us, hl with | [_, _, _], _ => rfl
  have F21 := fun_mk (st := s__law_call) l21 c21 k21
  have b21 := F21.binds (ps := ["_law_cell_here", "_law_words_here", "_law_heads"]) fun _ _ _ _ _ _ us hl => match us, hl with | [_, _, _], _ => rfl
  have F22 := fun_mk (st := s__law_row) l22 c22 k22
  have b22 := F22.binds (ps := ["_law_cell_here", "_law_words_here", "_law_heads", "_law_deep"]) fun _ _ _ _ _ _ us hl => match us, hl with | [_, _, _, _], _ => rfl
  have F23 := fun_mk (st := s__law_rows) l23 c23 k23
  have b23 := F23.binds (ps := ["_law_cell_here", "_law_words_here", "_law_heads", "_law_deep", "_law_many"]) fun _ _ _ _ _ _ us hl => match us, hl with | [_, _, _, _, _], _ => rfl
  have F24 := fun_mk (st := s__law_looped) l24 c24 k24
  have b24 := F24.binds (ps := ["_law_program_here", "_law_cell_here"]) fun _ _ _ _ _ _ us hl => match us, hl with | [_, _], _ => rfl
  have F25 := fun_mk (st := s__law_function) l25 c25 k25
  have b25 := F25.binds (ps := ["_law_cell_here", "_law_name", "_law_words_here", "_law_heads"]) fun _ _ _ _ _ _ us hl => match us, hl with | [_, _, _, _], _ => rfl
  have F26 := fun_mk (st := s__law_variables) l26 c26 k26
  have b26 := F26.binds (ps := ["_law_script", "_law_at"]) fun _ _ _ _ _ _ us hl => match us, hl with | [_, _], _ => rfl
  have F27 := fun_mk (st := s__law_program) l27 c27 k27
  have b27 := F27.binds (ps := ["_law_script", "_law_at"]) fun _ _ _ _ _ _ us hl => match us, hl with | [_, _], _ => rfl
  have F28 := fun_mk (st := s__law_block) l28 c28 k28
  have b28 := F28.binds (ps := ["_law_row_here"]) fun _ _ _ _ _ _ us hl => match us, hl with | [_], _ => rfl
  have F29 := fun_mk (st := s__law_places) l29 c29 k29
  have b29 := F29.binds (ps := ["_law_place", "_law_rows_here"]) fun _ _ _ _ _ _ us hl => match us, hl with | [_, _], _ => rfl
  have F30 := fun_mk (st := s__law_all) l30 c30 k30
  have b30 := F30.binds (ps := ["_law_program_here"]) fun _ _ _ _ _ _ us hl => match us, hl with | [_], _ => rfl
  have F31 := fun_mk (st := s__law_alike) l31 c31 k31
  have b31 := F31.binds (ps := ["_law_found", "_law_due"]) fun _ _ _ _ _ _ us hl => match us, hl with | [_, _], _ => rfl
  have F32 := fun_mk (st := s__law_told) l32 c32 k32
  have b32 := F32.binds (ps := ["_law_which", "_law_program_here", "_law_place"]) fun _ _ _ _ _ _ us hl => match us, hl with | [_, _, _], _ => rfl
  have F33 := fun_mk (st := s__law_none) l33 c33 k33
  have b33 := F33.binds (ps := ["_law_program_here", "_law_cell_here"]) fun _ _ _ _ _ _ us hl => match us, hl with | [_, _], _ => rfl
  have F34 := fun_mk (st := s_law) l34 c34 k34
  have b34 := F34.binds (ps := ["_law_script"]) fun _ _ _ _ _ _ us hl => match us, hl with | [_], _ => rfl
  have F35 := fun_mk (st := s__law_kind) l35 c35 k35
  have b35 := F35.binds (ps := ["_law_error"]) fun _ _ _ _ _ _ us hl => match us, hl with | [_], _ => rfl
  let CC : Nat → Addr := fun j => match j with | 0 => e0 | 1 => e1 | 2 => e2 | 3 => e3 | 4 => e4 | 5 => e5 | _ => 0
  have hB : ∀ x ∈ bs, mg x = none := fun x hx => by
    rcases List.mem_cons.mp hx with rfl | hx
    · exact PySem.W.mg_none_of X G z0
    rcases List.mem_cons.mp hx with rfl | hx
    · exact PySem.W.mg_none_of X G z1
    rcases List.mem_cons.mp hx with rfl | hx
    · exact PySem.W.mg_none_of X G z2
    rcases List.mem_cons.mp hx with rfl | hx
    · exact PySem.W.mg_none_of X G z3
    rcases List.mem_cons.mp hx with rfl | hx
    · exact PySem.W.mg_none_of X G z4
    rcases List.mem_cons.mp hx with rfl | hx
    · exact PySem.W.mg_none_of X G z5
    rcases List.mem_cons.mp hx with rfl | hx
    · exact PySem.W.mg_none_of X G z6
    rcases List.mem_cons.mp hx with rfl | hx
    · exact PySem.W.mg_none_of X G z7
    rcases List.mem_cons.mp hx with rfl | hx
    · exact PySem.W.mg_none_of X G z8
    rcases List.mem_cons.mp hx with rfl | hx
    · exact PySem.W.mg_none_of X G z9
    rcases List.mem_cons.mp hx with rfl | hx
    · exact PySem.W.mg_none_of X G z10
    cases hx
  have hC : ∀ p ∈ cs, ∃ u, mg p.1 = some u ∧ RelV (.int p.2) u := fun p hx => by
    cases hx
  have hX : ∀ p ∈ pr.xs, ExF K mg p.1 (CC p.2) := fun p hx => by
    rcases List.mem_cons.mp hx with rfl | hx
    · exact ⟨PySem.W.mg_of X G cg0, x0q, x0k, x0b, x0t⟩
    cases hx
  have hK : KAll K mg CC := ⟨e6, f35, _, PySem.W.mg_of X G cg6, PySem.W.mg_of X G a35, k35, b35, F35, fun k hx => by
    rcases List.mem_cons.mp hx with rfl | hx
    · refine ⟨⟨v0i, w0g, w0h, x0b, w0a, wn, wt, w0m⟩, fun p hp => ?_, PySem.W.mg_of X G cg6, kit_sub v6i v6t w0s0 w0s6, exm_sub v6b v6i v6t w0s6, kit_bi w0v⟩
      rcases List.mem_cons.mp hp with rfl | hp
      · exact ⟨PySem.W.mg_of X G cg0, kit_sub v0i v0t w0s0 w0s0⟩
      rcases List.mem_cons.mp hp with rfl | hp
      · exact ⟨PySem.W.mg_of X G cg1, kit_sub v1i v1t w0s0 w0s1⟩
      rcases List.mem_cons.mp hp with rfl | hp
      · exact ⟨PySem.W.mg_of X G cg2, kit_sub v2i v2t w0s0 w0s2⟩
      rcases List.mem_cons.mp hp with rfl | hp
      · exact ⟨PySem.W.mg_of X G cg3, kit_sub v3i v3t w0s0 w0s3⟩
      rcases List.mem_cons.mp hp with rfl | hp
      · exact ⟨PySem.W.mg_of X G cg4, kit_sub v4i v4t w0s0 w0s4⟩
      rcases List.mem_cons.mp hp with rfl | hp
      · exact ⟨PySem.W.mg_of X G cg5, kit_sub v5i v5t w0s0 w0s5⟩
      cases hp
    cases hx⟩
  refine ⟨PySem.W.fnOf "law" "law" (defArgs s_law) (defBody s_law) (defScope s_law) .none kV34 dc34 pm34 an34 cd34 ct34, fun s v => .of_eq rfl, fun base _ _ => ?_⟩
  have A : FnAt P w K mg base CC pr (Fm D 200) 200 := all_fn (fun i hi => match i, hi with
    | 0, _ => ⟨f0, _, _, PySem.W.mg_of X G a0, k0, b0, fun n T hF => ok_names_in F0 hB hC hX hF⟩
    | 1, _ => ⟨f1, _, _, PySem.W.mg_of X G a1, k1, b1, fun n T hF => ok__note_names F1 hB hC hX hF⟩
    | 2, _ => ⟨f2, _, _, PySem.W.mg_of X G a2, k2, b2, fun n T hF => ok_own_terms F2 hB hC hX hF⟩
    | 3, _ => ⟨f3, _, _, PySem.W.mg_of X G a3, k3, b3, fun n T hF => ok_own_names F3 hB hC hX hF⟩
    | 4, _ => ⟨f4, _, _, PySem.W.mg_of X G a4, k4, b4, fun n T hF => ok_own_set F4 hB hC hX hF⟩
    | 5, _ => ⟨f5, _, _, PySem.W.mg_of X G a5, k5, b5, fun n T hF => ok_has_rows F5 hB hC hX hF⟩
    | 6, _ => ⟨f6, _, _, PySem.W.mg_of X G a6, k6, b6, fun n T hF => ok_rows_within F6 hB hC hX hF⟩
    | 7, _ => ⟨f7, _, _, PySem.W.mg_of X G a7, k7, b7, fun n T hF => ok_surely_set F7 hB hC hX hF⟩
    | 8, _ => ⟨f8, _, _, PySem.W.mg_of X G a8, k8, b8, fun n T hF => ok__surely_set_by F8 hB hC hX hF⟩
    | 9, _ => ⟨f9, _, _, PySem.W.mg_of X G a9, k9, b9, fun n T hF => ok_first_read F9 hB hC hX hF⟩
    | 10, _ => ⟨f10, _, _, PySem.W.mg_of X G a10, k10, b10, fun n T hF => ok__first_read_by F10 hB hC hX hF⟩
    | 11, _ => ⟨f11, _, _, PySem.W.mg_of X G a11, k11, b11, fun n T hF => ok_row_at F11 hB hC hX hF⟩
    | 12, _ => ⟨f12, _, _, PySem.W.mg_of X G a12, k12, b12, fun n T hF => ok_rows_from F12 hB hC hX hF⟩
    | 13, _ => ⟨f13, _, _, PySem.W.mg_of X G a13, k13, b13, fun n T hF => ok__rows_around F13 hB hC hX hF⟩
    | 14, _ => ⟨f14, _, _, PySem.W.mg_of X G a14, k14, b14, fun n T hF => ok_needed F14 hB hC hX hF⟩
    | 15, _ => ⟨f15, _, _, PySem.W.mg_of X G a15, k15, b15, fun n T hF => ok__needed_ahead F15 hB hC hX hF⟩
    | 16, _ => ⟨f16, _, _, PySem.W.mg_of X G a16, k16, b16, fun n T hF => ok__law_cell F16 hB hC hX hF⟩
    | 17, _ => ⟨f17, _, _, PySem.W.mg_of X G a17, k17, b17, fun n T hF => ok__law_mixed F17 hB hC hX hF⟩
    | 18, _ => ⟨f18, _, _, PySem.W.mg_of X G a18, k18, b18, fun n T hF => ok__law_words F18 hB hC hX hF⟩
    | 19, _ => ⟨f19, _, _, PySem.W.mg_of X G a19, k19, b19, fun n T hF => ok__law_term F19 hB hC hX hF⟩
    | 20, _ => ⟨f20, _, _, PySem.W.mg_of X G a20, k20, b20, fun n T hF => ok__law_given F20 hB hC hX hF⟩
    | 21, _ => ⟨f21, _, _, PySem.W.mg_of X G a21, k21, b21, fun n T hF => ok__law_call F21 hB hC hX hF⟩
    | 22, _ => ⟨f22, _, _, PySem.W.mg_of X G a22, k22, b22, fun n T hF => ok__law_row F22 hB hC hX hF⟩
    | 23, _ => ⟨f23, _, _, PySem.W.mg_of X G a23, k23, b23, fun n T hF => ok__law_rows F23 hB hC hX hF⟩
    | 24, _ => ⟨f24, _, _, PySem.W.mg_of X G a24, k24, b24, fun n T hF => ok__law_looped F24 hB hC hX hF⟩
    | 25, _ => ⟨f25, _, _, PySem.W.mg_of X G a25, k25, b25, fun n T hF => ok__law_function F25 hB hC hX hF⟩
    | 26, _ => ⟨f26, _, _, PySem.W.mg_of X G a26, k26, b26, fun n T hF => ok__law_variables F26 hB hC hX hF⟩
    | 27, _ => ⟨f27, _, _, PySem.W.mg_of X G a27, k27, b27, fun n T hF => ok__law_program F27 hB hC hX hF⟩
    | 28, _ => ⟨f28, _, _, PySem.W.mg_of X G a28, k28, b28, fun n T hF => ok__law_block F28 hB hC hX hF⟩
    | 29, _ => ⟨f29, _, _, PySem.W.mg_of X G a29, k29, b29, fun n T hF => ok__law_places F29 hB hC hX hF⟩
    | 30, _ => ⟨f30, _, _, PySem.W.mg_of X G a30, k30, b30, fun n T hF => ok__law_all F30 hB hC hX hF⟩
    | 31, _ => ⟨f31, _, _, PySem.W.mg_of X G a31, k31, b31, fun n T hF => ok__law_alike F31 hB hC hX hF⟩
    | 32, _ => ⟨f32, _, _, PySem.W.mg_of X G a32, k32, b32, fun n T hF => ok__law_told F32 hB hC hX hK hF⟩
    | 33, _ => ⟨f33, _, _, PySem.W.mg_of X G a33, k33, b33, fun n T hF => ok__law_none F33 hB hC hX hF⟩
    | 34, _ => ⟨fa, _, _, PySem.W.mg_of X G a34, k34, b34, fun n T hF => ok_law F34 hB hC hX hF⟩
    | k + 35, h => (Nat.not_lt_of_le (Nat.le_add_left 35 k) h).elim) 200
  exact fn_cx0 (ok_law F34 hB hC hX A) (law_ok main)
end Lk
open PySem PySem.W PyProof.Rows
set_option maxRecDepth 100000 in
set_option maxHeartbeats 0 in
theorem PySem.Challenge.cw_safeturn_k04_places_holds : PySem.Challenge.rw_safeturn_k04_places.Holds := by
  w_on; o_law; k_head; (case hw => w_witness2)
  k_fill
  refine L2.walk_of (l := PySem.Challenge.rw_safeturn_k04_places) (n := 63) (k := 201) (x := "_law_script") (CX := fun _ => L2.CX0) (sp := fun w => Vm.spLaw _) rfl (by decide) rfl ⟨rfl, by decide, by decide⟩ (fun w h Y => PySem.W.kIn_of Y) ?F (fun _ _ a ns hl _ hS => ⟨a, ns, rfl, hS, hl, fun _ => rfl⟩) (fun _ _ _ _ _ h => h)
  case F =>
    intro w mg fa h KX G hmg
    refine' Lk.all_mk Lk.main KX G hmg ?a0 ?l0 ?c0 ?k0 ?a1 ?l1 ?c1 ?k1 ?a2 ?l2 ?c2 ?k2 ?a3 ?l3 ?c3 ?k3 ?a4 ?l4 ?c4 ?k4 ?a5 ?l5 ?c5 ?k5 ?a6 ?l6 ?c6 ?k6 ?a7 ?l7 ?c7 ?k7 ?a8 ?l8 ?c8 ?k8 ?a9 ?l9 ?c9 ?k9 ?a10 ?l10 ?c10 ?k10 ?a11 ?l11 ?c11 ?k11 ?a12 ?l12 ?c12 ?k12 ?a13 ?l13 ?c13 ?k13 ?a14 ?l14 ?c14 ?k14 ?a15 ?l15 ?c15 ?k15 ?a16 ?l16 ?c16 ?k16 ?a17 ?l17 ?c17 ?k17 ?a18 ?l18 ?c18 ?k18 ?a19 ?l19 ?c19 ?k19 ?a20 ?l20 ?c20 ?k20 ?a21 ?l21 ?c21 ?k21 ?a22 ?l22 ?c22 ?k22 ?a23 ?l23 ?c23 ?k23 ?a24 ?l24 ?c24 ?k24 ?a25 ?l25 ?c25 ?k25 ?a26 ?l26 ?c26 ?k26 ?a27 ?l27 ?c27 ?k27 ?a28 ?l28 ?c28 ?k28 ?a29 ?l29 ?c29 ?k29 ?a30 ?l30 ?c30 ?k30 ?a31 ?l31 ?c31 ?k31 ?a32 ?l32 ?c32 ?k32 ?a33 ?l33 ?c33 ?k33 ?a34 ?l34 ?c34 ?k34 ?a35 ?l35 ?c35 ?k35 ?z0 ?z1 ?z2 ?z3 ?z4 ?z5 ?z6 ?z7 ?z8 ?z9 ?z10  ?cg0 ?cg1 ?cg2 ?cg3 ?cg4 ?cg5 ?cg6 ?x0q ?x0k ?x0b ?x0t ?v0i ?v0t ?v1i ?v1t ?v2i ?v2t ?v3i ?v3t ?v4i ?v4t ?v5i ?v5t ?v6i ?v6t ?v6b ?w0g ?w0h ?w0a ?w0m ?w0s0 ?w0s1 ?w0s2 ?w0s3 ?w0s4 ?w0s5 ?w0s6 ?w0v ?wn ?wt
    (case a0 => k_is); (case l0 => k_is); (case c0 => k_is); (case k0 => k_is)
    (case a1 => k_is); (case l1 => k_is); (case c1 => k_is); (case k1 => k_is)
    (case a2 => k_is); (case l2 => k_is); (case c2 => k_is); (case k2 => k_is)
    (case a3 => k_is); (case l3 => k_is); (case c3 => k_is); (case k3 => k_is)
    (case a4 => k_is); (case l4 => k_is); (case c4 => k_is); (case k4 => k_is)
    (case a5 => k_is); (case l5 => k_is); (case c5 => k_is); (case k5 => k_is)
    (case a6 => k_is); (case l6 => k_is); (case c6 => k_is); (case k6 => k_is)
    (case a7 => k_is); (case l7 => k_is); (case c7 => k_is); (case k7 => k_is)
    (case a8 => k_is); (case l8 => k_is); (case c8 => k_is); (case k8 => k_is)
    (case a9 => k_is); (case l9 => k_is); (case c9 => k_is); (case k9 => k_is)
    (case a10 => k_is); (case l10 => k_is); (case c10 => k_is); (case k10 => k_is)
    (case a11 => k_is); (case l11 => k_is); (case c11 => k_is); (case k11 => k_is)
    (case a12 => k_is); (case l12 => k_is); (case c12 => k_is); (case k12 => k_is)
    (case a13 => k_is); (case l13 => k_is); (case c13 => k_is); (case k13 => k_is)
    (case a14 => k_is); (case l14 => k_is); (case c14 => k_is); (case k14 => k_is)
    (case a15 => k_is); (case l15 => k_is); (case c15 => k_is); (case k15 => k_is)
    (case a16 => k_is); (case l16 => k_is); (case c16 => k_is); (case k16 => k_is)
    (case a17 => k_is); (case l17 => k_is); (case c17 => k_is); (case k17 => k_is)
    (case a18 => k_is); (case l18 => k_is); (case c18 => k_is); (case k18 => k_is)
    (case a19 => k_is); (case l19 => k_is); (case c19 => k_is); (case k19 => k_is)
    (case a20 => k_is); (case l20 => k_is); (case c20 => k_is); (case k20 => k_is)
    (case a21 => k_is); (case l21 => k_is); (case c21 => k_is); (case k21 => k_is)
    (case a22 => k_is); (case l22 => k_is); (case c22 => k_is); (case k22 => k_is)
    (case a23 => k_is); (case l23 => k_is); (case c23 => k_is); (case k23 => k_is)
    (case a24 => k_is); (case l24 => k_is); (case c24 => k_is); (case k24 => k_is)
    (case a25 => k_is); (case l25 => k_is); (case c25 => k_is); (case k25 => k_is)
    (case a26 => k_is); (case l26 => k_is); (case c26 => k_is); (case k26 => k_is)
    (case a27 => k_is); (case l27 => k_is); (case c27 => k_is); (case k27 => k_is)
    (case a28 => k_is); (case l28 => k_is); (case c28 => k_is); (case k28 => k_is)
    (case a29 => k_is); (case l29 => k_is); (case c29 => k_is); (case k29 => k_is)
    (case a30 => k_is); (case l30 => k_is); (case c30 => k_is); (case k30 => k_is)
    (case a31 => k_is); (case l31 => k_is); (case c31 => k_is); (case k31 => k_is)
    (case a32 => k_is); (case l32 => k_is); (case c32 => k_is); (case k32 => k_is)
    (case a33 => k_is); (case l33 => k_is); (case c33 => k_is); (case k33 => k_is)
    (case a34 => k_is); (case l34 => k_is); (case c34 => k_is); (case k34 => k_is)
    (case a35 => k_is); (case l35 => k_is); (case c35 => k_is); (case k35 => k_is)
    (case z0 => k_is)
    (case z1 => k_is)
    (case z2 => k_is)
    (case z3 => k_is)
    (case z4 => k_is)
    (case z5 => k_is)
    (case z6 => k_is)
    (case z7 => k_is)
    (case z8 => k_is)
    (case z9 => k_is)
    (case z10 => k_is)

    (case cg0 => k_is)
    (case cg1 => k_is)
    (case cg2 => k_is)
    (case cg3 => k_is)
    (case cg4 => k_is)
    (case cg5 => k_is)
    (case cg6 => k_is)
    (case x0q => k_exc)
    (case x0k => k_is)
    (case x0b => k_is)
    (case x0t => k_is)
    (case v0i => k_is)
    (case v0t => k_is)
    (case v1i => k_is)
    (case v1t => k_is)
    (case v2i => k_is)
    (case v2t => k_is)
    (case v3i => k_is)
    (case v3t => k_is)
    (case v4i => k_is)
    (case v4t => k_is)
    (case v5i => k_is)
    (case v5t => k_is)
    (case v6i => k_is)
    (case v6t => k_is)
    (case v6b => k_is)
    (case w0g => k_is)
    (case w0h => k_is)
    (case w0a => k_is)
    (case w0m => k_is)
    (case w0s0 => k_is)
    (case w0s1 => k_is)
    (case w0s2 => k_is)
    (case w0s3 => k_is)
    (case w0s4 => k_is)
    (case w0s5 => k_is)
    (case w0s6 => k_is)
    (case w0v => k_is)
    (case wn => k_is)
    (case wt => k_is)
