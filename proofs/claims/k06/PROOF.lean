import PyProof.Rows.All
import Wide.All
import OpenK.AllK
import Wide.FinOn
import HandS.Base
import HandS.Call
import HandS.List
import HandS.Dict
import HandS.Words
import HandS.SetKeys
import HandS.Set
import HandS.SetTxt0
import HandS.SetFor
import HandS.TupSets
import HandS.Strs
import HandS.Comp
import HandS.Ends
import HandS.Exc
import HandS.ExcOwn
import HandS.WordsExc
import HandS.ExcCtx
import HandS.HotCalls
import HandS.ExcIs
import HandS.IsInst
import KE.KExcIs
import HandS.Text
import HandS.Conv
import HandS.TupAny
import HandS.Wide
import HandS.DictComp
import HandS.WordsDict
import HandS.Defaults
import HandS.Flow
import HandS.ExcField
import HandS.ExcInit
import HandS.ExcInitHot
import HandS.FStrTup
import HandS.FStr
import KE.KxText
import HandS.Iter
import HandS.SortKw
import KE.GoesEnumKw
import KE.GoesMore
import KE.GoesEnum
import KE.DatumOrd
import PyProof.StrLawsIn
import HandS.Zip
import HandS.ListItems
import KE.KDictZip
import HandS.Style
import PySem.Challenge.RW_safeturn_k06_run
set_option Elab.async false
set_option linter.all false
set_option maxRecDepth 100000
set_option maxHeartbeats 4000000
namespace Vm
theorem lA9.{u} : type_of% @List.getElem?_cons_zero.{u} := @List.getElem?_cons_zero.{u}
theorem lB9.{u} : type_of% @List.getElem?_cons_succ.{u} := @List.getElem?_cons_succ.{u}
theorem lC9.{u} : type_of% @List.set_cons_zero.{u} := @List.set_cons_zero.{u}
theorem lD9.{u} : type_of% @List.set_cons_succ.{u} := @List.set_cons_succ.{u}
theorem lE9.{u} : type_of% @List.length_cons.{u} := @List.length_cons.{u}
theorem lF9.{u} : type_of% @List.length_nil.{u} := @List.length_nil.{u}
theorem lG9.{u} : type_of% @List.take_length.{u} := @List.take_length.{u}
theorem lH9.{u,v} : type_of% @Option.map_some.{u,v} := @Option.map_some.{u,v}
theorem lI9 : type_of% @Bool.false_and := @Bool.false_and
theorem lJ9 : type_of% @Bool.and_false := @Bool.and_false
theorem lK9 : type_of% @Bool.true_and := @Bool.true_and
theorem lL9 : type_of% @Bool.and_true := @Bool.and_true
theorem lM9 : type_of% @Bool.not_true := @Bool.not_true
theorem lN9 : type_of% @Bool.not_false := @Bool.not_false
theorem lO9 : type_of% @Bool.false_eq_true := @Bool.false_eq_true
theorem lP9 : type_of% @decide_true := @decide_true
theorem lQ9 : type_of% @decide_false := @decide_false
theorem lR9 : type_of% @decide_eq_true_eq := @decide_eq_true_eq
theorem lS9.{u} : type_of% @if_true.{u} := @if_true.{u}
theorem lT9.{u} : type_of% @if_false.{u} := @if_false.{u}
open PySem PySem.Spec L2 PySem.Froz
def Okt (w : World) (t : SetTable) : Prop := Ris t.place.toList ∧ (w.params.followText "set-order" = true ∨ t.led = true)
/-- the set at a has the texts l, each once -/
def SX (P : Program) (w : World) (h : Heap) (a : Addr) (l : List Str) : Prop :=
  ∃ D : SD, h.get? a = some (sObj "set" D) ∧ TxOk P w D l ∧ l.Nodup ∧ Okt w D.2.2 ∧ l.length < scanBound
section
variable {P : Program} {w : World} {A : Around} {E : Value → Shared → Prop} {s : Shared} {a : Addr} {l : List Str}
theorem SX.keep {h h' : Heap} (R : SX P w h a l) (k : ∀ o, h.get? a = some o → h'.get? a = some o) : SX P w h' a l := by
  obtain ⟨D, ho, r⟩ := R
  exact ⟨D, k _ ho, r⟩
/-- a set as it is made -/
abbrev so (w : World) : Obj := { cls := .type "set", dict := none, data := .set #[] 0 (.fresh 0 0 (!w.params.followText "set-order")) }
end
/-- the set of texts at a, over the heap -/
def SXo (P : Program) (w : World) (a : Addr) (l : List Str) : HO := .ext fun h => SX P w h a l
end Vm
namespace Vm
open PySem L2
inductive PV where
  | non | bl (b : Bool) | int (i : Int) | str (x : Str)
  | tup (xs : List PV) | lst (xs : List PV) | dct (ks : List Key) (xs : List PV) | sset (xs : List Str)
  | scr (ns : List Int) | loc (n : Nat) | raw (a : Addr) (d : Option Addr) (fs : List PV) | vis (fs : List PV)
  deriving Inhabited
abbrev VSt := List PV
abbrev VEnv := List (Option PV)
mutual
/-- scalars, and tuples of them -/
def pureP : PV → Bool
  | .non => true | .bl _ => true | .int _ => true | .str _ => true
  | .tup xs => pures xs
  | _ => false
def pures : List PV → Bool
  | [] => true
  | x :: r => pureP x && pures r
end
/-- what may stand in the store: a list, a dict, a set of such -/
def noLoc : PV → Bool
  | .lst xs => pures xs
  | .dct _ xs => pures xs
  | .sset _ => true
  | _ => false
mutual
/-- locs from k on are read off the store -/
def freeze (st : VSt) (k : Nat) : PV → PV
  | .loc n => if n < k then .loc n else st.getD n .non
  | .tup xs => .tup (freezes st k xs)
  | .lst xs => .lst (freezes st k xs)
  | .dct ks xs => .dct ks (freezes st k xs)
  | .vis xs => .vis (freezes st k xs)
  | p => p
def freezes (st : VSt) (k : Nat) : List PV → List PV
  | [] => []
  | x :: r => freeze st k x :: freezes st k r
end
def deref (st : VSt) : PV → PV
  | .loc n => st.getD n .non
  | p => p
/-- exceptions: the classes by their numbers, what is wanted where one leaves -/
structure XD where
  C : Nat → Addr
  E : XK
/-- what the relation is over: the program, its world, the written part, the hidden addresses -/
structure Gx where
  P : Program
  w : World
  K : PySem.W.Frag
  hid : List Addr
  X : XD
  nst : Nat → Bool
  bb : Option Nat
/-- hidden addresses; what may hold visits, and how far its locs reach -/
structure HD where
  l : List Addr
  nst : Nat → Bool
  bb : Option Nat
def HD.hd (h : HD) (d : Addr) : HD := ⟨d :: h.l, h.nst, h.bb⟩
def Scr (G : Gx) (ρ : List Addr) (H : Hp) (a : Addr) (xs : List V) : Prop :=
  (Rd H a (.lst xs) ∧ a ∉ ρ ∧ a ∉ G.hid) ∨ ∃ (o : Obj) (its : Array Value) (n : Nat), G.K.lookup a = some o ∧ o.cls = .type "list" ∧ o.dict = none ∧ o.data = .seq its n ∧ its.size ≤ sizeLine ∧ Vals xs its.toList
def SetO' (G : Gx) (a : Addr) (xs : List Str) : HO := SXo G.P G.w a xs
/-- the fields of a visit, its class -/
def vNms : List Str := ["cells", "ahead", "result", "target"]
structure VCl (K : PySem.W.Frag) (C : Addr) : Prop where
  c : Cls K C
  n : ∀ f ∈ vNms, NoAttr K C f
mutual
def Rep (G : Gx) (ρ : List Addr) (H : Hp) : PV → V → Prop
  | .non, v => v = .non
  | .bl b, v => v = .bl b
  | .int i, v => v = .int i
  | .str x, v => v = .str x
  | .tup xs, v => ∃ a vs, v = .ref a ∧ SqT G.K H a vs ∧ Reps G ρ H xs vs
  | .lst xs, v => ∃ a vs, v = .ref a ∧ a ∉ ρ ∧ a ∉ G.hid ∧ H a = some (.lst vs) ∧ Reps G ρ H xs vs
  | .dct ks xs, v => ∃ a vs, v = .ref a ∧ a ∉ ρ ∧ a ∉ G.hid ∧ ks.length = vs.length ∧ H a = some (.dK (ks.zip vs)) ∧ Reps G ρ H xs vs
  | .sset xs, v => ∃ a, v = .ref a ∧ a ∉ ρ ∧ a ∉ G.hid ∧ H a = some (SetO' G a xs)
  | .scr ns, v => ∃ a, v = .ref a ∧ Scr G ρ H a (ns.map V.int)
  | .loc n, v => ∃ a, v = .ref a ∧ ρ[n]? = some a
  | .raw a d fs, v => v = .ref a ∧ pures fs = true ∧ ∀ dd, d = some dd → dd ∉ ρ ∧ ∃ vs, H dd = some (.xd ([("other" : Str), "one"].zip vs)) ∧ Reps G ρ H fs vs
  | .vis fs, v => ∃ a C dx vs, v = .ref a ∧ a ∉ ρ ∧ a ∉ G.hid ∧ VCl G.K C ∧ vs.length = 4 ∧ H a = some (.ins C dx (vNms.zip vs)) ∧ Reps G ρ H fs vs
def Reps (G : Gx) (ρ : List Addr) (H : Hp) : List PV → List V → Prop
  | [], vs => vs = []
  | p :: ps, vs => ∃ v r, vs = v :: r ∧ Rep G ρ H p v ∧ Reps G ρ H ps r
end
structure Later (ρ : List Addr) (H : Hp) (ρ' : List Addr) (H' : Hp) : Prop where
  ext : ∃ δ, ρ' = ρ ++ δ ∧ ∀ p ∈ δ, H p = none
  keep : ∀ a o, H a = some o → a ∉ ρ → H' a = some o
  dom : ∀ a o, H a = some o → ∃ o', H' a = some o'
  tup : ∀ a xs, H a = some (.tup xs) → H' a = some (.tup xs)
  frz : ∀ a o u, H a = some (.frz o u) → H' a = some (.frz o u)
theorem Later.refl (ρ : List Addr) (H : Hp) : Later ρ H ρ H := ⟨⟨[], by simp, by simp⟩, fun _ _ h _ => h, fun _ o h => ⟨o, h⟩, fun _ _ h => h, fun _ _ _ h => h⟩
theorem Later.back {ρ ρ' : List Addr} {H H' : Hp} (l : Later ρ H ρ' H') {a : Addr} (h : H' a = none) : H a = none := by
  cases e : H a with
  | none => rfl
  | some o => obtain ⟨o', e'⟩ := l.dom a o e; rw [h] at e'; cases e'
theorem Later.nin {ρ ρ' : List Addr} {H H' : Hp} (l : Later ρ H ρ' H') {a : Addr} {o : HO} (h : H a = some o) (n : a ∉ ρ) : a ∉ ρ' := by
  obtain ⟨δ, rfl, hδ⟩ := l.ext
  intro hm
  rcases List.mem_append.mp hm with z | z
  · exact n z
  · rw [hδ a z] at h; cases h
theorem Later.trans {ρ ρ1 ρ2 : List Addr} {H H1 H2 : Hp} (l : Later ρ H ρ1 H1) (m : Later ρ1 H1 ρ2 H2) : Later ρ H ρ2 H2 where
  ext := by
    obtain ⟨δ, e, hδ⟩ := l.ext
    obtain ⟨ε, e', hε⟩ := m.ext
    refine ⟨δ ++ ε, by rw [e', e, List.append_assoc], fun p hp => ?_⟩
    rcases List.mem_append.mp hp with z | z
    · exact hδ p z
    · exact l.back (hε p z)
  keep := fun a o h n => m.keep a o (l.keep a o h n) (l.nin h n)
  dom := fun a o h => by obtain ⟨o', h'⟩ := l.dom a o h; exact m.dom a o' h'
  tup := fun a xs h => m.tup a xs (l.tup a xs h)
  frz := fun a o u h => m.frz a o u (l.frz a o u h)
theorem Later.new {ρ : List Addr} {H : Hp} {p : Addr} {o : HO} (h : H p = none) : Later ρ H ρ (upd H p o) where
  ext := ⟨[], by simp, by simp⟩
  keep := fun a u e _ => by rw [upd_ne (ne_of_none e h)]; exact e
  dom := fun a u e => ⟨u, by rw [upd_ne (ne_of_none e h)]; exact e⟩
  tup := fun a u e => by rw [upd_ne (ne_of_none e h)]; exact e
  frz := fun a u z e => by rw [upd_ne (ne_of_none e h)]; exact e
/-- a new object that is boxed -/
theorem Later.box {ρ : List Addr} {H : Hp} {p : Addr} (h : H p = none) : Later ρ H (ρ ++ [p]) H where
  ext := ⟨[p], rfl, fun q hq => by obtain rfl := List.mem_singleton.mp hq; exact h⟩
  keep := fun a u e _ => e
  dom := fun a u e => ⟨u, e⟩
  tup := fun a u e => e
  frz := fun a u z e => e
/-- an object that H doesn't know changes -/
theorem Later.mut {ρ ρ' : List Addr} {H H' : Hp} (l : Later ρ H ρ' H') {p : Addr} {o : HO} (h : H p = none) : Later ρ H ρ' (upd H' p o) where
  ext := l.ext
  keep := fun a u e n => by rw [upd_ne (ne_of_none e h)]; exact l.keep a u e n
  dom := fun a u e => by rw [upd_ne (ne_of_none e h)]; exact l.dom a u e
  tup := fun a u e => by rw [upd_ne (ne_of_none e h)]; exact l.tup a u e
  frz := fun a u z e => by rw [upd_ne (ne_of_none e h)]; exact l.frz a u z e
theorem rd_later {ρ ρ' : List Addr} {H H' : Hp} (l : Later ρ H ρ' H') {a : Addr} {u : HO} (h : Rd H a u) (n : a ∉ ρ) : Rd H' a u ∧ a ∉ ρ' := by
  rcases h with h | ⟨o, h⟩
  · exact ⟨.inl (l.keep a _ h n), l.nin h n⟩
  · exact ⟨.inr ⟨o, l.frz a o u h⟩, l.nin h n⟩
theorem sqT_later {K : PySem.W.Frag} {ρ ρ' : List Addr} {H H' : Hp} (l : Later ρ H ρ' H') {a : Addr} {xs : List V} (h : SqT K H a xs) : SqT K H' a xs := by
  rcases h with (h | ⟨o, h⟩) | h
  · exact .inl (.inl (l.tup a _ h))
  · exact .inl (.inr ⟨o, l.frz a o _ h⟩)
  · exact .inr h
theorem scr_later {G : Gx} {ρ ρ' : List Addr} {H H' : Hp} (l : Later ρ H ρ' H') {a : Addr} {xs : List V} (h : Scr G ρ H a xs) : Scr G ρ' H' a xs := by
  rcases h with ⟨h, n, n2⟩ | h
  · exact .inl ⟨(rd_later l h n).1, (rd_later l h n).2, n2⟩
  · exact .inr h
theorem scr_sq {G : Gx} {ρ : List Addr} {H : Hp} {a : Addr} {xs : List V} (h : Scr G ρ H a xs) : SqL G.K H a xs := by
  rcases h with ⟨h, _⟩ | h
  · exact .inl h
  · exact .inr h
mutual
theorem Rep.later {G : Gx} {ρ ρ' : List Addr} {H H' : Hp} (l : Later ρ H ρ' H') : ∀ (p : PV) (v : V), Rep G ρ H p v → Rep G ρ' H' p v
  | .non, v, h => h
  | .bl b, v, h => h
  | .int i, v, h => h
  | .str x, v, h => h
  | .tup xs, v, h => by
    obtain ⟨a, vs, e, s, r⟩ := h
    exact ⟨a, vs, e, sqT_later l s, Reps.later l xs vs r⟩
  | .lst xs, v, h => by
    obtain ⟨a, vs, e, n, n2, s, r⟩ := h
    exact ⟨a, vs, e, l.nin s n, n2, l.keep _ _ s n, Reps.later l xs vs r⟩
  | .dct ks xs, v, h => by
    obtain ⟨a, vs, e, n, n2, z, s, r⟩ := h
    exact ⟨a, vs, e, l.nin s n, n2, z, l.keep _ _ s n, Reps.later l xs vs r⟩
  | .sset xs, v, h => by
    obtain ⟨a, e, n, n2, s⟩ := h
    exact ⟨a, e, l.nin s n, n2, l.keep _ _ s n⟩
  | .raw a d fs, v, h => by
    obtain ⟨e, f, z⟩ := h
    refine ⟨e, f, fun dd hd => ?_⟩
    obtain ⟨n, vs, q, r⟩ := z dd hd
    exact ⟨l.nin q n, vs, l.keep _ _ q n, Reps.later l fs vs r⟩
  | .vis xs, v, h => by
    obtain ⟨a, C, dx, vs, e, n, n2, c, z, s, r⟩ := h
    exact ⟨a, C, dx, vs, e, l.nin s n, n2, c, z, l.keep _ _ s n, Reps.later l xs vs r⟩
  | .scr ns, v, h => by
    obtain ⟨a, e, s⟩ := h
    exact ⟨a, e, scr_later l s⟩
  | .loc n, v, h => by
    obtain ⟨a, e, s⟩ := h
    obtain ⟨δ, rfl, _⟩ := l.ext
    exact ⟨a, e, by rw [List.getElem?_append_left (List.getElem?_eq_some_iff.mp s).1]; exact s⟩
theorem Reps.later {G : Gx} {ρ ρ' : List Addr} {H H' : Hp} (l : Later ρ H ρ' H') : ∀ (ps : List PV) (vs : List V), Reps G ρ H ps vs → Reps G ρ' H' ps vs
  | [], vs, h => h
  | p :: ps, vs, h => by
    obtain ⟨v, r, e, h1, h2⟩ := h
    exact ⟨v, r, e, Rep.later l p v h1, Reps.later l ps r h2⟩
end
theorem Reps.length {G : Gx} {ρ : List Addr} {H : Hp} : ∀ {ps : List PV} {vs : List V}, Reps G ρ H ps vs → vs.length = ps.length
  | [], vs, h => by rw [show vs = [] from h]; rfl
  | p :: ps, vs, h => by
    obtain ⟨v, r, rfl, _, h2⟩ := h
    rw [List.length_cons, List.length_cons, Reps.length h2]
theorem Reps.get {G : Gx} {ρ : List Addr} {H : Hp} : ∀ {ps : List PV} {vs : List V} {i : Nat} {p : PV}, Reps G ρ H ps vs → ps[i]? = some p → ∃ v, vs[i]? = some v ∧ Rep G ρ H p v
  | [], _, _, _, _, e => by simp at e
  | q :: ps, vs, 0, p, h, e => by
    obtain ⟨v, r, rfl, h1, _⟩ := h
    have e : q = p := by simpa using e
    subst e
    exact ⟨v, rfl, h1⟩
  | q :: ps, vs, i + 1, p, h, e => by
    obtain ⟨v, r, rfl, _, h2⟩ := h
    obtain ⟨u, a, b⟩ := Reps.get (i := i) h2 (by simpa using e)
    exact ⟨u, by simpa using a, b⟩
theorem Reps.append {G : Gx} {ρ : List Addr} {H : Hp} : ∀ {ps qs : List PV} {vs ws : List V}, Reps G ρ H ps vs → Reps G ρ H qs ws → Reps G ρ H (ps ++ qs) (vs ++ ws)
  | [], _, vs, _, h, k => by rw [show vs = [] from h]; exact k
  | p :: ps, _, vs, _, h, k => by
    obtain ⟨v, r, rfl, h1, h2⟩ := h
    exact ⟨v, _, rfl, h1, Reps.append h2 k⟩
theorem Reps.one {G : Gx} {ρ : List Addr} {H : Hp} {p : PV} {v : V} (h : Rep G ρ H p v) : Reps G ρ H [p] [v] := ⟨v, [], rfl, h, rfl⟩
theorem Reps.take {G : Gx} {ρ : List Addr} {H : Hp} : ∀ {ps : List PV} {vs : List V} (n : Nat), Reps G ρ H ps vs → Reps G ρ H (ps.take n) (vs.take n)
  | _, _, 0, _ => rfl
  | [], vs, _ + 1, h => by rw [show vs = [] from h]; rfl
  | p :: ps, vs, n + 1, h => by
    obtain ⟨v, r, rfl, h1, h2⟩ := h
    exact ⟨v, _, rfl, h1, Reps.take n h2⟩
theorem Reps.drop {G : Gx} {ρ : List Addr} {H : Hp} : ∀ {ps : List PV} {vs : List V} (n : Nat), Reps G ρ H ps vs → Reps G ρ H (ps.drop n) (vs.drop n)
  | _, _, 0, h => h
  | [], vs, _ + 1, h => by rw [show vs = [] from h]; rfl
  | p :: ps, vs, n + 1, h => by
    obtain ⟨v, r, rfl, _, h2⟩ := h
    exact Reps.drop n h2
theorem Reps.set {G : Gx} {ρ : List Addr} {H : Hp} {p : PV} {v : V} (h : Rep G ρ H p v) : ∀ {ps : List PV} {vs : List V} (n : Nat), Reps G ρ H ps vs → Reps G ρ H (ps.set n p) (vs.set n v)
  | [], vs, _, k => by rw [show vs = [] from k]; rfl
  | q :: ps, vs, 0, k => by
    obtain ⟨w, r, rfl, _, h2⟩ := k
    exact ⟨v, r, rfl, h, h2⟩
  | q :: ps, vs, n + 1, k => by
    obtain ⟨w, r, rfl, h1, h2⟩ := k
    exact ⟨w, _, rfl, h1, Reps.set h n h2⟩
/-- what stands at a boxed object's address -/
def ObjR (G : Gx) (ρ : List Addr) (H : Hp) : PV → Addr → Prop
  | .lst xs, a => ∃ vs, H a = some (.lst vs) ∧ Reps G ρ H xs vs
  | .dct ks xs, a => ∃ vs, ks.length = vs.length ∧ H a = some (.dK (ks.zip vs)) ∧ Reps G ρ H xs vs
  | .sset xs, a => H a = some (SetO' G a xs)
  | _, _ => False
/-- a value that a list of visits may hold -/
def nV (p : PV) : Bool := match p with
  | .vis fs => fs.all fun f => pureP f || (match f with | .loc _ => true | _ => false)
  | p => pureP p
def lclV (b : Nat) (p : PV) : Bool := match p with
  | .vis fs => fs.all fun f => match f with | .loc n => decide (n < b) | _ => true
  | _ => true
/-- what may stand in the store at n -/
def okE (G : Gx) (n : Nat) (p : PV) : Prop := noLoc p = true ∨ ∃ xs, p = .lst xs ∧ G.nst n = true ∧ (∀ x ∈ xs, nV x = true) ∧ ∀ b, G.bb = some b → ∀ x ∈ xs, lclV b x = true
theorem okE.app {G : Gx} {n : Nat} {xs ys : List PV} (h : okE G n (.lst xs)) (k : ∀ y ∈ ys, y ∈ xs ∨ pureP y = true) : okE G n (.lst ys) := by
  have pl : ∀ {y : PV}, pureP y = true → nV y = true ∧ ∀ b, lclV b y = true := fun {y} hy => by
    cases y with
    | vis fs => cases hy
    | _ => exact ⟨hy, fun _ => rfl⟩
  have pm : ∀ l : List PV, pures l = true ↔ ∀ y ∈ l, pureP y = true := fun l => by
    induction l with
    | nil => simp [pures]
    | cons a l ih => simp [pures, ih]
  rcases h with h | ⟨zs, e, h1, h2, h3⟩
  · refine .inl ((pm ys).mpr fun y hy => ?_)
    rcases k y hy with k | k
    · exact (pm xs).mp h y k
    · exact k
  · cases e
    refine .inr ⟨ys, rfl, h1, fun y hy => ?_, fun b hb y hy => ?_⟩
    · rcases k y hy with k | k
      · exact h2 y k
      · exact (pl k).1
    · rcases k y hy with k | k
      · exact h3 b hb y k
      · exact (pl k).2 b
structure SRel (G : Gx) (ρ : List Addr) (st : VSt) (H : Hp) : Prop where
  nd : ρ.Nodup
  len : ρ.length = st.length
  obj : ∀ (n : Nat) (p : PV) (a : Addr), st[n]? = some p → ρ[n]? = some a → ObjR G ρ H p a ∧ okE G n p
  hid : ∀ d ∈ G.hid, d ∉ ρ ∧ ∃ o, H d = some o
  ned : ∀ b, G.bb = some b → b ≤ ρ.length ∧ ∀ n, G.nst n = true → n < b
theorem ObjR.some {G : Gx} {ρ : List Addr} {H : Hp} {p : PV} {a : Addr} (h : ObjR G ρ H p a) : ∃ o, H a = some o := by
  cases p with
  | lst xs => obtain ⟨vs, h, _⟩ := h; exact ⟨_, h⟩
  | dct ks xs => obtain ⟨vs, _, h, _⟩ := h; exact ⟨_, h⟩
  | sset xs => exact ⟨_, h⟩
  | _ => exact h.elim
theorem SRel.tracked {G : Gx} {ρ : List Addr} {st : VSt} {H : Hp} (s : SRel G ρ st H) {a : Addr} (h : a ∈ ρ) : ∃ o, H a = some o := by
  obtain ⟨n, hn, e⟩ := List.getElem_of_mem h
  have h1 : n < st.length := by rw [← s.len]; exact hn
  exact (s.obj n st[n] a (List.getElem?_eq_getElem h1) (by rw [List.getElem?_eq_getElem hn, e])).1.some
theorem SRel.fresh {G : Gx} {ρ : List Addr} {st : VSt} {H : Hp} (s : SRel G ρ st H) {a : Addr} (h : H a = none) : a ∉ ρ := fun z => by
  obtain ⟨o, e⟩ := s.tracked z
  rw [h] at e; cases e
theorem SRel.freshH {G : Gx} {ρ : List Addr} {st : VSt} {H : Hp} (s : SRel G ρ st H) {a : Addr} (h : H a = none) : a ∉ G.hid := fun z => by
  obtain ⟨_, o, e⟩ := s.hid a z
  rw [h] at e; cases e
/-- the objects of the store are as they were, a new object stands apart -/
theorem ObjR.later {G : Gx} {ρ ρ' : List Addr} {H H' : Hp} (l : Later ρ H ρ' H') {p : PV} {a : Addr} (e : H' a = H a) (h : ObjR G ρ H p a) : ObjR G ρ' H' p a := by
  cases p with
  | lst xs => obtain ⟨vs, h, r⟩ := h; exact ⟨vs, e.trans h, Reps.later l _ _ r⟩
  | dct ks xs => obtain ⟨vs, z, h, r⟩ := h; exact ⟨vs, z, e.trans h, Reps.later l _ _ r⟩
  | sset xs => exact e.trans h
  | _ => exact h.elim
theorem SRel.new {G : Gx} {ρ : List Addr} {st : VSt} {H : Hp} (s : SRel G ρ st H) {p : Addr} {o : HO} (h : H p = none) : SRel G ρ st (upd H p o) :=
  ⟨s.nd, s.len, fun n q a e1 e2 => by
    obtain ⟨k, nl⟩ := s.obj n q a e1 e2
    obtain ⟨u, e⟩ := k.some
    exact ⟨k.later (.new h) (upd_ne (ne_of_none e h)), nl⟩, fun d hd => by
    obtain ⟨h1, u, e⟩ := s.hid d hd
    exact ⟨h1, u, by rw [upd_ne (ne_of_none e h)]; exact e⟩, s.ned⟩
def EnvR (G : Gx) (ρ : List Addr) (H : Hp) (env : VEnv) (σ : L2.St) : Prop := env.length = σ.length ∧ ∀ (i : Nat) (p : PV), env[i]? = some (some p) → ∃ v, σ[i]? = some (some v) ∧ Rep G ρ H p v
theorem EnvR.later {G : Gx} {ρ ρ' : List Addr} {H H' : Hp} {env : VEnv} {σ : L2.St} (l : Later ρ H ρ' H') (h : EnvR G ρ H env σ) : EnvR G ρ' H' env σ :=
  ⟨h.1, fun i p e => by obtain ⟨v, a, b⟩ := h.2 i p e; exact ⟨v, a, Rep.later l p v b⟩⟩
theorem EnvR.set {G : Gx} {ρ : List Addr} {H : Hp} {env : VEnv} {σ : L2.St} {p : PV} {v : V} (h : EnvR G ρ H env σ) (r : Rep G ρ H p v) (i : Nat) : EnvR G ρ H (env.set i (some p)) (σ.set i (some v)) := by
  refine ⟨by rw [List.length_set, List.length_set, h.1], fun j q e => ?_⟩
  by_cases hij : i = j
  · subst hij
    by_cases hi : i < env.length
    · rw [List.getElem?_set_self hi] at e
      have e : p = q := by simpa using e
      subst e
      exact ⟨v, by rw [List.getElem?_set_self (by rw [← h.1]; exact hi)], r⟩
    · rw [List.getElem?_eq_none (by rw [List.length_set]; omega)] at e; cases e
  · rw [List.getElem?_set_ne hij] at e
    obtain ⟨w, a, b⟩ := h.2 j q e
    exact ⟨w, by rw [List.getElem?_set_ne hij]; exact a, b⟩
def wipeE (env : VEnv) : List Nat → VEnv
  | [] => env
  | v :: vs => (wipeE env vs).set v none
theorem EnvR.unset {G : Gx} {ρ : List Addr} {H : Hp} {env : VEnv} {σ : L2.St} (h : EnvR G ρ H env σ) (i : Nat) : EnvR G ρ H (env.set i none) (σ.set i none) := by
  refine ⟨by rw [List.length_set, List.length_set, h.1], fun j q e => ?_⟩
  by_cases hij : i = j
  · subst hij
    by_cases hi : i < env.length
    · rw [List.getElem?_set_self hi] at e; cases e
    · rw [List.getElem?_eq_none (by rw [List.length_set]; omega)] at e; cases e
  · rw [List.getElem?_set_ne hij] at e
    obtain ⟨w, a, b⟩ := h.2 j q e
    exact ⟨w, by rw [List.getElem?_set_ne hij]; exact a, b⟩
theorem EnvR.wipe {G : Gx} {ρ : List Addr} {H : Hp} {env : VEnv} {σ : L2.St} (h : EnvR G ρ H env σ) : ∀ vs : List Nat, EnvR G ρ H (wipeE env vs) (L2.wipe σ vs)
  | [] => h
  | v :: vs => (EnvR.wipe h vs).unset v
structure Rel (G : Gx) (ρ : List Addr) (env : VEnv) (st : VSt) (σ : L2.St) (H : Hp) : Prop where
  s : SRel G ρ st H
  e : EnvR G ρ H env σ
inductive Res (α : Type) where
  | ok (a : α) (st : VSt)
  | ex (c : Nat) (fs : List PV) (st : VSt)
  | bad
/-- a mark that holds what stands behind as it is -/
structure Fx {γ : Type} (k : γ) : Type where
def Res.bind {α β : Type} (r : Res α) (k : α → VSt → Res β) (_ : Fx k := ⟨⟩) : Res β := match r with
  | .ok a st => k a st
  | .ex c fs st => .ex c fs st
  | .bad => .bad
abbrev EM := VEnv → VSt → Res PV
abbrev AM := VEnv → VSt → Res (List PV)
abbrev Tbl := Nat → List PV → VSt → Res PV
/-- what is to hold behind -/
abbrev KF (α : Type) := List Addr → VSt → Hp → α → Prop
/-- an exception's fields: none, or two -/
def XcR (G : Gx) (ρ : List Addr) (H : Hp) : List PV → Option Addr → Prop
  | [], d => d = none
  | [p, q], d => ∃ dd v w, d = some dd ∧ H dd = some (.xd [(("other" : Str), v), (("one" : Str), w)]) ∧ Rep G ρ H p v ∧ Rep G ρ H q w
  | _, _ => False
def XPost (G : Gx) (ρ : List Addr) (H : Hp) (c : Nat) (fs : List PV) (st' : VSt) : Prop := ∀ ρ' H' d, Later ρ H ρ' H' → SRel G ρ' st' H' → XcR G ρ' H' fs d → G.X.E (.ref (G.X.C c)) d H'
def Post {α : Type} (G : Gx) (ρ : List Addr) (H : Hp) (r : Res α) (K : KF α) : Prop := match r with
  | .ok a st' => ∀ ρ' H', Later ρ H ρ' H' → SRel G ρ' st' H' → K ρ' st' H' a
  | .ex c fs st' => XPost G ρ H c fs st'
  | .bad => False
theorem XPost.move {G : Gx} {ρ ρ1 : List Addr} {H H1 : Hp} {c : Nat} {fs : List PV} {st' : VSt} (l : Later ρ H ρ1 H1) (h : XPost G ρ H c fs st') : XPost G ρ1 H1 c fs st' := fun ρ' H' d l' s x => h ρ' H' d (l.trans l') s x
theorem Post.bind {α β : Type} {G : Gx} {ρ : List Addr} {H : Hp} {r : Res α} {k : α → VSt → Res β} {K : KF β} (h : Post G ρ H (r.bind k) K) : Post G ρ H r (fun ρ1 st1 H1 a => Post G ρ1 H1 (k a st1) K) := by
  cases r with
  | bad => exact h
  | ex c fs st' => exact h
  | ok a st' =>
    intro ρ1 H1 l _
    have h : Post G ρ H (k a st') K := h
    show Post G ρ1 H1 (k a st') K
    cases e : k a st' with
    | bad => rw [e] at h; exact h
    | ex c fs st2 => rw [e] at h; exact XPost.move l h
    | ok b st2 =>
      rw [e] at h
      exact fun ρ2 H2 l2 s2 => h ρ2 H2 (l.trans l2) s2
theorem Post.imp {α : Type} {G : Gx} {ρ : List Addr} {H : Hp} {r : Res α} {K K' : KF α} (h : Post G ρ H r K) (q : ∀ ρ' st' H' a, Later ρ H ρ' H' → SRel G ρ' st' H' → K ρ' st' H' a → K' ρ' st' H' a) : Post G ρ H r K' := by
  cases r with
  | bad => exact h
  | ex c fs st' => exact h
  | ok a st' => exact fun ρ' H' l s => q _ _ _ _ l s (h ρ' H' l s)
theorem Post.now {α : Type} {G : Gx} {ρ : List Addr} {H : Hp} {a : α} {st : VSt} {K : KF α} (h : Post G ρ H (.ok a st) K) (s : SRel G ρ st H) : K ρ st H a := h ρ H (Later.refl _ _) s
/-- the wish of a value: fr: the value, if an object, is a new one -/
def kE (G : Gx) (H : Hp) (fr : Bool) (Q : VK) : KF PV := fun ρ' _ H' p => ∀ v, Rep G ρ' H' p v → (fr = true → ∀ a, v = .ref a → H a = none) → Q v H'
def kA (G : Gx) (Q : List V → Hp → Prop) : KF (List PV) := fun ρ' _ H' p => ∀ v, Reps G ρ' H' p v → Q v H'
def kT (Q : Bool → Hp → Prop) : KF PV := fun _ _ H' p => match p with
  | .bl b => Q b H'
  | _ => False
theorem kE.back {G : Gx} {ρ ρ1 : List Addr} {H H1 : Hp} {fr : Bool} {Q : VK} (l : Later ρ H ρ1 H1) {r : Res PV} {ρ2 : List Addr} {H2 : Hp} (h : Post G ρ2 H2 r (kE G H fr Q)) : Post G ρ2 H2 r (kE G H1 fr Q) :=
  h.imp fun _ _ _ _ _ _ k v rp f => k v rp fun e a ha => l.back (f e a ha)
def gx (X : Cx) (W : XD) (hid : HD) : Gx := ⟨X.prog, X.w, X.K, hid.l, W, hid.nst, hid.bb⟩
/-- a meaning as a reading -/
def cE (X : Cx) (W : XD) (fr : Bool) (m : EM) : TE := fun σ H Q => ∃ hid ρ env st, Rel (gx X W hid) ρ env st σ H ∧ Post (gx X W hid) ρ H (m env st) (kE (gx X W hid) H fr Q)
def cA (X : Cx) (W : XD) (m : AM) : TA := fun σ H Q => ∃ hid ρ env st, Rel (gx X W hid) ρ env st σ H ∧ Post (gx X W hid) ρ H (m env st) (kA (gx X W hid) Q)
def cT (X : Cx) (W : XD) (m : EM) : TT := fun σ H Q => ∃ hid ρ env st, Rel (gx X W hid) ρ env st σ H ∧ Post (gx X W hid) ρ H (m env st) (kT Q)
def Ev (X : Cx) (W : XD) (fr : Bool) (e : Expr) (m : EM) : Prop := PE X e (cE X W fr m)
def EvA (X : Cx) (W : XD) (es : List Expr) (m : AM) : Prop := PA X es (cA X W m)
def EvT (X : Cx) (W : XD) (e : Expr) (m : EM) : Prop := PT X e (cT X W m)
def EvW (X : Cx) (W : XD) (e : Expr) (m : EM) : Prop := PW X e (cT X W m)
theorem PE.anti {X : Cx} {e : Expr} {t u : TE} (h : PE X e t) (k : ∀ σ H Q, u σ H Q → t σ H Q) : PE X e u := ⟨fun pins s σ H Q I w => h.run pins s σ H Q I (k σ H Q w)⟩
theorem PA.anti {X : Cx} {e : List Expr} {t u : TA} (h : PA X e t) (k : ∀ σ H Q, u σ H Q → t σ H Q) : PA X e u := ⟨fun pos pins s σ H Q I w => h.run pos pins s σ H Q I (k σ H Q w)⟩
theorem PT.anti {X : Cx} {e : Expr} {t u : TT} (h : PT X e t) (k : ∀ σ H Q, u σ H Q → t σ H Q) : PT X e u := ⟨fun pins s σ H Q I w => h.run pins s σ H Q I (k σ H Q w)⟩
theorem PW.anti {X : Cx} {e : Expr} {t u : TT} (h : PW X e t) (k : ∀ σ H Q, u σ H Q → t σ H Q) : PW X e u := ⟨fun wh pins s σ H Q I w => h.run wh pins s σ H Q I (k σ H Q w)⟩
theorem Rel.later {G : Gx} {ρ ρ' : List Addr} {env : VEnv} {st st' : VSt} {σ : L2.St} {H H' : Hp} (R : Rel G ρ env st σ H) (l : Later ρ H ρ' H') (s : SRel G ρ' st' H') : Rel G ρ' env st' σ H' := ⟨s, R.e.later l⟩
section
variable {X : Cx} {W : XD} {hid : HD} {ρ : List Addr} {env : VEnv} {st : VSt} {σ : L2.St} {H : Hp}
/-- an expression first, then what follows -/
theorem cE_use {fr : Bool} {m : EM} {β : Type} {k : PV → VSt → Res β} {K : KF β} {Q : VK} (R : Rel (gx X W hid) ρ env st σ H) (P : Post (gx X W hid) ρ H ((m env st).bind k) K)
    (q : ∀ ρ1 st1 H1 p v, Later ρ H ρ1 H1 → Rel (gx X W hid) ρ1 env st1 σ H1 → Rep (gx X W hid) ρ1 H1 p v → (fr = true → ∀ a, v = .ref a → H a = none) → Post (gx X W hid) ρ1 H1 (k p st1) K → Q v H1) : cE X W fr m σ H Q :=
  ⟨hid, ρ, env, st, R, P.bind.imp fun ρ1 st1 H1 p l s kk v rp f => q ρ1 st1 H1 p v l (R.later l s) rp f kk⟩
theorem cA_use {m : AM} {β : Type} {k : List PV → VSt → Res β} {K : KF β} {Q : List V → Hp → Prop} (R : Rel (gx X W hid) ρ env st σ H) (P : Post (gx X W hid) ρ H ((m env st).bind k) K)
    (q : ∀ ρ1 st1 H1 p v, Later ρ H ρ1 H1 → Rel (gx X W hid) ρ1 env st1 σ H1 → Reps (gx X W hid) ρ1 H1 p v → Post (gx X W hid) ρ1 H1 (k p st1) K → Q v H1) : cA X W m σ H Q :=
  ⟨hid, ρ, env, st, R, P.bind.imp fun ρ1 st1 H1 p l s kk v rp => q ρ1 st1 H1 p v l (R.later l s) rp kk⟩
end
/-- going on from a truth value -/
def onB {β : Type} (k : Bool → VSt → Res β) : PV → VSt → Res β := fun p st => match p with
  | .bl b => k b st
  | _ => .bad
theorem cT_use {X : Cx} {W : XD} {hid : HD} {ρ : List Addr} {env : VEnv} {st : VSt} {σ : L2.St} {H : Hp} {m : EM} {β : Type} {k : Bool → VSt → Res β} {K : KF β} {Q : Bool → Hp → Prop} (R : Rel (gx X W hid) ρ env st σ H) (P : Post (gx X W hid) ρ H ((m env st).bind (onB k)) K)
    (q : ∀ ρ1 st1 H1 b, Later ρ H ρ1 H1 → Rel (gx X W hid) ρ1 env st1 σ H1 → Post (gx X W hid) ρ1 H1 (k b st1) K → Q b H1) : cT X W m σ H Q :=
  ⟨hid, ρ, env, st, R, P.bind.imp fun ρ1 st1 H1 p l s kk => by
    cases p with
    | bl b => exact q ρ1 st1 H1 b l (R.later l s) kk
    | _ => exact False.elim kk⟩
theorem Ev.weak {X : Cx} {W : XD} {fr : Bool} {e : Expr} {m : EM} (h : Ev X W fr e m) : Ev X W false e m := PE.anti h fun σ H Q ⟨hid, ρ, env, st, R, P⟩ => ⟨hid, ρ, env, st, R, P.imp fun _ _ _ _ _ _ k v rp _ => k v rp (fun z => nomatch z)⟩
section
variable {G : Gx} {ρ : List Addr} {st : VSt} {H : Hp} {p : PV} {v : V}
theorem rep_deref (s : SRel G ρ st H) (h : Rep G ρ H p v) : (∃ n a, p = .loc n ∧ v = .ref a ∧ ObjR G ρ H (deref st p) a) ∨ ((∀ n, p ≠ .loc n) ∧ deref st p = p) := by
  cases p with
  | loc n =>
    obtain ⟨a, e, hn⟩ := h
    have h1 : n < st.length := by rw [← s.len]; exact (List.getElem?_eq_some_iff.mp hn).1
    have e2 : deref st (.loc n) = st[n] := by
      show st.getD n .non = st[n]
      rw [List.getD_eq_getElem?_getD, List.getElem?_eq_getElem h1]; rfl
    exact .inl ⟨n, a, rfl, e, by rw [e2]; exact (s.obj n st[n] a (List.getElem?_eq_getElem h1) hn).1⟩
  | _ => exact .inr ⟨(fun n z => nomatch z), rfl⟩
theorem rep_lst {xs : List PV} (s : SRel G ρ st H) (h : Rep G ρ H p v) (e : deref st p = .lst xs) : ∃ a vs, v = .ref a ∧ H a = some (.lst vs) ∧ Reps G ρ H xs vs := by
  rcases rep_deref s h with ⟨n, a, rfl, rfl, o⟩ | ⟨_, z⟩
  · rw [e] at o
    obtain ⟨vs, h1, h2⟩ := o
    exact ⟨a, vs, rfl, h1, h2⟩
  · rw [z] at e
    subst e
    obtain ⟨a, vs, e, _, _, s, r⟩ := h
    exact ⟨a, vs, e, s, r⟩
theorem rep_dct {ks : List Key} {xs : List PV} (s : SRel G ρ st H) (h : Rep G ρ H p v) (e : deref st p = .dct ks xs) : ∃ a vs, v = .ref a ∧ ks.length = vs.length ∧ H a = some (.dK (ks.zip vs)) ∧ Reps G ρ H xs vs := by
  rcases rep_deref s h with ⟨n, a, rfl, rfl, o⟩ | ⟨_, z⟩
  · rw [e] at o
    obtain ⟨vs, h0, h1, h2⟩ := o
    exact ⟨a, vs, rfl, h0, h1, h2⟩
  · rw [z] at e
    subst e
    obtain ⟨a, vs, e, _, _, z, s, r⟩ := h
    exact ⟨a, vs, e, z, s, r⟩
theorem rep_tup {xs : List PV} (s : SRel G ρ st H) (h : Rep G ρ H p v) (e : deref st p = .tup xs) : ∃ a vs, v = .ref a ∧ SqT G.K H a vs ∧ Reps G ρ H xs vs := by
  rcases rep_deref s h with ⟨n, a, rfl, rfl, o⟩ | ⟨_, z⟩
  · rw [e] at o
    exact o.elim
  · rw [z] at e
    subst e
    exact h
theorem rep_scr {ns : List Int} (s : SRel G ρ st H) (h : Rep G ρ H p v) (e : deref st p = .scr ns) : ∃ a, v = .ref a ∧ SqL G.K H a (ns.map V.int) := by
  rcases rep_deref s h with ⟨n, a, rfl, rfl, o⟩ | ⟨_, z⟩
  · rw [e] at o
    exact o.elim
  · rw [z] at e
    subst e
    obtain ⟨a, e, h⟩ := h
    exact ⟨a, e, scr_sq h⟩
end
/-- a new list, tuple as a value -/
theorem new_lst {G : Gx} {ρ : List Addr} {st : VSt} {H : Hp} {xs : List PV} {vs : List V} {p : Addr} (s : SRel G ρ st H) (r : Reps G ρ H xs vs) (hp : H p = none) : Rep G ρ (upd H p (.lst vs)) (.lst xs) (.ref p) :=
  ⟨p, vs, rfl, s.fresh hp, s.freshH hp, upd_same, Reps.later (.new hp) _ _ r⟩
theorem new_tup {G : Gx} {ρ : List Addr} {H : Hp} {xs : List PV} {vs : List V} {p : Addr} (r : Reps G ρ H xs vs) (hp : H p = none) : Rep G ρ (upd H p (.tup vs)) (.tup xs) (.ref p) :=
  ⟨p, vs, rfl, .inl (.inl upd_same), Reps.later (.new hp) _ _ r⟩
/-- the end: a new object is handed on -/
theorem Post.give {G : Gx} {ρ : List Addr} {st : VSt} {H H0 : Hp} {fr : Bool} {Q : VK} {x : PV} {p : Addr} {o : HO} (P : Post G ρ H (.ok x st) (kE G H0 fr Q)) (s : SRel G ρ st H) (hp : H p = none) (h0 : H0 p = none) (r : Rep G ρ (upd H p o) x (.ref p)) : Q (.ref p) (upd H p o) :=
  P ρ _ (.new hp) (s.new hp) (.ref p) r fun _ a e => by cases e; exact h0
/-- .. a value without an object -/
theorem Post.val {G : Gx} {ρ : List Addr} {st : VSt} {H H0 : Hp} {fr : Bool} {Q : VK} {x : PV} {v : V} (P : Post G ρ H (.ok x st) (kE G H0 fr Q)) (s : SRel G ρ st H) (r : Rep G ρ H x v) (f : fr = true → ∀ a, v = .ref a → H0 a = none) : Q v H := P.now s v r f
theorem sz (n : Nat) (h : n ≤ 1000000) : n ≤ sizeLine := by rw [sizeLine_eq]; omega
theorem szl (n : Nat) (h : n ≤ 1000000) : n < sizeLine := by rw [sizeLine_eq]; omega
end Vm
namespace Vm
open PySem L2
def eVar (i : Nat) : EM := fun env st => match env[i]? with
  | some (some p) => .ok p st
  | _ => .bad
def eC (p : PV) : EM := fun _ st => .ok p st
def eBin (f : PV → PV → VSt → Res PV) (a b : EM) : EM := fun env st => (a env st).bind fun x s1 => (b env s1).bind fun y s2 => f x y s2
def eUn (f : PV → VSt → Res PV) (a : EM) : EM := fun env st => (a env st).bind f
def aNil : AM := fun _ st => .ok [] st
def aCons (a : EM) (r : AM) : AM := fun env st => (a env st).bind fun x s1 => (r env s1).bind fun xs s2 => .ok (x :: xs) s2
def mkTup (xs : List PV) (st : VSt) : Res PV := if xs.length ≤ 1000000 then .ok (.tup xs) st else .bad
def mkLst (xs : List PV) (st : VSt) : Res PV := if xs.length ≤ 1000000 then .ok (.lst xs) st else .bad
def eTup (es : AM) : EM := fun env st => (es env st).bind mkTup
def eLst (es : AM) : EM := fun env st => (es env st).bind mkLst
def eApp (f : List PV → VSt → Res PV) (es : AM) : EM := fun env st => (es env st).bind f
def eAnd (a b : EM) : EM := fun env st => (a env st).bind (onB fun c s1 => if c = true then b env s1 else .ok (.bl false) s1)
def eOr (a b : EM) : EM := fun env st => (a env st).bind (onB fun c s1 => if c = true then .ok (.bl true) s1 else b env s1)
def eNot (a : EM) : EM := fun env st => (a env st).bind (onB fun c s1 => .ok (.bl (!c)) s1)
def eIf (c a b : EM) : EM := fun env st => (c env st).bind (onB fun c s1 => if c = true then a env s1 else b env s1)
def vCat (x y : PV) (st : VSt) : Res PV := match deref st x, deref st y with
  | .lst xs, .lst ys => if xs.length + ys.length ≤ 1000000 then .ok (.lst (xs ++ ys)) st else .bad
  | _, _ => .bad
def vAdd (x y : PV) (st : VSt) : Res PV := match x, y with
  | .int i, .int j => .ok (.int (i + j)) st
  | .str a, .str b => if a.length + b.length ≤ 1000000 then .ok (.str (a ++ b)) st else .bad
  | .tup xs, .tup ys => if xs.length + ys.length ≤ 1000000 then .ok (.tup (xs ++ ys)) st else .bad
  | x, y => vCat x y st
def vSub (x y : PV) (st : VSt) : Res PV := match x, y with
  | .int i, .int j => .ok (.int (i - j)) st
  | _, _ => .bad
def repS (x : Str) (n : Nat) : Str := ⟨(List.replicate n x.cps.toList).flatten.toArray⟩
def vMul (x y : PV) (st : VSt) : Res PV := match x, y with
  | .int i, .int j => if (-(2 ^ 64) < i ∧ i < 2 ^ 64) ∨ (-(2 ^ 64) < j ∧ j < 2 ^ 64) then .ok (.int (i * j)) st else .bad
  | .str a, .int j => if 1 ≤ j ∧ j ≤ 1000 ∧ a.length ≤ 1000 then .ok (.str (repS a j.toNat)) st else .bad
  | _, _ => .bad
def vFdv (x y : PV) (st : VSt) : Res PV := match x, y with
  | .int i, .int j => if 0 < j ∧ j < 2 ^ 100 then .ok (.int (i / j)) st else .bad
  | _, _ => .bad
def vMod (x y : PV) (st : VSt) : Res PV := match x, y with
  | .int i, .int j => if 0 < j then .ok (.int (i % j)) st else .bad
  | _, _ => .bad
def vPow (x y : PV) (st : VSt) : Res PV := match x, y with
  | .int i, .int j => if 0 ≤ j ∧ j ≤ 1000 ∧ i.natAbs < 2 ^ 64 then .ok (.int (i ^ j.toNat)) st else .bad
  | _, _ => .bad
def vNeg (x : PV) (st : VSt) : Res PV := match x with
  | .int i => .ok (.int (-i)) st
  | _ => .bad
def vCmp (f : Int → Int → Bool) (x y : PV) (st : VSt) : Res PV := match x, y with
  | .int i, .int j => .ok (.bl (f i j)) st
  | _, _ => .bad
abbrev vLt := vCmp fun i j => decide (i < j)
abbrev vGt := vCmp fun i j => decide (j < i)
def isNon : PV → Bool
  | .non => true
  | _ => false
def vIsN (neg : Bool) (x y : PV) (st : VSt) : Res PV := match y with
  | .non => .ok (.bl (if neg then !isNon x else isNon x)) st
  | _ => .bad
mutual
def toD : PV → Option PyData
  | .non => some .none
  | .bl b => some (.bool b)
  | .int i => some (.int i)
  | .str x => some (.str x)
  | .tup xs => (toDs xs).map .tuple
  | .lst xs => (toDs xs).map .list
  | _ => none
def toDs : List PV → Option (List PyData)
  | [] => some []
  | x :: r => match toD x, toDs r with
    | some d, some ds => some (d :: ds)
    | _, _ => none
end
/-- two dicts of flat values, one as the other -/
def dEq : List Key → List PV → List Key → List PV → Bool
  | [], [], [], [] => true
  | k :: ks, .int i :: xs, k' :: ks', .int j :: ys => decide (k = k') && decide (i = j) && dEq ks xs ks' ys
  | _, _, _, _ => false
def vEqF (neg : Bool) (x y : PV) (st : VSt) : Res PV := match x, y with
  | .str a, .str b => .ok (.bl (if neg then !decide (a = b) else decide (a = b))) st
  | .int a, .int b => .ok (.bl (if neg then !decide (a = b) else decide (a = b))) st
  | .bl a, .bl b => .ok (.bl (if neg then !decide (a = b) else decide (a = b))) st
  | x, y => match deref st x, deref st y with
    | .dct ks xs, .dct ks' ys => if (dEq ks xs ks' ys && decide ks.Nodup) = true then .ok (.bl (!neg)) st else .bad
    | x', y' => match toD x', toD y' with
      | some d, some e => if (SeqAt.shaped d && SeqAt.shaped e) = true then .ok (.bl (if neg then !PyData.eqv d e else PyData.eqv d e)) st else .bad
      | _, _ => .bad
def seqOf (st : VSt) (p : PV) : Option (List PV) := match deref st p with
  | .lst xs => some xs
  | .tup xs => some xs
  | _ => none
def keyP : PV → Option Key
  | .int i => some (.inl i)
  | .str x => some (.inr x)
  | _ => none
def kLook (ks : List Key) (xs : List PV) (k : Key) : Option PV := match ks, xs with
  | k' :: ks, x :: xs => if k' = k then some x else kLook ks xs k
  | _, _ => none
def opt (o : Option PV) (st : VSt) : Res PV := match o with
  | some p => .ok p st
  | none => .bad
def vIx (x y : PV) (st : VSt) : Res PV := match deref st x, y with
  | .lst xs, .int i => opt (atI xs i) st
  | .tup xs, .int i => opt (atI xs i) st
  | .scr ns, .int i => opt ((atI ns i).map .int) st
  | .str z, .int i => if z.length ≤ 1000000 then opt ((atI z.cps.toList i).map fun c => .str ⟨#[c]⟩) st else .bad
  | .dct ks xs, k => match keyP k with
    | some k => opt (kLook ks xs k) st
    | none => .bad
  | _, _ => .bad
def OpSem (X : Cx) (W : XD) (fr : Bool) (r : R2) (f : PV → PV → VSt → Res PV) : Prop := ∀ (hid : HD) (ρ : List Addr) (st : VSt) (H : Hp) (x y : PV) (v w : V) (Q : VK), SRel (gx X W hid) ρ st H → Rep (gx X W hid) ρ H x v → Rep (gx X W hid) ρ H y w →
  Post (gx X W hid) ρ H (f x y st) (kE (gx X W hid) H fr Q) → r v w H Q
def UnSem (X : Cx) (W : XD) (fr : Bool) (r : V → Hp → VK → Prop) (f : PV → VSt → Res PV) : Prop := ∀ (hid : HD) (ρ : List Addr) (st : VSt) (H : Hp) (x : PV) (v : V) (Q : VK), SRel (gx X W hid) ρ st H → Rep (gx X W hid) ρ H x v →
  Post (gx X W hid) ρ H (f x st) (kE (gx X W hid) H fr Q) → r v H Q
def CallSem (X : Cx) (W : XD) (fr : Bool) (r : List V → Hp → VK → Prop) (f : List PV → VSt → Res PV) : Prop := ∀ (hid : HD) (ρ : List Addr) (st : VSt) (H : Hp) (xs : List PV) (vs : List V) (Q : VK), SRel (gx X W hid) ρ st H → Reps (gx X W hid) ρ H xs vs →
  Post (gx X W hid) ρ H (f xs st) (kE (gx X W hid) H fr Q) → r vs H Q
section
variable {X : Cx} {W : XD} {fr fa fb : Bool} {a b c : Expr} {ma mb mc : EM} {pos : Pos}
theorem ev_var (i : Nat) {x : Str} (hN : X.N[i]? = some x := by rfl) (hv : Vis X.env.scope x := by first | exact Or.inl rfl | exact Or.inr (Or.inl rfl) | exact Or.inr (Or.inr rfl)) (hd : (x == ("__debug__" : Str)) = false := by decide)
    (hcd : (x == ("__classdict__" : Str)) = false := by decide) : Ev X W false (.Name x pos) (eVar i) := PE.anti (pe_var hN hv hd hcd) fun σ H Q ⟨hid, ρ, env, st, R, P⟩ => by
  unfold eVar at P
  split at P
  · rename_i p e
    obtain ⟨v, h1, h2⟩ := R.e.2 i p e
    exact ⟨v, h1, P.val R.s h2 (fun z => nomatch z)⟩
  · exact False.elim P
theorem ev_int {i : Int} {j} : Ev X W true (.Constant (.int i) j pos) (eC (.int i)) := PE.anti pe_int fun σ H Q ⟨hid, ρ, env, st, R, P⟩ => Post.val P R.s (show Rep _ _ _ (.int i) (.int i) from rfl) fun _ a e => nomatch e
theorem ev_bl {i : Bool} {j} : Ev X W true (.Constant (.bool i) j pos) (eC (.bl i)) := PE.anti pe_bl fun σ H Q ⟨hid, ρ, env, st, R, P⟩ => Post.val P R.s (show Rep _ _ _ (.bl i) (.bl i) from rfl) fun _ a e => nomatch e
theorem ev_non {j} : Ev X W true (.Constant .none j pos) (eC .non) := PE.anti pe_non fun σ H Q ⟨hid, ρ, env, st, R, P⟩ => Post.val P R.s (show Rep _ _ _ .non .non from rfl) fun _ a e => nomatch e
theorem ev_str {i : Str} {j} : Ev X W true (.Constant (.str i) j pos) (eC (.str i)) := PE.anti pe_str fun σ H Q ⟨hid, ρ, env, st, R, P⟩ => Post.val P R.s (show Rep _ _ _ (.str i) (.str i) from rfl) fun _ a e => nomatch e
theorem ev_glob {x : Str} {i : Int} {u : Value} (hm : X.mg x = some u) (r : RelV (.int i) u) (hg : Gl X x := by rfl) (hd : (x == ("__debug__" : Str)) = false := by decide) : Ev X W true (.Name x pos) (eC (.int i)) := PE.anti (pe_glob hg hm r hd) fun σ H Q ⟨hid, ρ, env, st, R, P⟩ =>
  Post.val P R.s (show Rep _ _ _ (.int i) (.int i) from rfl) fun _ a e => nomatch e
theorem ev_op {op : Operator} {r : R2} {f : PV → PV → VSt → Res PV} (ho : OpR X (binaryOp op) r) (os : OpSem X W fr r f) (ha : Ev X W fa a ma) (hb : Ev X W fb b mb) : Ev X W fr (.BinOp a op b pos) (eBin f ma mb) :=
  PE.anti (pe_op ho ha hb) fun σ H Q ⟨hid, ρ, env, st, R, P⟩ => cE_use R P fun ρ1 st1 H1 p v l1 R1 rp _ P1 => cE_use R1 P1 fun ρ2 st2 H2 q w l2 R2 rq _ P2 =>
    os _ _ _ _ _ _ _ _ _ R2.s (Rep.later l2 _ _ rp) rq (kE.back (l1.trans l2) P2)
theorem ev_cmp {op : CmpOp} {r : R2} {f : PV → PV → VSt → Res PV} (ho : OpR X (compareOp op) r) (os : OpSem X W fr r f) (ha : Ev X W fa a ma) (hb : Ev X W fb b mb) (hm : behindInMarks op b = false := by first | exact nomark _ | rfl) : Ev X W fr (.Compare a [op] [b] pos) (eBin f ma mb) :=
  PE.anti (pe_cmpR ho ha hb hm) fun σ H Q ⟨hid, ρ, env, st, R, P⟩ => cE_use R P fun ρ1 st1 H1 p v l1 R1 rp _ P1 => cE_use R1 P1 fun ρ2 st2 H2 q w l2 R2 rq _ P2 =>
    os _ _ _ _ _ _ _ _ _ R2.s (Rep.later l2 _ _ rp) rq (kE.back (l1.trans l2) P2)
theorem kE_B {G : Gx} {ρ : List Addr} {H H0 : Hp} {Q : Bool → Hp → Prop} {r : Res PV} (P : Post G ρ H r (kT Q)) : Post G ρ H r (kE G H0 fr fun x H' => ∃ k, x = V.bl k ∧ Q k H') := P.imp fun ρ1 st1 H1 p _ _ k v rp _ => by
  cases p with
  | bl b => exact ⟨b, rp, k⟩
  | _ => exact False.elim k
theorem evt_cmp {op : CmpOp} {r : R2} {f : PV → PV → VSt → Res PV} (ho : OpR X (compareOp op) r) (os : OpSem X W false r f) (ha : Ev X W fa a ma) (hb : Ev X W fb b mb) (hm : behindInMarks op b = false := by first | exact nomark _ | rfl) : EvT X W (.Compare a [op] [b] pos) (eBin f ma mb) :=
  PT.anti (pt_cmpR ho ha hb hm) fun σ H Q ⟨hid, ρ, env, st, R, P⟩ => cE_use R (kE_B (fr := false) (H0 := H) P) fun ρ1 st1 H1 p v l1 R1 rp _ P1 => cE_use R1 P1 fun ρ2 st2 H2 q w l2 R2 rq _ P2 =>
    os _ _ _ _ _ _ _ _ _ R2.s (Rep.later l2 _ _ rp) rq (kE.back (l1.trans l2) P2)
theorem ev_un {op : UnaryOp} {r : V → Hp → VK → Prop} {f : PV → VSt → Res PV} (ho : UnR X (unaryOp op) r) (os : UnSem X W fr r f) (ha : Ev X W fa a ma) : Ev X W fr (.UnaryOp op a pos) (eUn f ma) :=
  PE.anti (pe_un ho ha) fun σ H Q ⟨hid, ρ, env, st, R, P⟩ => cE_use R P fun ρ1 st1 H1 p v l1 R1 rp _ P1 => os _ _ _ _ _ _ _ R1.s rp (kE.back l1 P1)
theorem ev_ix {r : R2} {f : PV → PV → VSt → Res PV} (hr : IxR X r) (os : OpSem X W fr r f) (ha : Ev X W fa a ma) (hb : Ev X W fb b mb) (hs : PlainIx b := by exact fun _ _ => rfl) : Ev X W fr (.Subscript a b pos) (eBin f ma mb) :=
  PE.anti (pe_ix hr ha hb hs) fun σ H Q ⟨hid, ρ, env, st, R, P⟩ => cE_use R P fun ρ1 st1 H1 p v l1 R1 rp _ P1 => cE_use R1 P1 fun ρ2 st2 H2 q w l2 R2 rq _ P2 =>
    os _ _ _ _ _ _ _ _ _ R2.s (Rep.later l2 _ _ rp) rq (kE.back (l1.trans l2) P2)
variable {es : List Expr} {e : Expr} {me : EM} {mes : AM}
theorem eva_nil : EvA X W [] aNil := PA.anti pa_nil fun σ H Q ⟨hid, ρ, env, st, R, P⟩ => P.now R.s [] rfl
theorem eva_cons (ha : Ev X W fa e me) (hr : EvA X W es mes) (hs : starEach (e :: es) X.env = (false, eval e X.env) :: starEach es X.env := by rfl) : EvA X W (e :: es) (aCons me mes) :=
  PA.anti (pa_cons ha hr hs) fun σ H Q ⟨hid, ρ, env, st, R, P⟩ => cE_use R P fun ρ1 st1 H1 p v l1 R1 rp _ P1 => cA_use R1 P1 fun ρ2 st2 H2 ps vs l2 R2 rps P2 =>
    P2.now R2.s (v :: vs) ⟨v, vs, rfl, Rep.later l2 _ _ rp, rps⟩
theorem ev_tup {x1} (h : EvA X W es mes) : Ev X W true (.Tuple es x1 pos) (eTup mes) := PE.anti (pe_tup h) fun σ H Q ⟨hid, ρ, env, st, R, P⟩ => cA_use R P fun ρ1 st1 H1 ps vs l R1 rps P1 => by
  unfold mkTup at P1
  split at P1
  · rename_i hz
    refine ⟨by rw [rps.length]; exact sz _ hz, fun p hp => ?_⟩
    exact P1.give R1.s hp (l.back hp) (new_tup rps hp)
  · exact False.elim P1
theorem ev_lst (h : EvA X W es mes) : Ev X W true (.List es pos) (eLst mes) := PE.anti (pe_lst h) fun σ H Q ⟨hid, ρ, env, st, R, P⟩ => cA_use R P fun ρ1 st1 H1 ps vs l R1 rps P1 => by
  unfold mkLst at P1
  split at P1
  · rename_i hz
    refine ⟨by rw [rps.length]; exact sz _ hz, fun p hp => ?_⟩
    exact P1.give R1.s hp (l.back hp) (new_lst R1.s rps hp)
  · exact False.elim P1
theorem ev_callB {id : String} {x : Str} {p : Pos} {r : List V → Hp → VK → Prop} {f : List PV → VSt → Res PV} (hc : CallR X (.builtin id) r) (os : CallSem X W fr r f) (hm : X.mg x = none) (hv : bootBuiltins x = some (.builtin id)) (ha : EvA X W (e :: es) mes) (hg : Gl X x := by rfl)
    (hn : x ≠ "__name__" := by decide) (hdb : (x == ("__debug__" : Str)) = false := by decide)
    (he : starEach (e :: es) X.env = (false, eval e X.env) :: starEach es X.env := by rfl) (hpl : (backTo pos (starEach es X.env)).any (·.1) = false := by rfl) : Ev X W fr (.Call (.Name x p) (e :: es) [] pos) (eApp f mes) :=
  PE.anti (pe_callB hc hg hm hv ha hn hdb he hpl) fun σ H Q ⟨hid, ρ, env, st, R, P⟩ => cA_use R P fun ρ1 st1 H1 ps vs l R1 rps P1 => os _ _ _ _ _ _ _ R1.s rps (kE.back l P1)
theorem ev_callTy {id : String} {x : Str} {p : Pos} {r : List V → Hp → VK → Prop} {f : List PV → VSt → Res PV} (hc : CallR X (.type id) r) (os : CallSem X W fr r f) (hm : X.mg x = none) (hv : bootBuiltins x = some (.type id)) (ha : EvA X W (e :: es) mes) (hg : Gl X x := by rfl)
    (hn : x ≠ "__name__" := by decide) (hdb : (x == ("__debug__" : Str)) = false := by decide)
    (he : starEach (e :: es) X.env = (false, eval e X.env) :: starEach es X.env := by rfl) (hpl : (backTo pos (starEach es X.env)).any (·.1) = false := by rfl) : Ev X W fr (.Call (.Name x p) (e :: es) [] pos) (eApp f mes) :=
  PE.anti (pe_callTy hc hg hm hv ha hn hdb he hpl) fun σ H Q ⟨hid, ρ, env, st, R, P⟩ => cA_use R P fun ρ1 st1 H1 ps vs l R1 rps P1 => os _ _ _ _ _ _ _ R1.s rps (kE.back l P1)
theorem evt_val (h : Ev X W fr e me) (he : ∀ whole, isTrue e X.env whole = (do let v ← whole; standAt e.pos; holding [v] (truthy v)) := by intro _; rfl) : EvT X W e me :=
  PT.anti (pt_val h he) fun σ H Q ⟨hid, ρ, env, st, R, P⟩ => ⟨hid, ρ, env, st, R, kE_B P⟩
theorem evw_pt (h : EvW X W e me) : EvT X W e me := PW.pt h
theorem evw_and1 (h : EvT X W a ma) : EvW X W (.BoolOp .And [a] pos) ma := pw_and1 h
theorem evw_or1 (h : EvT X W a ma) : EvW X W (.BoolOp .Or [a] pos) ma := pw_or1 h
theorem kT_iff {G : Gx} {ρ : List Addr} {H : Hp} {Q : Bool → Hp → Prop} {b : Bool} {st : VSt} (P : Post G ρ H (.ok (.bl b) st) (kT Q)) (s : SRel G ρ st H) : Q b H := P.now s
theorem evw_and {rest : List Expr} (h : EvT X W a ma) (h2 : EvW X W (.BoolOp .And (b :: rest) pos) mb) : EvW X W (.BoolOp .And (a :: b :: rest) pos) (eAnd ma mb) :=
  PW.anti (pw_and h h2) fun σ H Q ⟨hid, ρ, env, st, R, P⟩ => cT_use R P fun ρ1 st1 H1 c l R1 P1 => by
    cases c with
    | true => exact ⟨hid, ρ1, env, st1, R1, P1⟩
    | false => exact kT_iff P1 R1.s
theorem evw_or {rest : List Expr} (h : EvT X W a ma) (h2 : EvW X W (.BoolOp .Or (b :: rest) pos) mb) : EvW X W (.BoolOp .Or (a :: b :: rest) pos) (eOr ma mb) :=
  PW.anti (pw_or h h2) fun σ H Q ⟨hid, ρ, env, st, R, P⟩ => cT_use R P fun ρ1 st1 H1 c l R1 P1 => by
    cases c with
    | false => exact ⟨hid, ρ1, env, st1, R1, P1⟩
    | true => exact kT_iff P1 R1.s
theorem evt_not (h : EvT X W a ma) : EvT X W (.UnaryOp .Not a pos) (eNot ma) :=
  PT.anti (pt_not h) fun σ H Q ⟨hid, ρ, env, st, R, P⟩ => cT_use R P fun ρ1 st1 H1 c l R1 P1 => kT_iff P1 R1.s
theorem ev_if (hc : EvT X W c mc) (ha : Ev X W fr a ma) (hb : Ev X W fr b mb) : Ev X W fr (.IfExp c a b pos) (eIf mc ma mb) :=
  PE.anti (pe_ifExp hc ha hb) fun σ H Q ⟨hid, ρ, env, st, R, P⟩ => cT_use R P fun ρ1 st1 H1 c l R1 P1 => by
    cases c with
    | true => exact ⟨hid, ρ1, env, st1, R1, kE.back l P1⟩
    | false => exact ⟨hid, ρ1, env, st1, R1, kE.back l P1⟩
end
section
variable {X : Cx} {W : XD} {fr : Bool}
theorem os_cat : OpSem X W true rCat vCat := by
  intro hid ρ st H x y v w Q S rx ry P
  unfold vCat at P
  split at P
  · rename_i xs ys e1 e2
    split at P
    · rename_i hz
      obtain ⟨a, vs, rfl, ha, r1⟩ := rep_lst S rx e1
      obtain ⟨b, ws, rfl, hb, r2⟩ := rep_lst S ry e2
      refine ⟨a, b, vs, ws, rfl, rfl, ha, hb, by rw [r1.length, r2.length]; exact sz _ hz, fun p hp => ?_⟩
      exact P.give S hp hp (new_lst S (r1.append r2) hp)
    · exact False.elim P
  · exact False.elim P
theorem OpSem.weak {r : R2} {f} (h : OpSem X W fr r f) : OpSem X W false r f := fun hid ρ st H x y v w Q S rx ry P => h hid ρ st H x y v w Q S rx ry (P.imp fun _ _ _ _ _ _ k v rp _ => k v rp (fun z => nomatch z))
def rAdd4 (K : PySem.W.Frag) : R2 := fun x y H Q => (∃ i j, x = .int i ∧ y = .int j ∧ Q (.int (i + j)) H) ∨ (∃ i j, x = .str i ∧ y = .str j ∧ i.length + j.length ≤ sizeLine ∧ Q (.str (i ++ j)) H) ∨ rCatA K x y H Q ∨ rCat x y H Q
theorem op_add4 : OpR X (binaryOp .Add) (rAdd4 X.K) := OpR.or op_add (OpR.or op_add_str (OpR.or op_catA op_cat))
theorem os_add : OpSem X W false (rAdd4 X.K) vAdd := by
  intro hid ρ st H x y v w Q S rx ry P
  unfold vAdd at P
  split at P
  · rename_i i j
    exact .inl ⟨i, j, rx, ry, P.val S rfl (fun z => nomatch z)⟩
  · rename_i i j
    split at P
    · rename_i hz
      exact .inr (.inl ⟨i, j, rx, ry, sz _ hz, P.val S rfl (fun z => nomatch z)⟩)
    · exact False.elim P
  · rename_i xs ys
    split at P
    · rename_i hz
      obtain ⟨a, vs, rfl, ha, r1⟩ := rx
      obtain ⟨b, ws, rfl, hb, r2⟩ := ry
      refine .inr (.inr (.inl ⟨a, b, vs, ws, rfl, rfl, ha, hb, by rw [r1.length, r2.length]; exact sz _ hz, fun e => ?_, fun e e2 => ?_, fun e e2 p hp => ?_⟩))
      · subst e
        have : xs = [] := by
          cases xs with
          | nil => rfl
          | cons x r => obtain ⟨_, _, e, _⟩ := r1; cases e
        subst this
        exact P.val S ⟨b, ws, rfl, hb, r2⟩ (fun z => nomatch z)
      · subst e2
        have : ys = [] := by
          cases ys with
          | nil => rfl
          | cons x r => obtain ⟨_, _, e, _⟩ := r2; cases e
        subst this
        exact P.val S ⟨a, vs, rfl, ha, by rw [List.append_nil]; exact r1⟩ (fun z => nomatch z)
      · exact P.give S hp hp (new_tup (r1.append r2) hp)
    · exact False.elim P
  · exact .inr (.inr (.inr (os_cat.weak hid ρ st H x y v w Q S rx ry P)))
theorem os_sub : OpSem X W true (rI0 fun i j => .int (i - j)) vSub := by
  intro hid ρ st H x y v w Q S rx ry P
  unfold vSub at P
  split at P
  · rename_i i j
    exact ⟨i, j, rx, ry, P.val S rfl (fun _ _ e => nomatch e)⟩
  · exact False.elim P
theorem op_mul_str : OpR X (binaryOp .Mult) (fun x y H Q => ∃ s k, x = .str s ∧ y = .int k ∧ 1 ≤ k ∧ k ≤ 1000 ∧ s.length ≤ 1000 ∧ Q (.str (repS s k.toNat)) H) := by
  intro pins s σ H x y v u Q I rx ry h
  obtain ⟨z, k, rfl, rfl, h1, h2, h3, q⟩ := h
  obtain ⟨t, rfl⟩ := rx
  obtain ⟨t', rfl⟩ := ry
  have hfold : ∀ (n : Nat) (acc : Array Nat), (List.replicate n z.cps).foldl (· ++ ·) acc = acc ++ (List.replicate n z.cps.toList).flatten.toArray := by
    intro n
    induction n with
    | zero => intro acc; simp
    | succ n ih => intro acc; rw [List.replicate_succ, List.foldl_cons, ih, List.replicate_succ, List.flatten_cons, Array.append_assoc]; congr 1; apply Array.toList_inj.mp; simp
  have hrep : (⟨(List.replicate k.toNat z.cps).foldl (· ++ ·) #[]⟩ : Str) = repS z k.toNat := by
    rw [hfold]
    simp [repS]
  refine P.mul_str (by
      have a1 : ¬ k < -(2 ^ 63 : Int) := by omega
      have a2 : ¬ k ≥ 2 ^ 63 := by omega
      rw [decide_eq_false a1, decide_eq_false a2]; rfl) (fun _ _ => ?_) (fun _ _ => ?_) ?_
  · intro hc
    have hk : (1000 : Int) ≤ (2 ^ 63 - 1) / k := by
      rw [Int.le_ediv_iff_mul_le (by omega)]
      have : (1000 : Int) * k ≤ 1000 * 1000 := by omega
      omega
    omega
  · unfold Builtin.Str.tooLong
    have : z.length * k.toNat ≤ 1000 * 1000 := Nat.mul_le_mul h3 (by omega)
    rw [sizeLine_eq]
    exact decide_eq_false (by omega)
  · have hk : ¬ k < 1 := by omega
    rw [if_neg hk]
    have hlen : (repS z k.toNat).length ≤ sizeLine := by
      have : (repS z k.toNat).length = k.toNat * z.length := by
        unfold repS Str.length
        simp [List.length_flatten]
      rw [this]
      have h4 : k.toNat * z.length ≤ 1000 * 1000 := Nat.mul_le_mul (by omega) h3
      rw [sizeLine_eq]
      omega
    split
    · rename_i hc
      have e : repS z k.toNat = z := by
        rcases Bool.or_eq_true_iff.mp hc with e1 | e1
        · have : k = 1 := by simpa using e1
          subst this
          show (⟨(List.replicate 1 z.cps.toList).flatten.toArray⟩ : Str) = z
          simp
        · have : z.cps = #[] := by
            have : z.cps.size = 0 := by simpa [Str.length] using e1
            exact Array.eq_empty_of_size_eq_zero this
          obtain ⟨c⟩ := z
          subst this
          show (⟨(List.replicate k.toNat (#[] : Array Nat).toList).flatten.toArray⟩ : Str) = _
          simp
      rw [e] at q
      exact ⟨.str z, H, I, ⟨t, rfl⟩, q⟩
    · refine ⟨?_, ?_⟩
      · rw [hrep]; first | exact hlen | (unfold Builtin.Str.tooLong; exact decide_eq_false (by omega))
      · exact ⟨.str _, H, I.tok _, ⟨_, by rw [hrep]⟩, q⟩
theorem os_mul : OpSem X W true (fun x y H Q => rI CMul (fun i j => .int (i * j)) x y H Q ∨ (∃ s k, x = .str s ∧ y = .int k ∧ 1 ≤ k ∧ k ≤ 1000 ∧ s.length ≤ 1000 ∧ Q (.str (repS s k.toNat)) H)) vMul := by
  intro hid ρ st H x y v w Q S rx ry P
  unfold vMul at P
  split at P
  · split at P
    · rename_i i j hz
      exact .inl ⟨i, j, rx, ry, hz, P.val S rfl (fun _ _ e => nomatch e)⟩
    · exact False.elim P
  · split at P
    · rename_i i j hz
      exact .inr ⟨i, j, rx, ry, hz.1, hz.2.1, hz.2.2, P.val S rfl (fun _ _ e => nomatch e)⟩
    · exact False.elim P
  · exact False.elim P
theorem op_mul2 : OpR X (binaryOp .Mult) (fun x y H Q => rI CMul (fun i j => .int (i * j)) x y H Q ∨ (∃ s k, x = .str s ∧ y = .int k ∧ 1 ≤ k ∧ k ≤ 1000 ∧ s.length ≤ 1000 ∧ Q (.str (repS s k.toNat)) H)) := OpR.or op_mul op_mul_str
theorem os_fdv : OpSem X W true (rI CDivW fun i j => .int (i / j)) vFdv := by
  intro hid ρ st H x y v w Q S rx ry P
  unfold vFdv at P
  split at P
  · split at P
    · rename_i i j hz
      exact ⟨i, j, rx, ry, wide_div (b := 100) hz.1 (by omega) (by decide) (by decide), P.val S rfl (fun _ _ e => nomatch e)⟩
    · exact False.elim P
  · exact False.elim P
theorem os_mod : OpSem X W true (rI (fun _ j => 0 < j) fun i j => .int (i % j)) vMod := by
  intro hid ρ st H x y v w Q S rx ry P
  unfold vMod at P
  split at P
  · split at P
    · rename_i i j hz
      exact ⟨i, j, rx, ry, hz, P.val S rfl (fun _ _ e => nomatch e)⟩
    · exact False.elim P
  · exact False.elim P
theorem os_pow : OpSem X W true (rI CPow fun i j => .int (i ^ j.toNat)) vPow := by
  intro hid ρ st H x y v w Q S rx ry P
  unfold vPow at P
  split at P
  · split at P
    · rename_i i j hz
      exact ⟨i, j, rx, ry, ⟨hz.1, by omega, hz.2.2⟩, P.val S rfl (fun _ _ e => nomatch e)⟩
    · exact False.elim P
  · exact False.elim P
theorem us_neg : UnSem X W true (rU fun i => .int (-i)) vNeg := by
  intro hid ρ st H x v Q S rx P
  unfold vNeg at P
  split at P
  · rename_i i
    exact ⟨i, rx, P.val S rfl (fun _ _ e => nomatch e)⟩
  · exact False.elim P
theorem os_cmp {g : Int → Int → Bool} : OpSem X W true (rI0 fun i j => .bl (g i j)) (vCmp g) := by
  intro hid ρ st H x y v w Q S rx ry P
  unfold vCmp at P
  split at P
  · rename_i i j
    exact ⟨i, j, rx, ry, P.val S rfl (fun _ _ e => nomatch e)⟩
  · exact False.elim P
theorem rep_non {G : Gx} {ρ : List Addr} {H : Hp} {p : PV} {v : V} (h : Rep G ρ H p v) : decide (v = .non) = isNon p := by
  cases p with
  | non => obtain rfl : v = .non := h; rfl
  | bl _ => obtain rfl := (show v = _ from h); rfl
  | int _ => obtain rfl := (show v = _ from h); rfl
  | str _ => obtain rfl := (show v = _ from h); rfl
  | tup _ => obtain ⟨a, _, rfl, _⟩ := h; rfl
  | lst _ => obtain ⟨a, _, rfl, _⟩ := h; rfl
  | dct _ _ => obtain ⟨a, _, rfl, _⟩ := h; rfl
  | sset _ => obtain ⟨a, rfl, _⟩ := h; rfl
  | scr _ => obtain ⟨a, rfl, _⟩ := h; rfl
  | loc _ => obtain ⟨a, rfl, _⟩ := h; rfl
  | raw _ _ _ => obtain ⟨rfl, _⟩ := h; rfl
  | vis _ => obtain ⟨a, _, _, _, rfl, _⟩ := h; rfl
theorem os_notN : OpSem X W true (fun x y H Q => y = .non ∧ Q (.bl (!decide (x = .non))) H) (vIsN true) := by
  intro hid ρ st H x y v w Q S rx ry P
  unfold vIsN at P
  split at P
  · refine ⟨ry, P.val S ?_ (fun _ _ e => nomatch e)⟩
    rw [rep_non rx]; rfl
  · exact False.elim P
mutual
theorem rep_toD {G : Gx} {ρ : List Addr} {H : Hp} : ∀ (p : PV) (v : V) (d : PyData), Rep G ρ H p v → toD p = some d → Dp G.K H v d
  | .non, v, d, h, e => by obtain rfl : v = .non := h; cases e; exact .non
  | .bl b, v, d, h, e => by obtain rfl : v = _ := h; cases e; exact .bl b
  | .int b, v, d, h, e => by obtain rfl : v = _ := h; cases e; exact .int b
  | .str b, v, d, h, e => by obtain rfl : v = _ := h; cases e; exact .str b
  | .tup xs, v, d, h, e => by
    obtain ⟨a, vs, rfl, s, r⟩ := h
    cases q : toDs xs with
    | none => unfold toD at e; rw [q] at e; cases e
    | some ds => unfold toD at e; rw [q] at e; cases e; exact .tup s (reps_toD xs vs ds r q)
  | .lst xs, v, d, h, e => by
    obtain ⟨a, vs, rfl, _, _, s, r⟩ := h
    cases q : toDs xs with
    | none => unfold toD at e; rw [q] at e; cases e
    | some ds => unfold toD at e; rw [q] at e; cases e; exact .lst (SqL.of s) (reps_toD xs vs ds r q)
  | .dct _ _, _, _, _, e => by cases e
  | .sset _, _, _, _, e => by cases e
  | .scr _, _, _, _, e => by cases e
  | .loc _, _, _, _, e => by cases e
  | .raw _ _ _, _, _, _, e => by cases e
theorem reps_toD {G : Gx} {ρ : List Addr} {H : Hp} : ∀ (ps : List PV) (vs : List V) (ds : List PyData), Reps G ρ H ps vs → toDs ps = some ds → DpAll G.K H vs ds
  | [], vs, ds, h, e => by obtain rfl : vs = [] := h; cases e; exact .nil
  | p :: ps, vs, ds, h, e => by
    obtain ⟨v, r, rfl, h1, h2⟩ := h
    cases q1 : toD p with
    | none => unfold toDs at e; rw [q1] at e; cases e
    | some d =>
      cases q2 : toDs ps with
      | none => unfold toDs at e; rw [q1, q2] at e; cases e
      | some ds' =>
        unfold toDs at e; rw [q1, q2] at e; cases e
        exact .cons (rep_toD p v d h1 q1) (reps_toD ps r ds' h2 q2)
end
/-- through the store -/
theorem rep_deD {G : Gx} {ρ : List Addr} {st : VSt} {H : Hp} {p : PV} {v : V} {d : PyData} (S : SRel G ρ st H) (h : Rep G ρ H p v) (e : toD (deref st p) = some d) : Dp G.K H v d := by
  rcases rep_deref S h with ⟨n, a, rfl, rfl, o⟩ | ⟨_, z⟩
  · revert e o
    cases deref st (.loc n) with
    | lst xs =>
      intro e o
      obtain ⟨vs, s, r⟩ := o
      cases q : toDs xs with
      | none => unfold toD at e; rw [q] at e; cases e
      | some ds => unfold toD at e; rw [q] at e; cases e; exact .lst (SqL.of s) (reps_toD xs vs ds r q)
    | dct _ _ => intro e _; cases e
    | sset _ => intro e _; cases e
    | _ => intro _ o; exact False.elim o
  · rw [z] at e
    exact rep_toD p v d h e
theorem dEq_eq : ∀ (ks : List Key) (xs : List PV) (ks' : List Key) (ys : List PV), dEq ks xs ks' ys = true → ks = ks' ∧ xs = ys ∧ ∀ x ∈ xs, ∃ i, x = PV.int i
  | [], [], [], [], _ => ⟨rfl, rfl, by simp⟩
  | k :: ks, .int i :: xs, k' :: ks', .int j :: ys, h => by
    unfold dEq at h
    rw [Bool.and_eq_true, Bool.and_eq_true] at h
    obtain ⟨⟨h1, h2⟩, h3⟩ := h
    obtain ⟨e1, e2, e3⟩ := dEq_eq ks xs ks' ys h3
    refine ⟨by rw [of_decide_eq_true h1, e1], by rw [of_decide_eq_true h2, e2], fun x hx => ?_⟩
    rcases List.mem_cons.mp hx with rfl | hx
    · exact ⟨i, rfl⟩
    · exact e3 x hx
  | [], _ :: _, _, _, h => by simp [dEq] at h
  | [], [], _ :: _, _, h => by simp [dEq] at h
  | [], [], [], _ :: _, h => by simp [dEq] at h
  | k :: ks, [], _, _, h => by simp [dEq] at h
  | k :: ks, .non :: xs, _, _, h => by simp [dEq] at h
  | k :: ks, .bl _ :: xs, _, _, h => by simp [dEq] at h
  | k :: ks, .str _ :: xs, _, _, h => by simp [dEq] at h
  | k :: ks, .tup _ :: xs, _, _, h => by simp [dEq] at h
  | k :: ks, .lst _ :: xs, _, _, h => by simp [dEq] at h
  | k :: ks, .dct _ _ :: xs, _, _, h => by simp [dEq] at h
  | k :: ks, .sset _ :: xs, _, _, h => by simp [dEq] at h
  | k :: ks, .scr _ :: xs, _, _, h => by simp [dEq] at h
  | k :: ks, .loc _ :: xs, _, _, h => by simp [dEq] at h
  | k :: ks, .raw _ _ _ :: xs, _, _, h => by simp [dEq] at h
  | k :: ks, .int i :: xs, [], _, h => by simp [dEq] at h
  | k :: ks, .int i :: xs, k' :: ks', [], h => by simp [dEq] at h
  | k :: ks, .int i :: xs, k' :: ks', .non :: ys, h => by simp [dEq] at h
  | k :: ks, .int i :: xs, k' :: ks', .bl _ :: ys, h => by simp [dEq] at h
  | k :: ks, .int i :: xs, k' :: ks', .str _ :: ys, h => by simp [dEq] at h
  | k :: ks, .int i :: xs, k' :: ks', .tup _ :: ys, h => by simp [dEq] at h
  | k :: ks, .int i :: xs, k' :: ks', .lst _ :: ys, h => by simp [dEq] at h
  | k :: ks, .int i :: xs, k' :: ks', .dct _ _ :: ys, h => by simp [dEq] at h
  | k :: ks, .int i :: xs, k' :: ks', .sset _ :: ys, h => by simp [dEq] at h
  | k :: ks, .int i :: xs, k' :: ks', .scr _ :: ys, h => by simp [dEq] at h
  | k :: ks, .int i :: xs, k' :: ks', .loc _ :: ys, h => by simp [dEq] at h
  | k :: ks, .int i :: xs, k' :: ks', .raw _ _ _ :: ys, h => by simp [dEq] at h
/-- a dict of flat values is told by what it holds -/
theorem reps_int {G : Gx} {ρ : List Addr} {H : Hp} : ∀ {xs : List PV} {vs ws : List V}, (∀ x ∈ xs, ∃ i, x = PV.int i) → Reps G ρ H xs vs → Reps G ρ H xs ws → vs = ws ∧ ∀ v ∈ vs, flatB v = true
  | [], vs, ws, _, h, k => by rw [show vs = [] from h, show ws = [] from k]; exact ⟨rfl, by simp⟩
  | x :: xs, vs, ws, hx, h, k => by
    obtain ⟨v, r, rfl, h1, h2⟩ := h
    obtain ⟨w, q, rfl, k1, k2⟩ := k
    obtain ⟨i, rfl⟩ := hx x List.mem_cons_self
    obtain rfl : v = .int i := h1
    obtain rfl : w = .int i := k1
    obtain ⟨e, f⟩ := reps_int (fun y hy => hx y (List.mem_cons_of_mem _ hy)) h2 k2
    exact ⟨by rw [e], fun v hv => by
      rcases List.mem_cons.mp hv with rfl | hv
      · rfl
      · exact f v hv⟩
theorem valV_zip : ∀ {ks : List Key} {vs : List V}, ks.length = vs.length → ks.Nodup → ∀ p ∈ ks.zip vs, valV (ks.zip vs) p.1 = some p.2
  | [], vs, _, _, p, h => by simp at h
  | k :: ks, [], h, _, _, _ => by simp at h
  | k :: ks, v :: vs, hl, nd, p, hp => by
    obtain ⟨n1, n2⟩ := List.nodup_cons.mp nd
    rw [List.zip_cons_cons] at hp ⊢
    rcases List.mem_cons.mp hp with rfl | hp
    · exact valV_pos rfl
    · rw [valV_neg (fun e : k = p.1 => n1 (by rw [e]; exact (List.of_mem_zip hp).1))]
      exact valV_zip (by simpa using hl) n2 p hp
def rEq3 (neg : Bool) (K : PySem.W.Frag) : R2 := fun x y H Q => (scal x y = true ∧ Q (.bl (if neg then !decide (x = y) else decide (x = y))) H) ∨
  (∃ a b ks ls, x = .ref a ∧ y = .ref b ∧ H a = some (.dK ks) ∧ H b = some (.dK ls) ∧ ks.length = ls.length ∧ (∀ p ∈ ks, valV ls p.1 = some p.2 ∧ flatB p.2 = true) ∧ Q (.bl (!neg)) H) ∨
  (∃ d e, Dp K H x d ∧ Dp K H y e ∧ SeqAt.shaped d = true ∧ SeqAt.shaped e = true ∧ Q (.bl (if neg then !PyData.eqv d e else PyData.eqv d e)) H)
theorem op_eq3 (hu : X.A.units + 64 < cLine) : OpR X (compareOp .Eq) (rEq3 false X.K) := OpR.or op_eq (OpR.or (op_eq_dictA (by omega)) (op_eqD hu))
theorem op_ne3 (hu : X.A.units + 64 < cLine) : OpR X (compareOp .NotEq) (rEq3 true X.K) := OpR.or op_ne (OpR.or (op_ne_dictA (by omega)) (op_neD hu))
theorem os_eq {neg : Bool} : OpSem X W true (rEq3 neg X.K) (vEqF neg) := by
  intro hid ρ st H x y v w Q S rx ry P
  unfold vEqF at P
  split at P
  · rename_i a b
    obtain rfl : v = .str a := rx
    obtain rfl : w = .str b := ry
    refine .inl ⟨rfl, ?_⟩
    have e : decide (V.str a = V.str b) = decide (a = b) := by simp
    rw [e]
    exact P.val S rfl (fun _ _ e => nomatch e)
  · rename_i a b
    obtain rfl : v = .int a := rx
    obtain rfl : w = .int b := ry
    refine .inl ⟨rfl, ?_⟩
    have e : decide (V.int a = V.int b) = decide (a = b) := by simp
    rw [e]
    exact P.val S rfl (fun _ _ e => nomatch e)
  · rename_i a b
    obtain rfl : v = .bl a := rx
    obtain rfl : w = .bl b := ry
    refine .inl ⟨rfl, ?_⟩
    have e : decide (V.bl a = V.bl b) = decide (a = b) := by simp
    rw [e]
    exact P.val S rfl (fun _ _ e => nomatch e)
  · split at P
    · rename_i ks xs ks' ys e1 e2
      split at P
      · rename_i hz
        rw [Bool.and_eq_true] at hz
        obtain ⟨e3, e4, e5⟩ := dEq_eq _ _ _ _ hz.1
        subst e3 e4
        obtain ⟨a, vs, rfl, l1, ha, r1⟩ := rep_dct S rx e1
        obtain ⟨b, ws, rfl, l2, hb, r2⟩ := rep_dct S ry e2
        obtain ⟨e6, fl⟩ := reps_int e5 r1 r2
        subst e6
        refine .inr (.inl ⟨a, b, _, _, rfl, rfl, ha, hb, rfl, fun p hp => ⟨valV_zip l1 (of_decide_eq_true hz.2) p hp, fl _ (List.of_mem_zip hp).2⟩, P.val S rfl (fun _ _ e => nomatch e)⟩)
      · exact False.elim P
    · split at P
      · rename_i d e q1 q2
        split at P
        · rename_i hz
          rw [Bool.and_eq_true] at hz
          exact .inr (.inr ⟨d, e, rep_deD S rx q1, rep_deD S ry q2, hz.1, hz.2, P.val S rfl (fun _ _ e => nomatch e)⟩)
        · exact False.elim P
      · exact False.elim P
end
end Vm
namespace Vm
open PySem PySem.Spec L2
section
variable {X : Cx} {W : XD} {fr : Bool}
theorem rep_key {G : Gx} {ρ : List Addr} {H : Hp} {p : PV} {v : V} {k : Key} (h : Rep G ρ H p v) (e : keyP p = some k) : v = kV k := by
  cases p with
  | int i => cases e; exact h
  | str i => cases e; exact h
  | _ => cases e
theorem kLook_rep {G : Gx} {ρ : List Addr} {H : Hp} {k : Key} : ∀ {ks : List Key} {xs : List PV} {vs : List V}, ks.length = vs.length → Reps G ρ H xs vs → (match kLook ks xs k, valV (ks.zip vs) k with
    | some p, some v => Rep G ρ H p v
    | none, none => True
    | _, _ => False)
  | [], xs, vs, _, r => by simp [kLook, valV]
  | k' :: ks, xs, [], h, r => by simp at h
  | k' :: ks, [], v :: vs, h, r => by have : v :: vs = [] := r; cases this
  | k' :: ks, x :: xs, v :: vs, h, r => by
    obtain ⟨v', r', e, h1, h2⟩ := r
    cases e
    unfold kLook
    rw [List.zip_cons_cons]
    by_cases hk : k' = k
    · rw [if_pos hk, valV_pos hk]
      exact h1
    · rw [if_neg hk, valV_neg hk]
      exact kLook_rep (by simpa using h) h2
def rIxD : R2 := fun x y H Q => ∃ a v, x = .ref a ∧ DGet H a y (some v) ∧ Q v H
theorem ix_dict (hu : X.A.units + 1 < cLine) : IxR X rIxD := by
  intro value slice pins s σ H x y v u Q I rx ry h hs
  obtain ⟨a, w, rfl, g, q⟩ := h
  obtain rfl : v = Value.ref a := rx
  have hT := dict_typeIs I g
  unfold PyProof.Rows.subscriptTail
  refine wpAny_bind ?_
  rw [getitemInPython_of_ne hT.not_modules]
  refine wpAny_bind (wpAny_specialOf hT PySem.F.slot_dict_getitem.lookup ?_)
  have fin : wpAny (model X.prog X.w) X.A (subscripted slice false (.ref a) u) (fun r s₃ => wpAny (model X.prog X.w) X.A (letTemporaryGo value (.ref a) r >>= fun _ => pure r) (EP X pins σ Q) X.xe s₃) X.xe s := by
    rw [hs]
    exact wpAny_operating (d_getItem hu I g ry fun w' s3 I3 rw' => wpAny_bind (wpAny_letTemporaryGo (wpAny_pure ⟨w, H, I3, rw', q⟩)))
  first
    | exact wpAny_pure (wpAny_bind fin)
    | exact wpAny_bind (wpAny_pure (wpAny_bind fin))
    | exact wpAny_bind fin
def rIx4 (K : PySem.W.Frag) : R2 := fun x y H Q => rIxD x y H Q ∨ rIx K x y H Q
theorem ix_4 (hu : X.A.units + 64 < cLine) : IxR X (rIx4 X.K) := IxR.or (ix_dict (by omega)) ix_seq
theorem reps_at {G : Gx} {ρ : List Addr} {H : Hp} {xs : List PV} {vs : List V} {i : Int} {p : PV} (r : Reps G ρ H xs vs) (e : atI xs i = some p) : ∃ v, atI vs i = some v ∧ Rep G ρ H p v := by
  unfold atI at e ⊢
  rw [r.length]
  obtain ⟨j, e1, e2⟩ := Option.bind_eq_some_iff.mp e
  obtain ⟨v, e3, e4⟩ := r.get e2
  exact ⟨v, Option.bind_eq_some_iff.mpr ⟨j, e1, e3⟩, e4⟩
theorem atI_map {α β : Type} (g : α → β) (xs : List α) (i : Int) : atI (xs.map g) i = (atI xs i).map g := by
  unfold atI
  rw [List.length_map]
  cases ixN xs.length i <;> simp
theorem os_ix : OpSem X W false (rIx4 X.K) vIx := by
  intro hid ρ st H x y v w Q S rx ry P
  unfold vIx at P
  split at P
  · rename_i xs i e
    obtain ⟨a, vs, rfl, ha, r⟩ := rep_lst S rx e
    cases e2 : atI xs i with
    | none => rw [e2] at P; exact False.elim P
    | some p =>
      rw [e2] at P
      obtain ⟨v, e3, r3⟩ := reps_at r e2
      exact .inr (.inl ⟨a, vs, i, v, rfl, ry, SqL.of ha, e3, P.val S r3 (fun z => nomatch z)⟩)
  · rename_i xs i e
    obtain ⟨a, vs, rfl, ha, r⟩ := rep_tup S rx e
    cases e2 : atI xs i with
    | none => rw [e2] at P; exact False.elim P
    | some p =>
      rw [e2] at P
      obtain ⟨v, e3, r3⟩ := reps_at r e2
      exact .inr (.inr (.inl ⟨a, vs, i, v, rfl, ry, ha, e3, P.val S r3 (fun z => nomatch z)⟩))
  · rename_i ns i e
    obtain ⟨a, rfl, ha⟩ := rep_scr S rx e
    cases e2 : atI ns i with
    | none => rw [e2] at P; exact False.elim P
    | some p =>
      rw [e2] at P
      exact .inr (.inl ⟨a, _, i, .int p, rfl, ry, ha, by rw [atI_map, e2]; rfl, P.val S rfl (fun z => nomatch z)⟩)
  · rename_i z i e
    have hx : x = .str z ∧ v = .str z := by
      rcases rep_deref S rx with ⟨n, a, rfl, rfl, o⟩ | ⟨_, z'⟩
      · rw [e] at o; exact False.elim o
      · rw [z'] at e; subst e; exact ⟨rfl, rx⟩
    split at P
    · rename_i hz
      cases e2 : atI z.cps.toList i with
      | none => rw [e2] at P; exact False.elim P
      | some c =>
        rw [e2] at P
        exact .inr (.inr (.inr ⟨z, i, c, hx.2, ry, sz _ hz, e2, P.val S rfl (fun z => nomatch z)⟩))
    · exact False.elim P
  · rename_i ks xs e
    split at P
    · rename_i k ek
      obtain ⟨a, vs, rfl, l, ha, r⟩ := rep_dct S rx e
      have h := kLook_rep (k := k) l r
      cases e1 : kLook ks xs k with
      | none => rw [e1] at P; exact False.elim P
      | some p =>
        rw [e1] at P h
        cases e2 : valV (ks.zip vs) k with
        | none => rw [e2] at h; exact False.elim h
        | some v' =>
          rw [e2] at h
          refine .inl ⟨a, v', rfl, ?_, P.val S h (fun z => nomatch z)⟩
          rw [rep_key ry ek, ← e2]
          exact DGet.k ha
    · exact False.elim P
  · exact False.elim P
def vLen (xs : List PV) (st : VSt) : Res PV := match xs with
  | [p] => match deref st p with
    | .lst xs => .ok (.int xs.length) st
    | .tup xs => .ok (.int xs.length) st
    | .scr ns => .ok (.int ns.length) st
    | .dct ks _ => .ok (.int ks.length) st
    | .str z => if z.length ≤ 1000000 then .ok (.int z.length) st else .bad
    | _ => .bad
  | _ => .bad
def rLen2 (K : PySem.W.Frag) : List V → Hp → VK → Prop := fun xs H Q => (∃ p ys, xs = [.ref p] ∧ (SqL K H p ys ∨ SqT K H p ys) ∧ Q (.int ys.length) H) ∨ (∃ z, xs = [.str z] ∧ z.length ≤ sizeLine ∧ Q (.int z.length) H) ∨ (∃ a kvs, xs = [V.ref a] ∧ H a = some (.dK kvs) ∧ Q (.int kvs.length) H)
theorem call_len2 : CallR X (.builtin "len") (rLen2 X.K) := CallR.or call_len_seq (CallR.or call_len_str call_lenD)
theorem reps1 {G : Gx} {ρ : List Addr} {H : Hp} {p : PV} {vs : List V} (r : Reps G ρ H [p] vs) : ∃ v, vs = [v] ∧ Rep G ρ H p v := by
  obtain ⟨v, q, rfl, h, e⟩ := r
  obtain rfl : q = [] := e
  exact ⟨v, rfl, h⟩
theorem reps2 {G : Gx} {ρ : List Addr} {H : Hp} {p p2 : PV} {vs : List V} (r : Reps G ρ H [p, p2] vs) : ∃ v w, vs = [v, w] ∧ Rep G ρ H p v ∧ Rep G ρ H p2 w := by
  obtain ⟨v, q, rfl, h, e⟩ := r
  obtain ⟨w, rfl, h2⟩ := reps1 e
  exact ⟨v, w, rfl, h, h2⟩
theorem rep_str {G : Gx} {ρ : List Addr} {st : VSt} {H : Hp} {x : PV} {v : V} {z : Str} (S : SRel G ρ st H) (rx : Rep G ρ H x v) (e : deref st x = .str z) : v = .str z := by
  rcases rep_deref S rx with ⟨n, a, rfl, rfl, o⟩ | ⟨_, z'⟩
  · rw [e] at o; exact False.elim o
  · rw [z'] at e; subst e; exact rx
theorem cs_len : CallSem X W true (rLen2 X.K) vLen := by
  intro hid ρ st H xs vs Q S r P
  unfold vLen at P
  split at P
  · rename_i p
    obtain ⟨v, rfl, rp⟩ := reps1 r
    split at P
    · rename_i xs e
      obtain ⟨a, ws, rfl, ha, r1⟩ := rep_lst S rp e
      exact .inl ⟨a, ws, rfl, .inl (SqL.of ha), by rw [r1.length]; exact P.val S rfl (fun _ _ e => nomatch e)⟩
    · rename_i xs e
      obtain ⟨a, ws, rfl, ha, r1⟩ := rep_tup S rp e
      exact .inl ⟨a, ws, rfl, .inr ha, by rw [r1.length]; exact P.val S rfl (fun _ _ e => nomatch e)⟩
    · rename_i ns e
      obtain ⟨a, rfl, ha⟩ := rep_scr S rp e
      exact .inl ⟨a, _, rfl, .inl ha, by rw [List.length_map]; exact P.val S rfl (fun _ _ e => nomatch e)⟩
    · rename_i ks ys e
      obtain ⟨a, ws, rfl, hl, ha, r1⟩ := rep_dct S rp e
      exact .inr (.inr ⟨a, _, rfl, ha, by rw [List.length_zip, ← hl, Nat.min_self]; exact P.val S rfl (fun _ _ e => nomatch e)⟩)
    · rename_i z e
      obtain rfl := rep_str S rp e
      split at P
      · rename_i hz
        exact .inr <| .inl ⟨z, rfl, sz _ hz, P.val S rfl (fun _ _ e => nomatch e)⟩
      · exact False.elim P
    · exact False.elim P
  · exact False.elim P
theorem rep_seq {G : Gx} {ρ : List Addr} {st : VSt} {H : Hp} {p : PV} {v : V} {xs : List PV} (S : SRel G ρ st H) (r : Rep G ρ H p v) (e : seqOf st p = some xs) : ∃ a vs, v = .ref a ∧ (SqL G.K H a vs ∨ SqT G.K H a vs) ∧ Reps G ρ H xs vs := by
  unfold seqOf at e
  split at e
  · rename_i ys e2
    cases e
    obtain ⟨a, vs, h1, h2, h3⟩ := rep_lst S r e2
    exact ⟨a, vs, h1, .inl (SqL.of h2), h3⟩
  · rename_i ys e2
    cases e
    obtain ⟨a, vs, h1, h2, h3⟩ := rep_tup S r e2
    exact ⟨a, vs, h1, .inr h2, h3⟩
  · cases e
def vTuple (xs : List PV) (st : VSt) : Res PV := match xs with
  | [p] => match seqOf st p with
    | some xs => .ok (.tup xs) st
    | none => .bad
  | _ => .bad
theorem cs_tuple : CallSem X W false (fun xs H Q => ∃ p ys, xs = [.ref p] ∧ ((SqL X.K H p ys ∧ ∀ l, H l = none → Q (.ref l) (upd H l (.tup ys))) ∨ (SqT X.K H p ys ∧ Q (.ref p) H))) vTuple := by
  intro hid ρ st H xs vs Q S r P
  unfold vTuple at P
  split at P
  · rename_i p
    obtain ⟨v, rfl, rp⟩ := reps1 r
    split at P
    · rename_i xs e
      obtain ⟨a, ws, rfl, ha, r1⟩ := rep_seq S rp e
      rcases ha with ha | ha
      · exact ⟨a, ws, rfl, .inl ⟨ha, fun l hl => P.give S hl hl (new_tup r1 hl)⟩⟩
      · exact ⟨a, ws, rfl, .inr ⟨ha, P.val S ⟨a, ws, rfl, ha, r1⟩ (fun z => nomatch z)⟩⟩
    · exact False.elim P
  · exact False.elim P
/-- the built-in type of a value -/
def tyP (st : VSt) (p : PV) : Option String := match deref st p with
  | .non => some "NoneType" | .bl _ => some "bool" | .int _ => some "int" | .str _ => some "str"
  | .tup _ => some "tuple" | .lst _ => some "list" | .dct _ _ => some "dict"
  | _ => none
def isaT (T : String) : String → Option Bool := fun t => kitB t T
def vIsa (T : String) (xs : List PV) (st : VSt) : Res PV := match xs with
  | [p] => match (tyP st p).bind (isaT T) with
    | some b => .ok (.bl b) st
    | none => .bad
  | _ => .bad
theorem rep_ty {G : Gx} {ρ : List Addr} {st : VSt} {H : Hp} {p : PV} {v : V} {t : String} (S : SRel G ρ st H) (r : Rep G ρ H p v) (e : tyP st p = some t) : TyX G.K H v (.type t) := by
  unfold tyP at e
  have val : ∀ {q}, deref st p = q → (∀ a, ¬ ObjR G ρ H q a) → Rep G ρ H q v := fun {q} e no => by
    rcases rep_deref S r with ⟨n, a, rfl, rfl, o⟩ | ⟨_, z'⟩
    · rw [e] at o; exact absurd o (no a)
    · rw [z'] at e; subst e; exact r
  split at e
  · rename_i e2
    cases e
    obtain rfl : v = .non := val e2 fun _ z => z
    exact .base .non
  · rename_i b e2
    cases e
    obtain rfl : v = .bl b := val e2 fun _ z => z
    exact .base (.bl _)
  · rename_i b e2
    cases e
    obtain rfl : v = .int b := val e2 fun _ z => z
    exact .base (.int _)
  · rename_i b e2
    cases e
    obtain rfl : v = .str b := val e2 fun _ z => z
    exact .base (.str _)
  · rename_i xs e2
    cases e
    obtain ⟨a, vs, rfl, h, _⟩ := rep_tup S r e2
    rcases h with (h | ⟨o, h⟩) | ⟨o, its, n, h1, h2, _⟩
    · exact .base (.tup h)
    · exact .fTuple h
    · exact .kTuple h1 h2
  · rename_i xs e2
    cases e
    obtain ⟨a, vs, rfl, h, _⟩ := rep_lst S r e2
    exact .base (.lst h)
  · rename_i ks xs e2
    cases e
    obtain ⟨a, vs, rfl, _, h, _⟩ := rep_dct S r e2
    exact .base (.dK h)
  · cases e
/-- isinstance(x, T) -/
theorem ev_isa {a : Expr} {ma : EM} {fa : Bool} {T : Str} {T' : String} {p p2 pos : Pos} (ha : Ev X W fa a ma) (hm : X.mg "isinstance" = none) (hT : X.mg T = none) (hv : bootBuiltins T = some (.type T')) (hg : Gl X "isinstance" := by rfl) (hgT : Gl X T := by rfl)
    (hn : T ≠ "__name__" := by decide) (hd : (T == ("__debug__" : Str)) = false := by decide)
    (hs : starEach (a :: [.Name T p2]) X.env = (false, eval a X.env) :: starEach [.Name T p2] X.env := by rfl) (hs2 : starEach (.Name T p2 :: []) X.env = (false, eval (.Name T p2) X.env) :: starEach [] X.env := by rfl)
    (hpl : (backTo pos (starEach [.Name T p2] X.env)).any (·.1) = false := by rfl) :
    Ev X W true (.Call (.Name "isinstance" p) [a, .Name T p2] [] pos) (eApp (vIsa T') (aCons ma aNil)) := by
  refine PE.anti (pe_callB call_isi hg hm PyProof.Rows.boot_isinstance (pa_cons ha (pa_cons (pe_bltn (v := .ty T') hgT hT hv rfl hn hd) pa_nil hs2) hs) (by decide) (by decide) hs hpl) fun σ H Q ⟨hid, ρ, env, st, R, P⟩ => ?_
  have e : eApp (vIsa T') (aCons ma aNil) env st = (ma env st).bind fun x s1 => vIsa T' [x] s1 := by
    unfold eApp aCons aNil
    cases ma env st <;> rfl
  rw [e] at P
  refine cE_use R P fun ρ1 st1 H1 x v l R1 rx _ P1 => ?_
  show ∃ _ _ _ _ _, _
  replace P1 : Post (gx X W hid) ρ1 H1 (match (tyP st1 x).bind (isaT T') with
    | some b => .ok (.bl b) st1
    | none => .bad) (kE (gx X W hid) H true Q) := P1
  split at P1
  · rename_i b eb
    obtain ⟨t, h1, h2⟩ := Option.bind_eq_some_iff.mp eb
    exact ⟨v, .ty T', .type t, .type T', b, rfl, .ty T', rep_ty R1.s rx h1, kit_ty h2, P1.val R1.s rfl (fun _ _ e => nomatch e)⟩
  · exact False.elim P1
def vInt (xs : List PV) (st : VSt) : Res PV := match xs with
  | [.int i] => .ok (.int i) st
  | [.bl k] => .ok (.int (if k then 1 else 0)) st
  | _ => .bad
theorem cs_int : CallSem X W true (fun xs H Q => (∃ i, xs = [.int i] ∧ Q (.int i) H) ∨ ∃ k, xs = [.bl k] ∧ Q (.int (if k then 1 else 0)) H) vInt := by
  intro hid ρ st H xs vs Q S r P
  unfold vInt at P
  split at P
  · obtain ⟨v, rfl, rp⟩ := reps1 r
    rename_i i
    obtain rfl : v = .int i := rp
    exact .inl ⟨i, rfl, P.val S rfl (fun _ _ e => nomatch e)⟩
  · obtain ⟨v, rfl, rp⟩ := reps1 r
    rename_i i
    obtain rfl : v = .bl i := rp
    exact .inr ⟨i, rfl, P.val S rfl (fun _ _ e => nomatch e)⟩
  · exact False.elim P
def vMax (xs : List PV) (st : VSt) : Res PV := match xs with
  | [.int i, .int j] => .ok (.int (if j > i then j else i)) st
  | _ => .bad
theorem cs_max : CallSem X W true (fun xs H Q => ∃ i j, xs = [.int i, .int j] ∧ Q (.int (if j > i then j else i)) H) vMax := by
  intro hid ρ st H xs vs Q S r P
  unfold vMax at P
  split at P
  · rename_i i j
    obtain ⟨v, w, rfl, rp, rq⟩ := reps2 r
    exact ⟨i, j, by rw [show v = _ from rp, show w = _ from rq], P.val S rfl (fun _ _ e => nomatch e)⟩
  · exact False.elim P
theorem new_dct {G : Gx} {ρ : List Addr} {st : VSt} {H : Hp} {ks : List Key} {xs : List PV} {vs : List V} {p : Addr} (s : SRel G ρ st H) (l : ks.length = vs.length) (r : Reps G ρ H xs vs) (hp : H p = none) : Rep G ρ (upd H p (.dK (ks.zip vs))) (.dct ks xs) (.ref p) :=
  ⟨p, vs, rfl, s.fresh hp, s.freshH hp, l, upd_same, Reps.later (.new hp) _ _ r⟩
end
end Vm
namespace Vm
open PySem PySem.Spec L2
abbrev OM := VEnv → VSt → Res (Option Int)
def oNone : OM := fun _ st => .ok none st
def oSome (a : EM) : OM := fun env st => (a env st).bind fun p s => match p with
  | .int i => .ok (some i) s
  | _ => .bad
def kO (Q : Option Int → Hp → Prop) : KF (Option Int) := fun _ _ H' o => Q o H'
def cO (X : Cx) (W : XD) (m : OM) : TO := fun σ H Q => ∃ hid ρ env st, Rel (gx X W hid) ρ env st σ H ∧ Post (gx X W hid) ρ H (m env st) (kO Q)
def EvO (X : Cx) (W : XD) (e : Option Expr) (m : OM) : Prop := PO X e (cO X W m)
theorem PO.anti {X : Cx} {e : Option Expr} {t u : TO} (h : PO X e t) (k : ∀ σ H Q, u σ H Q → t σ H Q) : PO X e u := ⟨fun pins s σ H Q I w => h.run pins s σ H Q I (k σ H Q w)⟩
def cutP (xs : List PV) (lo hi : Option Int) : List PV := (xs.drop (HT.sIx xs.length 0 lo)).take (HT.sIx xs.length xs.length hi - HT.sIx xs.length 0 lo)
def vSl (x : PV) (lo hi : Option Int) (st : VSt) : Res PV := match deref st x with
  | .lst xs => .ok (.lst (cutP xs lo hi)) st
  | .tup xs => .ok (.tup (cutP xs lo hi)) st
  | .str z => if z.length ≤ 1000000 then .ok (.str (cutS z lo hi)) st else .bad
  | _ => .bad
def eSl (a : EM) (lo hi : OM) : EM := fun env st => (a env st).bind fun x s1 => (lo env s1).bind fun l s2 => (hi env s2).bind fun h s3 => vSl x l h s3
section
variable {X : Cx} {W : XD} {fr fa fb : Bool} {a b e : Expr} {ma mb me : EM} {pos p2 : Pos}
theorem evo_none : EvO X W none oNone := PO.anti po_none fun σ H Q ⟨hid, ρ, env, st, R, P⟩ => P.now R.s
theorem evo_some (h : Ev X W fa a ma) : EvO X W (some a) (oSome ma) := PO.anti (po_some h) fun σ H Q ⟨hid, ρ, env, st, R, P⟩ => cE_use R P fun ρ1 st1 H1 p v l R1 rp _ P1 => by
  cases p with
  | int i => exact ⟨i, rp, P1.now R1.s⟩
  | _ => exact False.elim P1
theorem cO_use {hid : HD} {ρ : List Addr} {env : VEnv} {st : VSt} {σ : L2.St} {H : Hp} {m : OM} {β : Type} {k : Option Int → VSt → Res β} {K : KF β} {Q : Option Int → Hp → Prop} (R : Rel (gx X W hid) ρ env st σ H) (P : Post (gx X W hid) ρ H ((m env st).bind k) K)
    (q : ∀ ρ1 st1 H1 o, Later ρ H ρ1 H1 → Rel (gx X W hid) ρ1 env st1 σ H1 → Post (gx X W hid) ρ1 H1 (k o st1) K → Q o H1) : cO X W m σ H Q :=
  ⟨hid, ρ, env, st, R, P.bind.imp fun ρ1 st1 H1 o l s kk => q ρ1 st1 H1 o l (R.later l s) kk⟩
def rSl3 (K : PySem.W.Frag) : V → Option Int → Option Int → Hp → VK → Prop := fun x lo hi H Q => rSlL K x lo hi H Q ∨ rSlA K x lo hi H Q ∨ rSlS x lo hi H Q
theorem sl_3 : SlR X (rSl3 X.K) := SlR.or sl_list (SlR.or sl_tupA sl_str)
theorem reps_cut {G : Gx} {ρ : List Addr} {H : Hp} {xs : List PV} {vs : List V} {lo hi : Option Int} (r : Reps G ρ H xs vs) : Reps G ρ H (cutP xs lo hi) (cutV vs lo hi) := by
  unfold cutP cutV
  rw [r.length]
  exact (r.drop _).take _
theorem cutV_whole {xs : List V} {lo hi : Option Int} (h1 : HT.sIx xs.length 0 lo = 0) (h2 : HT.sIx xs.length xs.length hi = xs.length) : cutV xs lo hi = xs := by
  unfold cutV
  rw [h1, h2]
  simp
theorem ev_sl {lo hi : Option Expr} {ml mh : OM} (ha : Ev X W fa a ma) (hl : EvO X W lo ml) (hh : EvO X W hi mh) : Ev X W false (.Subscript a (.Slice lo hi none p2) pos) (eSl ma ml mh) :=
  PE.anti (pe_slice sl_3 ha hl hh) fun σ H Q ⟨hid, ρ, env, st, R, P⟩ => cE_use R P fun ρ1 st1 H1 x v l1 R1 rx _ P1 => cO_use R1 P1 fun ρ2 st2 H2 lo l2 R2 P2 => cO_use R2 P2 fun ρ3 st3 H3 hi l3 R3 P3 => by
    have S := R3.s
    have rx := Rep.later (l2.trans l3) _ _ rx
    unfold vSl at P3
    split at P3
    · rename_i xs e
      obtain ⟨a, vs, rfl, ha, r⟩ := rep_lst S rx e
      exact .inl ⟨a, vs, rfl, SqL.of ha, fun p hp => P3.give S hp (((l1.trans l2).trans l3).back hp) (new_lst S (reps_cut r) hp)⟩
    · rename_i xs e
      obtain ⟨a, vs, rfl, ha, r⟩ := rep_tup S rx e
      refine .inr (.inl ⟨a, vs, rfl, ha, fun hw => ?_, fun hw p hp => ?_⟩)
      · refine P3.val S ⟨a, vs, rfl, ha, ?_⟩ (fun z => nomatch z)
        have := reps_cut (lo := lo) (hi := hi) r
        rw [cutV_whole hw.1 hw.2] at this
        exact this
      · exact P3.give S hp (((l1.trans l2).trans l3).back hp) (new_tup (reps_cut r) hp)
    · rename_i z e
      obtain rfl := rep_str S rx e
      split at P3
      · rename_i hz
        exact .inr (.inr ⟨z, rfl, sz _ hz, P3.val S rfl (fun z => nomatch z)⟩)
      · exact False.elim P3
    · exact False.elim P3
def vGet (d k x : PV) (st : VSt) : Res PV := match deref st d with
  | .dct ks xs => match keyP k with
    | some k => .ok ((kLook ks xs k).getD x) st
    | none => .bad
  | _ => .bad
def isDct (st : VSt) (p : PV) : Bool := match deref st p with
  | .dct _ _ => true
  | _ => false
def eGet (d k x : EM) : EM := fun env st => (d env st).bind fun d s1 => if isDct s1 d = true then (k env s1).bind fun k s2 => (x env s2).bind fun x s3 => vGet d k x s3 else .bad
theorem ev_get {d k x : Expr} {md mk mx : EM} {fd fk fx : Bool} {apos cpos : Pos} (hu : X.A.units + 64 < cLine) (hd : Ev X W fd d md) (hk : Ev X W fk k mk) (hx : Ev X W fx x mx) (m : M2 X d "get" apos k x cpos := by exact ⟨rfl, rfl, rfl, rfl⟩) :
    Ev X W false (.Call (.Attribute d "get" apos) [k, x] [] cpos) (eGet md mk mx) :=
  PE.anti (pe_dget2 (by omega) hd hk hx m) fun σ H Q ⟨hid, ρ, env, st, R, P⟩ => cE_use R P fun ρ1 st1 H1 d v l1 R1 rd _ P1 => by
    split at P1
    · rename_i hz
      have hd1 : ∃ ks xs, deref st1 d = .dct ks xs := by
        unfold isDct at hz
        split at hz
        · rename_i ks xs e; exact ⟨ks, xs, e⟩
        · cases hz
      obtain ⟨ks, xs, e1⟩ := hd1
      obtain ⟨a, vs, rfl, l, ha, r⟩ := rep_dct R1.s rd e1
      refine ⟨a, rfl, .inl ⟨_, .inl ha⟩, cE_use R1 P1 fun ρ2 st2 H2 k w l2 R2 rk _ P2 => cE_use R2 P2 fun ρ3 st3 H3 x u l3 R3 rx _ P3 => ?_⟩
      have S := R3.s
      have rd := Rep.later (l2.trans l3) _ _ rd
      have rk := Rep.later l3 _ _ rk
      unfold vGet at P3
      split at P3
      · rename_i ks xs e
        split at P3
        · rename_i kk ek
          obtain ⟨a', vs, ea, l, ha, r⟩ := rep_dct S rd e
          cases ea
          have h := kLook_rep (k := kk) l r
          refine ⟨_, by rw [rep_key rk ek]; exact DGet.k ha, ?_⟩
          cases e1 : kLook ks xs kk with
          | none =>
            rw [e1] at P3 h
            cases e2 : valV (ks.zip vs) kk with
            | some v' => rw [e2] at h; exact False.elim h
            | none => exact P3.val S rx (fun z => nomatch z)
          | some p =>
            rw [e1] at P3 h
            cases e2 : valV (ks.zip vs) kk with
            | none => rw [e2] at h; exact False.elim h
            | some v' =>
              rw [e2] at h
              exact P3.val S h (fun z => nomatch z)
        · exact False.elim P3
      · exact False.elim P3
    · exact False.elim P1
end
def Gx.hide (G : Gx) (d : Addr) (xd : XD) : Gx := { G with hid := d :: G.hid, X := xd }
mutual
theorem rep_hide {G : Gx} {ρ : List Addr} {H : Hp} {d : Addr} {xd : XD} {o : HO} (hd : H d = none) : ∀ (p : PV) (v : V), Rep G ρ H p v → Rep (G.hide d xd) ρ (upd H d o) p v
  | .non, v, h => h
  | .bl b, v, h => h
  | .int i, v, h => h
  | .str x, v, h => h
  | .tup xs, v, h => by
    obtain ⟨a, vs, e, s, r⟩ := h
    exact ⟨a, vs, e, sqT_later (Later.new (ρ := ρ) hd) s, reps_hide hd xs vs r⟩
  | .lst xs, v, h => by
    obtain ⟨a, vs, e, n, n2, s, r⟩ := h
    have ne := ne_of_none s hd
    exact ⟨a, vs, e, n, fun z => (List.mem_cons.mp z).elim ne n2, by rw [upd_ne ne]; exact s, reps_hide hd xs vs r⟩
  | .dct ks xs, v, h => by
    obtain ⟨a, vs, e, n, n2, z, s, r⟩ := h
    have ne := ne_of_none s hd
    exact ⟨a, vs, e, n, fun z => (List.mem_cons.mp z).elim ne n2, z, by rw [upd_ne ne]; exact s, reps_hide hd xs vs r⟩
  | .sset xs, v, h => by
    obtain ⟨a, e, n, n2, s⟩ := h
    have ne := ne_of_none s hd
    exact ⟨a, e, n, fun z => (List.mem_cons.mp z).elim ne n2, by rw [upd_ne ne]; exact s⟩
  | .raw a d fs, v, h => by
    obtain ⟨e, f, z⟩ := h
    refine ⟨e, f, fun dd hd2 => ?_⟩
    obtain ⟨n, vs, q, r⟩ := z dd hd2
    exact ⟨n, vs, by rw [upd_ne (ne_of_none q hd)]; exact q, reps_hide hd fs vs r⟩
  | .vis xs, v, h => by
    obtain ⟨a, C, dx, vs, e, n, n2, c, z, s, r⟩ := h
    have ne := ne_of_none s hd
    exact ⟨a, C, dx, vs, e, n, fun z => (List.mem_cons.mp z).elim ne n2, c, z, by rw [upd_ne ne]; exact s, reps_hide hd xs vs r⟩
  | .scr ns, v, h => by
    obtain ⟨a, e, s⟩ := h
    refine ⟨a, e, ?_⟩
    rcases s with ⟨h, n, n2⟩ | h
    · have ne : a ≠ d := by rcases h with h | ⟨u, h⟩ <;> exact ne_of_none h hd
      exact .inl ⟨(rd_later (Later.new (ρ := ρ) hd) h n).1, n, fun z => (List.mem_cons.mp z).elim ne n2⟩
    · exact .inr h
  | .loc n, v, h => h
theorem reps_hide {G : Gx} {ρ : List Addr} {H : Hp} {d : Addr} {xd : XD} {o : HO} (hd : H d = none) : ∀ (ps : List PV) (vs : List V), Reps G ρ H ps vs → Reps (G.hide d xd) ρ (upd H d o) ps vs
  | [], vs, h => h
  | p :: ps, vs, h => by
    obtain ⟨v, r, e, h1, h2⟩ := h
    exact ⟨v, r, e, rep_hide hd p v h1, reps_hide hd ps r h2⟩
end
mutual
theorem rep_show {G : Gx} {ρ : List Addr} {H : Hp} {d : Addr} {xd : XD} : ∀ (p : PV) (v : V), Rep (G.hide d xd) ρ H p v → Rep G ρ H p v
  | .non, v, h => h
  | .bl b, v, h => h
  | .int i, v, h => h
  | .str x, v, h => h
  | .tup xs, v, h => by
    obtain ⟨a, vs, e, s, r⟩ := h
    exact ⟨a, vs, e, s, reps_show xs vs r⟩
  | .lst xs, v, h => by
    obtain ⟨a, vs, e, n, n2, s, r⟩ := h
    exact ⟨a, vs, e, n, fun z => n2 (List.mem_cons_of_mem _ z), s, reps_show xs vs r⟩
  | .dct ks xs, v, h => by
    obtain ⟨a, vs, e, n, n2, z, s, r⟩ := h
    exact ⟨a, vs, e, n, fun z => n2 (List.mem_cons_of_mem _ z), z, s, reps_show xs vs r⟩
  | .sset xs, v, h => by
    obtain ⟨a, e, n, n2, s⟩ := h
    exact ⟨a, e, n, fun z => n2 (List.mem_cons_of_mem _ z), s⟩
  | .raw a d fs, v, h => by
    obtain ⟨e, f, z⟩ := h
    refine ⟨e, f, fun dd hd => ?_⟩
    obtain ⟨n, vs, q, r⟩ := z dd hd
    exact ⟨n, vs, q, reps_show fs vs r⟩
  | .vis xs, v, h => by
    obtain ⟨a, C, dx, vs, e, n, n2, c, z, s, r⟩ := h
    exact ⟨a, C, dx, vs, e, n, fun z => n2 (List.mem_cons_of_mem _ z), c, z, s, reps_show xs vs r⟩
  | .scr ns, v, h => by
    obtain ⟨a, e, s⟩ := h
    refine ⟨a, e, ?_⟩
    rcases s with ⟨h, n, n2⟩ | h
    · exact .inl ⟨h, n, fun z => n2 (List.mem_cons_of_mem _ z)⟩
    · exact .inr h
  | .loc n, v, h => h
theorem reps_show {G : Gx} {ρ : List Addr} {H : Hp} {d : Addr} {xd : XD} : ∀ (ps : List PV) (vs : List V), Reps (G.hide d xd) ρ H ps vs → Reps G ρ H ps vs
  | [], vs, h => h
  | p :: ps, vs, h => by
    obtain ⟨v, r, e, h1, h2⟩ := h
    exact ⟨v, r, e, rep_show p v h1, reps_show ps r h2⟩
end
theorem objR_hide {G : Gx} {ρ : List Addr} {H : Hp} {d : Addr} {xd : XD} {o : HO} (hd : H d = none) {p : PV} {a : Addr} (h : ObjR G ρ H p a) : ObjR (G.hide d xd) ρ (upd H d o) p a := by
  obtain ⟨u, e⟩ := h.some
  have ne := ne_of_none e hd
  cases p with
  | lst xs => obtain ⟨vs, h, r⟩ := h; exact ⟨vs, by rw [upd_ne ne]; exact h, reps_hide hd _ _ r⟩
  | dct ks xs => obtain ⟨vs, z, h, r⟩ := h; exact ⟨vs, z, by rw [upd_ne ne]; exact h, reps_hide hd _ _ r⟩
  | sset xs => exact (upd_ne ne).trans h
  | _ => exact h.elim
theorem objR_show {G : Gx} {ρ : List Addr} {H : Hp} {d : Addr} {xd : XD} {p : PV} {a : Addr} (h : ObjR (G.hide d xd) ρ H p a) : ObjR G ρ H p a := by
  cases p with
  | lst xs => obtain ⟨vs, h, r⟩ := h; exact ⟨vs, h, reps_show _ _ r⟩
  | dct ks xs => obtain ⟨vs, z, h, r⟩ := h; exact ⟨vs, z, h, reps_show _ _ r⟩
  | sset xs => exact h
  | _ => exact h.elim
theorem srel_hide {G : Gx} {ρ : List Addr} {st : VSt} {H : Hp} {d : Addr} {xd : XD} {o : HO} (hd : H d = none) (s : SRel G ρ st H) : SRel (G.hide d xd) ρ st (upd H d o) :=
  ⟨s.nd, s.len, fun n p a e1 e2 => ⟨objR_hide hd (s.obj n p a e1 e2).1, (s.obj n p a e1 e2).2⟩, fun b hb => by
    rcases List.mem_cons.mp hb with rfl | hb
    · exact ⟨s.fresh hd, o, upd_same⟩
    · obtain ⟨h1, u, e⟩ := s.hid b hb
      exact ⟨h1, u, by rw [upd_ne (ne_of_none e hd)]; exact e⟩, s.ned⟩
theorem srel_show {G : Gx} {ρ : List Addr} {st : VSt} {H : Hp} {d : Addr} {xd : XD} (s : SRel (G.hide d xd) ρ st H) : SRel G ρ st H :=
  ⟨s.nd, s.len, fun n p a e1 e2 => ⟨objR_show (s.obj n p a e1 e2).1, (s.obj n p a e1 e2).2⟩, fun b hb => s.hid b (List.mem_cons_of_mem _ hb), s.ned⟩
theorem envR_hide {G : Gx} {ρ : List Addr} {H : Hp} {env : VEnv} {σ : L2.St} {d : Addr} {xd : XD} {o : HO} (hd : H d = none) (h : EnvR G ρ H env σ) : EnvR (G.hide d xd) ρ (upd H d o) env σ :=
  ⟨h.1, fun i p e => by obtain ⟨v, a, b⟩ := h.2 i p e; exact ⟨v, a, rep_hide hd p v b⟩⟩
/-- what is wanted of exceptions plays no part in what stands where -/
def Gx.wx (G : Gx) (xd : XD) : Gx := { G with X := xd }
mutual
theorem rep_wx {G : Gx} {ρ : List Addr} {H : Hp} {xd : XD} : ∀ (p : PV) (v : V), Rep G ρ H p v → Rep (G.wx xd) ρ H p v
  | .non, v, h => h
  | .bl b, v, h => h
  | .int i, v, h => h
  | .str x, v, h => h
  | .tup xs, v, h => by
    obtain ⟨a, vs, e, s, r⟩ := h
    exact ⟨a, vs, e, s, reps_wx xs vs r⟩
  | .lst xs, v, h => by
    obtain ⟨a, vs, e, n, n2, s, r⟩ := h
    exact ⟨a, vs, e, n, n2, s, reps_wx xs vs r⟩
  | .dct ks xs, v, h => by
    obtain ⟨a, vs, e, n, n2, z, s, r⟩ := h
    exact ⟨a, vs, e, n, n2, z, s, reps_wx xs vs r⟩
  | .sset xs, v, h => h
  | .raw a d fs, v, h => by
    obtain ⟨e, f, z⟩ := h
    refine ⟨e, f, fun dd hd => ?_⟩
    obtain ⟨n, vs, q, r⟩ := z dd hd
    exact ⟨n, vs, q, reps_wx fs vs r⟩
  | .vis xs, v, h => by
    obtain ⟨a, C, dx, vs, e, n, n2, c, z, s, r⟩ := h
    exact ⟨a, C, dx, vs, e, n, n2, c, z, s, reps_wx xs vs r⟩
  | .scr ns, v, h => h
  | .loc n, v, h => h
theorem reps_wx {G : Gx} {ρ : List Addr} {H : Hp} {xd : XD} : ∀ (ps : List PV) (vs : List V), Reps G ρ H ps vs → Reps (G.wx xd) ρ H ps vs
  | [], vs, h => h
  | p :: ps, vs, h => by
    obtain ⟨v, r, e, h1, h2⟩ := h
    exact ⟨v, r, e, rep_wx p v h1, reps_wx ps r h2⟩
end
theorem objR_wx {G : Gx} {ρ : List Addr} {H : Hp} {xd : XD} {p : PV} {a : Addr} (h : ObjR G ρ H p a) : ObjR (G.wx xd) ρ H p a := by
  cases p with
  | lst xs => obtain ⟨vs, h, r⟩ := h; exact ⟨vs, h, reps_wx _ _ r⟩
  | dct ks xs => obtain ⟨vs, z, h, r⟩ := h; exact ⟨vs, z, h, reps_wx _ _ r⟩
  | sset xs => exact h
  | _ => exact h.elim
theorem srel_wx {G : Gx} {ρ : List Addr} {st : VSt} {H : Hp} {xd : XD} (s : SRel G ρ st H) : SRel (G.wx xd) ρ st H :=
  ⟨s.nd, s.len, fun n p a e1 e2 => ⟨objR_wx (s.obj n p a e1 e2).1, (s.obj n p a e1 e2).2⟩, s.hid, s.ned⟩
/-- what may hold visits plays no part in what stands where -/
def Gx.wn (G : Gx) (xd : (Nat → Bool) × Option Nat) : Gx := { G with nst := xd.1, bb := xd.2 }
mutual
theorem rep_wn {G : Gx} {ρ : List Addr} {H : Hp} {xd : (Nat → Bool) × Option Nat} : ∀ (p : PV) (v : V), Rep G ρ H p v → Rep (G.wn xd) ρ H p v
  | .non, v, h => h
  | .bl b, v, h => h
  | .int i, v, h => h
  | .str x, v, h => h
  | .tup xs, v, h => by
    obtain ⟨a, vs, e, s, r⟩ := h
    exact ⟨a, vs, e, s, reps_wn xs vs r⟩
  | .lst xs, v, h => by
    obtain ⟨a, vs, e, n, n2, s, r⟩ := h
    exact ⟨a, vs, e, n, n2, s, reps_wn xs vs r⟩
  | .dct ks xs, v, h => by
    obtain ⟨a, vs, e, n, n2, z, s, r⟩ := h
    exact ⟨a, vs, e, n, n2, z, s, reps_wn xs vs r⟩
  | .sset xs, v, h => h
  | .raw a d fs, v, h => by
    obtain ⟨e, f, z⟩ := h
    refine ⟨e, f, fun dd hd => ?_⟩
    obtain ⟨n, vs, q, r⟩ := z dd hd
    exact ⟨n, vs, q, reps_wn fs vs r⟩
  | .vis xs, v, h => by
    obtain ⟨a, C, dx, vs, e, n, n2, c, z, s, r⟩ := h
    exact ⟨a, C, dx, vs, e, n, n2, c, z, s, reps_wn xs vs r⟩
  | .scr ns, v, h => h
  | .loc n, v, h => h
theorem reps_wn {G : Gx} {ρ : List Addr} {H : Hp} {xd : (Nat → Bool) × Option Nat} : ∀ (ps : List PV) (vs : List V), Reps G ρ H ps vs → Reps (G.wn xd) ρ H ps vs
  | [], vs, h => h
  | p :: ps, vs, h => by
    obtain ⟨v, r, e, h1, h2⟩ := h
    exact ⟨v, r, e, rep_wn p v h1, reps_wn ps r h2⟩
end
theorem objR_wn {G : Gx} {ρ : List Addr} {H : Hp} {xd : (Nat → Bool) × Option Nat} {p : PV} {a : Addr} (h : ObjR G ρ H p a) : ObjR (G.wn xd) ρ H p a := by
  cases p with
  | lst xs => obtain ⟨vs, h, r⟩ := h; exact ⟨vs, h, reps_wn _ _ r⟩
  | dct ks xs => obtain ⟨vs, z, h, r⟩ := h; exact ⟨vs, z, h, reps_wn _ _ r⟩
  | sset xs => exact h
  | _ => exact h.elim
theorem envR_wn {G : Gx} {ρ : List Addr} {H : Hp} {env : VEnv} {σ : L2.St} {xd : (Nat → Bool) × Option Nat} (h : EnvR G ρ H env σ) : EnvR (G.wn xd) ρ H env σ :=
  ⟨h.1, fun i p e => by obtain ⟨v, a, b⟩ := h.2 i p e; exact ⟨v, a, rep_wn p v b⟩⟩
mutual
theorem rep_wr {G : Gx} {ρ : List Addr} {H : Hp} {d : Addr} {o : HO} (hd : d ∈ ρ ∨ d ∈ G.hid) (mu : Mut (H d)) : ∀ (p : PV) (v : V), Rep G ρ H p v → Rep G ρ (upd H d o) p v
  | .non, v, h => h
  | .bl b, v, h => h
  | .int i, v, h => h
  | .str x, v, h => h
  | .tup xs, v, h => by
    obtain ⟨a, vs, e, s, r⟩ := h
    refine ⟨a, vs, e, ?_, reps_wr hd mu xs vs r⟩
    rcases s with (h | ⟨u, h⟩) | h
    · exact .inl (.inl (by rw [upd_ne (fun e => by rw [← e, h] at mu; exact mu)]; exact h))
    · exact .inl (.inr ⟨u, by rw [upd_ne (fun e => by rw [← e, h] at mu; exact mu)]; exact h⟩)
    · exact .inr h
  | .lst xs, v, h => by
    obtain ⟨a, vs, e, n, n2, s, r⟩ := h
    have ne : a ≠ d := fun e => by subst e; exact hd.elim n n2
    exact ⟨a, vs, e, n, n2, by rw [upd_ne ne]; exact s, reps_wr hd mu xs vs r⟩
  | .dct ks xs, v, h => by
    obtain ⟨a, vs, e, n, n2, z, s, r⟩ := h
    have ne : a ≠ d := fun e => by subst e; exact hd.elim n n2
    exact ⟨a, vs, e, n, n2, z, by rw [upd_ne ne]; exact s, reps_wr hd mu xs vs r⟩
  | .sset xs, v, h => by
    obtain ⟨a, e, n, n2, s⟩ := h
    have ne : a ≠ d := fun e => by subst e; exact hd.elim n n2
    exact ⟨a, e, n, n2, by rw [upd_ne ne]; exact s⟩
  | .raw a d fs, v, h => by
    obtain ⟨e, f, z⟩ := h
    refine ⟨e, f, fun dd hd2 => ?_⟩
    obtain ⟨n, vs, q, r⟩ := z dd hd2
    exact ⟨n, vs, by rw [upd_ne (fun e => by rw [← e, q] at mu; exact mu)]; exact q, reps_wr hd mu fs vs r⟩
  | .vis xs, v, h => by
    obtain ⟨a, C, dx, vs, e, n, n2, c, z, s, r⟩ := h
    have ne : a ≠ d := fun e => by subst e; exact hd.elim n n2
    exact ⟨a, C, dx, vs, e, n, n2, c, z, by rw [upd_ne ne]; exact s, reps_wr hd mu xs vs r⟩
  | .scr ns, v, h => by
    obtain ⟨a, e, s⟩ := h
    refine ⟨a, e, ?_⟩
    rcases s with ⟨h, n, n2⟩ | h
    · have ne : a ≠ d := fun e => by subst e; exact hd.elim n n2
      refine .inl ⟨?_, n, n2⟩
      rcases h with h | ⟨u, h⟩
      · exact .inl (by rw [upd_ne ne]; exact h)
      · exact .inr ⟨u, by rw [upd_ne ne]; exact h⟩
    · exact .inr h
  | .loc n, v, h => h
theorem reps_wr {G : Gx} {ρ : List Addr} {H : Hp} {d : Addr} {o : HO} (hd : d ∈ ρ ∨ d ∈ G.hid) (mu : Mut (H d)) : ∀ (ps : List PV) (vs : List V), Reps G ρ H ps vs → Reps G ρ (upd H d o) ps vs
  | [], vs, h => h
  | p :: ps, vs, h => by
    obtain ⟨v, r, e, h1, h2⟩ := h
    exact ⟨v, r, e, rep_wr hd mu p v h1, reps_wr hd mu ps r h2⟩
end
theorem nodup_ix' {N : List Addr} (hN : N.Nodup) {i j : Nat} {x : Addr} (a : N[i]? = some x) (b : N[j]? = some x) : i = j := by
  obtain ⟨h1, e1⟩ := List.getElem?_eq_some_iff.mp a
  obtain ⟨h2, e2⟩ := List.getElem?_eq_some_iff.mp b
  exact (List.getElem_inj hN).mp (e1.trans e2.symm)
theorem objR_wr {G : Gx} {ρ : List Addr} {H : Hp} {d : Addr} {o : HO} (hd : d ∈ ρ ∨ d ∈ G.hid) (mu : Mut (H d)) {p : PV} {a : Addr} (ne : a ≠ d) (h : ObjR G ρ H p a) : ObjR G ρ (upd H d o) p a := by
  cases p with
  | lst xs => obtain ⟨vs, h, r⟩ := h; exact ⟨vs, by rw [upd_ne ne]; exact h, reps_wr hd mu _ _ r⟩
  | dct ks xs => obtain ⟨vs, z, h, r⟩ := h; exact ⟨vs, z, by rw [upd_ne ne]; exact h, reps_wr hd mu _ _ r⟩
  | sset xs => exact (upd_ne ne).trans h
  | _ => exact h.elim
/-- the hidden object changes -/
theorem srel_hwr {G : Gx} {ρ : List Addr} {st : VSt} {H : Hp} {d : Addr} {o : HO} (hd : d ∈ G.hid) (mu : Mut (H d)) (s : SRel G ρ st H) : SRel G ρ st (upd H d o) :=
  ⟨s.nd, s.len, fun n p a e1 e2 => ⟨objR_wr (.inr hd) mu (fun e => (s.hid d hd).1 (by rw [← e]; exact List.mem_of_getElem? e2)) (s.obj n p a e1 e2).1, (s.obj n p a e1 e2).2⟩, fun b hb => by
    obtain ⟨h1, u, e⟩ := s.hid b hb
    refine ⟨h1, ?_⟩
    by_cases hbd : b = d
    · subst hbd; exact ⟨o, upd_same⟩
    · exact ⟨u, by rw [upd_ne hbd]; exact e⟩, s.ned⟩
theorem envR_wr {G : Gx} {ρ : List Addr} {H : Hp} {env : VEnv} {σ : L2.St} {d : Addr} {o : HO} (hd : d ∈ ρ ∨ d ∈ G.hid) (mu : Mut (H d)) (h : EnvR G ρ H env σ) : EnvR G ρ (upd H d o) env σ :=
  ⟨h.1, fun i p e => by obtain ⟨v, a, b⟩ := h.2 i p e; exact ⟨v, a, rep_wr hd mu p v b⟩⟩
/-- a boxed object changes -/
theorem srel_wrE {G : Gx} {ρ : List Addr} {st : VSt} {H : Hp} {n : Nat} {d : Addr} {o : HO} {q : PV} (hn : ρ[n]? = some d) (mu : Mut (H d)) (s : SRel G ρ st H) (new : ObjR G ρ (upd H d o) q d) (nl : okE G n q) : SRel G ρ (st.set n q) (upd H d o) := by
  have hd : d ∈ ρ := List.mem_of_getElem? hn
  have hlt : n < st.length := by rw [← s.len]; exact (List.getElem?_eq_some_iff.mp hn).1
  refine ⟨s.nd, by rw [List.length_set]; exact s.len, fun m p a e1 e2 => ?_, fun b hb => ?_, s.ned⟩
  · by_cases hm : n = m
    · subst hm
      rw [List.getElem?_set_self hlt] at e1
      cases e1
      rw [hn] at e2
      cases e2
      exact ⟨new, nl⟩
    · rw [List.getElem?_set_ne hm] at e1
      have ne : a ≠ d := fun e => by
        subst e
        exact hm (nodup_ix' s.nd hn e2)
      exact ⟨objR_wr (.inl hd) mu ne (s.obj m p a e1 e2).1, (s.obj m p a e1 e2).2⟩
  · obtain ⟨h1, u, e⟩ := s.hid b hb
    refine ⟨h1, u, ?_⟩
    rw [upd_ne (fun e' => h1 (by rw [e']; exact hd))]
    exact e
theorem srel_wr {G : Gx} {ρ : List Addr} {st : VSt} {H : Hp} {n : Nat} {d : Addr} {o : HO} {q : PV} (hn : ρ[n]? = some d) (mu : Mut (H d)) (s : SRel G ρ st H) (new : ObjR G ρ (upd H d o) q d) (nl : noLoc q = true) : SRel G ρ (st.set n q) (upd H d o) := srel_wrE hn mu s new (.inl nl)
theorem Later.wr {ρ : List Addr} {H : Hp} {d : Addr} {o : HO} (hd : d ∈ ρ) (mu : Mut (H d)) : Later ρ H ρ (upd H d o) where
  ext := ⟨[], by simp, by simp⟩
  keep := fun a u e n => by rw [upd_ne (fun z => n (by rw [z]; exact hd))]; exact e
  dom := fun a u e => by
    by_cases h : a = d
    · subst h; exact ⟨o, upd_same⟩
    · exact ⟨u, by rw [upd_ne h]; exact e⟩
  tup := fun a xs e => by rw [upd_ne (fun z => by rw [← z, e] at mu; exact mu)]; exact e
  frz := fun a u z e => by rw [upd_ne (fun z => by rw [← z, e] at mu; exact mu)]; exact e
end Vm
namespace Vm
open PySem PySem.Spec L2
mutual
theorem rep_pure {G G' : Gx} (hK : G.K = G'.K) {ρ ρ' : List Addr} {H : Hp} : ∀ (p : PV) (v : V), pureP p = true → Rep G ρ H p v → Rep G' ρ' H p v
  | .non, v, _, h => h
  | .bl b, v, _, h => h
  | .int i, v, _, h => h
  | .str x, v, _, h => h
  | .tup xs, v, f, h => by
    obtain ⟨a, vs, e, s, r⟩ := h
    exact ⟨a, vs, e, by rw [← hK]; exact s, reps_pure hK xs vs f r⟩
  | .lst _, _, f, _ => by cases f
  | .dct _ _, _, f, _ => by cases f
  | .sset _, _, f, _ => by cases f
  | .scr _, _, f, _ => by cases f
  | .raw _ _ _, _, f, _ => by cases f
  | .vis _, _, f, _ => by cases f
  | .loc _, _, f, _ => by cases f
theorem reps_pure {G G' : Gx} (hK : G.K = G'.K) {ρ ρ' : List Addr} {H : Hp} : ∀ (ps : List PV) (vs : List V), pures ps = true → Reps G ρ H ps vs → Reps G' ρ' H ps vs
  | [], vs, _, h => h
  | p :: ps, vs, f, h => by
    obtain ⟨v, r, e, h1, h2⟩ := h
    unfold pures at f
    rw [Bool.and_eq_true] at f
    exact ⟨v, r, e, rep_pure hK p v f.1 h1, reps_pure hK ps r f.2 h2⟩
end
theorem objR_pure {G : Gx} {ρ ρ' : List Addr} {H : Hp} {p : PV} {a : Addr} (f : noLoc p = true) (h : ObjR G ρ H p a) : ObjR G ρ' H p a := by
  cases p with
  | lst xs => obtain ⟨vs, h, r⟩ := h; exact ⟨vs, h, reps_pure rfl _ _ f r⟩
  | dct ks xs => obtain ⟨vs, z, h, r⟩ := h; exact ⟨vs, z, h, reps_pure rfl _ _ f r⟩
  | sset xs => exact h
  | _ => exact h.elim
/-- a boxed object as a value -/
theorem objR_rep {G : Gx} {ρ ρ' : List Addr} {H : Hp} {p : PV} {a : Addr} (f : noLoc p = true) (h : ObjR G ρ H p a) (n : a ∉ ρ') (n2 : a ∉ G.hid) : Rep G ρ' H p (.ref a) := by
  cases p with
  | lst xs => obtain ⟨vs, h, r⟩ := h; exact ⟨a, vs, rfl, n, n2, h, reps_pure rfl _ _ f r⟩
  | dct ks xs => obtain ⟨vs, z, h, r⟩ := h; exact ⟨a, vs, rfl, n, n2, z, h, reps_pure rfl _ _ f r⟩
  | sset xs => exact ⟨a, rfl, n, n2, h⟩
  | _ => exact h.elim
theorem rep_objR {G : Gx} {ρ ρ' : List Addr} {H : Hp} {p : PV} {v : V} (f : noLoc p = true) (h : Rep G ρ H p v) : ∃ a, v = .ref a ∧ a ∉ ρ ∧ a ∉ G.hid ∧ ObjR G ρ' H p a := by
  cases p with
  | lst xs => obtain ⟨a, vs, e, n, n2, h, r⟩ := h; exact ⟨a, e, n, n2, vs, h, reps_pure rfl _ _ f r⟩
  | dct ks xs => obtain ⟨a, vs, e, n, n2, z, h, r⟩ := h; exact ⟨a, e, n, n2, vs, z, h, reps_pure rfl _ _ f r⟩
  | sset xs => obtain ⟨a, e, n, n2, h⟩ := h; exact ⟨a, e, n, n2, h⟩
  | _ => cases f
theorem reps_fld {G G' : Gx} (hK : G.K = G'.K) {ρ ρ' : List Addr} {H : Hp} : ∀ (fs : List PV) (vs : List V), (∀ n a, PV.loc n ∈ fs → ρ[n]? = some a → ρ'[n]? = some a) → (fs.all fun f => pureP f || (match f with | .loc _ => true | _ => false)) = true → Reps G ρ H fs vs → Reps G' ρ' H fs vs
  | [], vs, _, _, h => h
  | f :: fs, vs, hl, ha, h => by
    obtain ⟨v, r, e, h1, h2⟩ := h
    rw [List.all_cons, Bool.and_eq_true] at ha
    refine ⟨v, r, e, ?_, reps_fld hK fs r (fun n a z => hl n a (List.mem_cons_of_mem _ z)) ha.2 h2⟩
    cases f with
    | loc n =>
      obtain ⟨a, e, hn⟩ := h1
      exact ⟨a, e, hl n a List.mem_cons_self hn⟩
    | _ => exact rep_pure hK _ v (by simpa using ha.1) h1
section
variable {G G' : Gx} (hK : G.K = G'.K) {ρ ρ' : List Addr} {H : Hp} (sub : ∀ a, a ∉ ρ → a ∉ G.hid → (∃ C dx vs, H a = some (.ins C dx vs)) → a ∉ ρ' ∧ a ∉ G'.hid)
include hK sub
theorem repV_move {p : PV} {v : V} (hp : nV p = true) (hl : ∀ fs n a, p = .vis fs → PV.loc n ∈ fs → ρ[n]? = some a → ρ'[n]? = some a) (h : Rep G ρ H p v) : Rep G' ρ' H p v := by
  cases p with
  | vis fs =>
    obtain ⟨a, C, dx, vs, e, n, n2, c, z, s, r⟩ := h
    obtain ⟨m, m2⟩ := sub a n n2 ⟨_, _, _, s⟩
    exact ⟨a, C, dx, vs, e, m, m2, by rw [← hK]; exact c, z, s, reps_fld hK fs vs (fun n a => hl fs n a rfl) hp r⟩
  | _ => exact rep_pure hK _ v hp h
theorem repsV_move : ∀ {ps : List PV} {vs : List V}, (∀ p ∈ ps, nV p = true) → (∀ p ∈ ps, ∀ fs n a, p = .vis fs → PV.loc n ∈ fs → ρ[n]? = some a → ρ'[n]? = some a) → Reps G ρ H ps vs → Reps G' ρ' H ps vs
  | [], vs, _, _, h => h
  | p :: ps, vs, hp, hl, h => by
    obtain ⟨v, r, e, h1, h2⟩ := h
    exact ⟨v, r, e, repV_move hK sub (hp p List.mem_cons_self) (hl p List.mem_cons_self) h1, repsV_move (fun q hq => hp q (List.mem_cons_of_mem _ hq)) (fun q hq => hl q (List.mem_cons_of_mem _ hq)) h2⟩
theorem objR_move {n : Nat} {p : PV} {a : Addr} (ok : okE G n p) (hl : ∀ xs, p = .lst xs → G.nst n = true → ∀ q ∈ xs, ∀ fs m b, q = .vis fs → PV.loc m ∈ fs → ρ[m]? = some b → ρ'[m]? = some b) (he : ∀ xs, p = .sset xs → SetO' G a xs = SetO' G' a xs) (h : ObjR G ρ H p a) : ObjR G' ρ' H p a := by
  rcases ok with f | ⟨xs, rfl, h1, h2, _⟩
  · cases p with
    | lst xs => obtain ⟨vs, h, r⟩ := h; exact ⟨vs, h, reps_pure hK _ _ f r⟩
    | dct ks xs => obtain ⟨vs, z, h, r⟩ := h; exact ⟨vs, z, h, reps_pure hK _ _ f r⟩
    | sset xs => exact (show H a = some (SetO' G' a xs) by rw [← he xs rfl]; exact h)
    | _ => exact h.elim
  · obtain ⟨vs, h, r⟩ := h
    exact ⟨vs, h, repsV_move hK sub h2 (hl xs rfl h1) r⟩
end
theorem objR_ins {G : Gx} {ρ : List Addr} {H : Hp} {p : PV} {a : Addr} (h : ObjR G ρ H p a) : ¬ ∃ C dx vs, H a = some (.ins C dx vs) := fun ⟨C, dx, vs, e⟩ => by
  cases p with
  | lst xs => obtain ⟨ws, h, r⟩ := h; rw [e] at h; cases h
  | dct ks xs => obtain ⟨ws, z, h, r⟩ := h; rw [e] at h; cases h
  | sset xs => rw [show H a = _ from h] at e; cases e
  | _ => exact h.elim
def boxV (p : PV) (st : VSt) : Res PV := if noLoc p = true then .ok (.loc st.length) (st ++ [p]) else .bad
def eBox (m : EM) : EM := fun env st => (m env st).bind boxV
theorem srel_box {G : Gx} {ρ : List Addr} {st : VSt} {H : Hp} {p : PV} {a : Addr} (s : SRel G ρ st H) (f : noLoc p = true) (n : a ∉ ρ) (n2 : a ∉ G.hid) (o : ObjR G ρ H p a) : SRel G (ρ ++ [a]) (st ++ [p]) H := by
  refine ⟨?_, by rw [List.length_append, List.length_append, s.len]; rfl, fun i q b e1 e2 => ?_, fun d hd => ?_, fun b hb => ⟨by rw [List.length_append]; exact Nat.le_succ_of_le (s.ned b hb).1, (s.ned b hb).2⟩⟩
  · rw [List.nodup_append]
    exact ⟨s.nd, by simp, fun x hx y hy => by rw [List.mem_singleton] at hy; subst hy; intro e; subst e; exact n hx⟩
  · by_cases hi : i < st.length
    · rw [List.getElem?_append_left hi] at e1
      rw [List.getElem?_append_left (by rw [s.len]; exact hi)] at e2
      obtain ⟨h1, h2⟩ := s.obj i q b e1 e2
      refine ⟨objR_move rfl (fun x hx hh hi => ⟨fun z => ?_, hh⟩) h2 (fun xs _ _ q _ fs m c _ _ e => by rw [List.getElem?_append_left (List.getElem?_eq_some_iff.mp e).1]; exact e) (fun _ _ => rfl) h1, h2⟩
      rcases List.mem_append.mp z with z | z
      · exact hx z
      · rw [List.mem_singleton] at z; subst z; exact objR_ins o hi
    · rw [List.getElem?_append_right (by omega)] at e1
      rw [List.getElem?_append_right (by rw [s.len]; omega), s.len] at e2
      have : i - st.length = 0 := by
        have := (List.getElem?_eq_some_iff.mp e1).1
        simp at this
        omega
      rw [this] at e1 e2
      simp at e1 e2
      subst e1 e2
      exact ⟨objR_pure f o, .inl f⟩
  · obtain ⟨h1, u, e⟩ := s.hid d hd
    refine ⟨fun z => ?_, u, e⟩
    rcases List.mem_append.mp z with z | z
    · exact h1 z
    · rw [List.mem_singleton] at z; subst z; exact n2 hd
section
variable {X : Cx} {W : XD} {fr : Bool} {e : Expr} {m : EM}
theorem box_rd {σ : L2.St} {H : Hp} {Q : VK} (h : cE X W false (eBox m) σ H Q) : cE X W true m σ H Q := by
  obtain ⟨hid, ρ, env, st, R, P⟩ := h
  refine ⟨hid, ρ, env, st, R, ?_⟩
  unfold eBox at P
  cases e : m env st with
  | bad => rw [e] at P; exact P
  | ex c fs s => rw [e] at P; exact P
  | ok p st1 =>
    rw [e] at P
    intro ρ1 H1 l s v rp f
    replace P : Post (gx X W hid) ρ H (boxV p st1) (kE (gx X W hid) H false Q) := P
    unfold boxV at P
    split at P
    · rename_i hz
      obtain ⟨a, rfl, n, n2, o⟩ := rep_objR (ρ' := ρ1) hz rp
      have ha := f rfl a rfl
      obtain ⟨δ, rfl, hδ⟩ := l.ext
      refine P (ρ ++ δ ++ [a]) H1 ⟨⟨δ ++ [a], by rw [List.append_assoc], fun q hq => ?_⟩, l.keep, l.dom, l.tup, l.frz⟩ (srel_box s hz n n2 o) (.ref a) ⟨a, rfl, ?_⟩ (fun z => nomatch z)
      · rcases List.mem_append.mp hq with z | z
        · exact hδ q z
        · rw [List.mem_singleton] at z; rw [z]; exact ha
      · rw [← s.len, List.getElem?_append_right (Nat.le_refl _)]
        simp
    · exact False.elim P
theorem ev_box (h : Ev X W true e m) : Ev X W false e (eBox m) := PE.anti h fun σ H Q => box_rd
end
inductive SR where
  | nx (env : VEnv) (st : VSt)
  | rt (p : PV) (st : VSt)
  | bk (env : VEnv) (st : VSt)
  | ct (env : VEnv) (st : VSt)
  | ex (c : Nat) (fs : List PV) (st : VSt)
  | bad
abbrev SM := VEnv → VSt → SR
def SR.bind (r : SR) (k : SM) (_ : Fx k := ⟨⟩) : SR := match r with
  | .nx e s => k e s
  | .rt p s => .rt p s
  | .bk e s => .bk e s
  | .ct e s => .ct e s
  | .ex c fs s => .ex c fs s
  | .bad => .bad
def Res.s {α : Type} (r : Res α) (k : α → VSt → SR) (_ : Fx k := ⟨⟩) : SR := match r with
  | .ok a st => k a st
  | .ex c fs st => .ex c fs st
  | .bad => .bad
def PostS (G : Gx) (ρ : List Addr) (H : Hp) (fr : Bool) (r : SR) (D : Ends) : Prop := match r with
  | .nx env' st' => ∀ ρ' H' σ', Later ρ H ρ' H' → Rel G ρ' env' st' σ' H' → D.nx σ' H'
  | .bk env' st' => ∀ ρ' H' σ', Later ρ H ρ' H' → Rel G ρ' env' st' σ' H' → D.bk σ' H'
  | .ct env' st' => ∀ ρ' H' σ', Later ρ H ρ' H' → Rel G ρ' env' st' σ' H' → D.ct σ' H'
  | .rt p st' => ∀ ρ' H' v, Later ρ H ρ' H' → SRel G ρ' st' H' → Rep G ρ' H' p v → (fr = true → (∃ n, p = .loc n) ∨ ∀ a, v = .ref a → H a = none) → D.rt v H'
  | .ex c fs st' => XPost G ρ H c fs st'
  | .bad => False
theorem PostS.move {G : Gx} {ρ ρ1 : List Addr} {H H1 : Hp} {fr : Bool} {r : SR} {D : Ends} (l : Later ρ H ρ1 H1) (h : PostS G ρ H fr r D) : PostS G ρ1 H1 fr r D := by
  cases r with
  | nx e s => exact fun ρ' H' σ' l' R => h ρ' H' σ' (l.trans l') R
  | bk e s => exact fun ρ' H' σ' l' R => h ρ' H' σ' (l.trans l') R
  | ct e s => exact fun ρ' H' σ' l' R => h ρ' H' σ' (l.trans l') R
  | rt p s => exact fun ρ' H' v l' S rp f => h ρ' H' v (l.trans l') S rp fun z => (f z).imp id fun g a ha => l.back (g a ha)
  | ex c fs s => exact XPost.move l h
  | bad => exact h
def cS (X : Cx) (W : XD) (fr : Bool) (m : SM) : TS := fun D σ H => ∃ hid ρ env st, Rel (gx X W hid) ρ env st σ H ∧ PostS (gx X W hid) ρ H fr (m env st) D
def EvS (X : Cx) (W : XD) (fr : Bool) (st : Stmt) (m : SM) : Prop := PS X st (cS X W fr m)
def EvSs (X : Cx) (W : XD) (fr : Bool) (st : List Stmt) (m : SM) : Prop := PSs X st (cS X W fr m)
theorem PS.anti {X : Cx} {e : Stmt} {t u : TS} (h : PS X e t) (k : ∀ D σ H, u D σ H → t D σ H) : PS X e u := ⟨fun pins s σ H D I w => h.run pins s σ H D I (k D σ H w)⟩
theorem PSs.anti {X : Cx} {e : List Stmt} {t u : TS} (h : PSs X e t) (k : ∀ D σ H, u D σ H → t D σ H) : PSs X e u := ⟨fun pins s σ H D I w => h.run pins s σ H D I (k D σ H w)⟩
section
variable {X : Cx} {W : XD} {hid : HD} {ρ : List Addr} {env : VEnv} {st : VSt} {σ : L2.St} {H : Hp} {fr : Bool} {D : Ends}
theorem PostS.ofRes {α : Type} {G : Gx} {r : Res α} {k : α → VSt → SR} (P : PostS G ρ H fr (r.s k) D) : Post G ρ H r (fun ρ1 st1 H1 a => PostS G ρ1 H1 fr (k a st1) D) := by
  cases r with
  | bad => exact P
  | ex c fs s => exact P
  | ok a st' => exact fun ρ1 H1 l s => PostS.move l P
theorem sE_use {f : Bool} {m : EM} {k : PV → VSt → SR} {Q : VK} (R : Rel (gx X W hid) ρ env st σ H) (P : PostS (gx X W hid) ρ H fr ((m env st).s k) D)
    (q : ∀ ρ1 st1 H1 p v, Later ρ H ρ1 H1 → Rel (gx X W hid) ρ1 env st1 σ H1 → Rep (gx X W hid) ρ1 H1 p v → (f = true → ∀ a, v = .ref a → H a = none) → PostS (gx X W hid) ρ1 H1 fr (k p st1) D → Q v H1) : cE X W f m σ H Q :=
  ⟨hid, ρ, env, st, R, P.ofRes.imp fun ρ1 st1 H1 p l s kk v rp f => q ρ1 st1 H1 p v l (R.later l s) rp f kk⟩
def onBS (k : Bool → VSt → SR) : PV → VSt → SR := fun p st => match p with
  | .bl b => k b st
  | _ => .bad
theorem sT_use {m : EM} {k : Bool → VSt → SR} {Q : Bool → Hp → Prop} (R : Rel (gx X W hid) ρ env st σ H) (P : PostS (gx X W hid) ρ H fr ((m env st).s (onBS k)) D)
    (q : ∀ ρ1 st1 H1 b, Later ρ H ρ1 H1 → Rel (gx X W hid) ρ1 env st1 σ H1 → PostS (gx X W hid) ρ1 H1 fr (k b st1) D → Q b H1) : cT X W m σ H Q :=
  ⟨hid, ρ, env, st, R, P.ofRes.imp fun ρ1 st1 H1 p l s kk => by
    cases p with
    | bl b => exact q ρ1 st1 H1 b l (R.later l s) kk
    | _ => exact False.elim kk⟩
theorem PostS.seq {G : Gx} {r : SR} {k : SM} {N : L2.St → Hp → Prop} (P : PostS G ρ H fr (r.bind k) D)
    (q : ∀ ρ1 env1 st1 σ1 H1, Later ρ H ρ1 H1 → Rel G ρ1 env1 st1 σ1 H1 → PostS G ρ1 H1 fr (k env1 st1) D → N σ1 H1) : PostS G ρ H fr r { D with nx := N } := by
  cases r with
  | nx e s => exact fun ρ1 H1 σ1 l R => q ρ1 e s σ1 H1 l R (PostS.move l P)
  | bk e s => exact P
  | ct e s => exact P
  | rt p s => exact P
  | ex c fs s => exact P
  | bad => exact P
end
def sNil : SM := fun env st => .nx env st
def sCons (a b : SM) : SM := fun env st => (a env st).bind b
def sSet (i : Nat) (a : EM) : SM := fun env st => (a env st).s fun p s1 => .nx (env.set i (some p)) s1
def sExpr (a : EM) : SM := fun env st => (a env st).s fun _ s1 => .nx env s1
def sRet (a : EM) : SM := fun env st => (a env st).s fun p s1 => .rt p s1
def sIf (c : EM) (a b : SM) : SM := fun env st => (c env st).s (onBS fun c s1 => if c = true then a env s1 else b env s1)
def sBreak : SM := fun env st => .bk env st
def sCont : SM := fun env st => .ct env st
section
variable {X : Cx} {W : XD} {fr f : Bool} {st : Stmt} {rest sa sb : List Stmt} {e c : Expr} {m me mc : EM} {ms mr a b : SM} {pos : Pos}
theorem evss_nil : EvSs X W fr [] sNil := PSs.anti pss_nil fun D σ H ⟨hid, ρ, env, st, R, P⟩ => P ρ H σ (Later.refl _ _) R
theorem evss_cons (h1 : EvS X W fr st ms) (h2 : EvSs X W fr rest mr) : EvSs X W fr (st :: rest) (sCons ms mr) :=
  PSs.anti (pss_cons h1 h2) fun D σ H ⟨hid, ρ, env, st, R, P⟩ => ⟨hid, ρ, env, st, R, P.seq fun ρ1 env1 st1 σ1 H1 l R1 P1 => ⟨hid, ρ1, env1, st1, R1, P1⟩⟩
theorem evs_cont : EvS X W fr (.Continue pos) sCont := PS.anti ps_continue fun D σ H ⟨hid, ρ, env, st, R, P⟩ => P ρ H σ (Later.refl _ _) R
theorem evs_set {i : Nat} {x : Str} {pos' : Pos} (nd : X.N.Nodup) (he : Ev X W f e me) (hx : Loc X.env.scope x := by first | exact Or.inl rfl | exact Or.inr rfl) (hi : X.N[i]? = some x := by rfl) (hs : swapsWith e (some (.Name x pos')) pos.line X.env = pure false := by rfl)
    (hf : X.fn x = true ∨ X.env.scope.names.lookup x = some .local := by first | exact .inl rfl | exact .inr rfl | assumption) : EvS X W fr (.Assign [.Name x pos'] e pos) (sSet i me) :=
  PS.anti (ps_set nd hi hx he hs hf) fun D σ H ⟨hid, ρ, env, st, R, P⟩ => sE_use R P fun ρ1 st1 H1 p v l R1 rp _ P1 => P1 ρ1 H1 _ (Later.refl _ _) ⟨R1.s, R1.e.set rp i⟩
theorem evs_expr (he : Ev X W f e me) (hs : swapsWith e none pos.line X.env = pure false := by rfl) : EvS X W fr (.Expr e pos) (sExpr me) :=
  PS.anti (ps_expr he hs) fun D σ H ⟨hid, ρ, env, st, R, P⟩ => sE_use R P fun ρ1 st1 H1 p v l R1 rp _ P1 => P1 ρ1 H1 _ (Later.refl _ _) R1
theorem evs_ret (he : Ev X W fr e me) : EvS X W fr (.Return (some e) pos) (sRet me) :=
  PS.anti (ps_ret he) fun D σ H ⟨hid, ρ, env, st, R, P⟩ => ⟨hid, ρ, env, st, R, by
    unfold sRet at P
    cases e : me env st with
    | bad => rw [e] at P; exact P
    | ex c fs s => rw [e] at P; exact P
    | ok q s =>
      rw [e] at P
      exact fun ρ1 H1 l S v rp f => P ρ1 H1 v l S rp fun z => .inr (f z)⟩
/-- a boxed list (dict, set) is handed back -/
def sRetB (a : EM) : SM := fun env st => (a env st).s fun p s1 => match p with
  | .loc n => .rt (.loc n) s1
  | _ => .bad
theorem evs_retB (he : Ev X W f e me) : EvS X W fr (.Return (some e) pos) (sRetB me) :=
  PS.anti (ps_ret he) fun D σ H ⟨hid, ρ, env, st, R, P⟩ => ⟨hid, ρ, env, st, R, by
    unfold sRetB at P
    cases e : me env st with
    | bad => rw [e] at P; exact P
    | ex c fs s => rw [e] at P; exact P
    | ok q s =>
      rw [e] at P
      cases q with
      | loc n => exact fun ρ1 H1 l S v rp f => P ρ1 H1 v l S rp fun z => .inl ⟨n, rfl⟩
      | _ => exact False.elim P⟩
theorem evs_if (hc : EvT X W c mc) (ha : EvSs X W fr sa a) (hb : EvSs X W fr sb b) : EvS X W fr (.If c sa sb pos) (sIf mc a b) :=
  PS.anti (ps_if hc ha hb) fun D σ H ⟨hid, ρ, env, st, R, P⟩ => sT_use R P fun ρ1 st1 H1 c l R1 P1 => by
    cases c with
    | true => exact ⟨hid, ρ1, env, st1, R1, P1⟩
    | false => exact ⟨hid, ρ1, env, st1, R1, P1⟩
end
abbrev GM := PV → VEnv → Option VEnv
def cG (X : Cx) (W : XD) (vs : List Nat) (g : GM) : TG := fun v σ H Q => ∃ hid ρ env st p env', Rel (gx X W hid) ρ env st σ H ∧ Rep (gx X W hid) ρ H p v ∧ g p env = some env' ∧ ∀ σ', EnvR (gx X W hid) ρ H env' σ' → L2.wipe σ' vs = L2.wipe σ vs → Q σ' H
def EvG (X : Cx) (W : XD) (vs : List Nat) (tg : Expr) (g : GM) : Prop := PG X tg (cG X W vs g)
theorem PG.anti {X : Cx} {e : Expr} {t u : TG} (h : PG X e t) (k : ∀ v σ H Q, u v σ H Q → t v σ H Q) : PG X e u := ⟨fun pins s σ H v w Q I r q => h.run pins s σ H v w Q I r (k v σ H Q q)⟩
abbrev GMs := List PV → VEnv → Option VEnv
def cGs (X : Cx) (W : XD) (vs : List Nat) (g : GMs) : TGs := fun v σ H Q => ∃ hid ρ env st p env', Rel (gx X W hid) ρ env st σ H ∧ Reps (gx X W hid) ρ H p v ∧ g p env = some env' ∧ ∀ σ', EnvR (gx X W hid) ρ H env' σ' → L2.wipe σ' vs = L2.wipe σ vs → Q σ' H
def EvGs (X : Cx) (W : XD) (vs : List Nat) (tg : List Expr) (g : GMs) : Prop := PGs X tg (cGs X W vs g)
theorem PGs.anti {X : Cx} {e : List Expr} {t u : TGs} (h : PGs X e t) (k : ∀ v σ H Q, u v σ H Q → t v σ H Q) : PGs X e u := ⟨fun pins s σ H v w Q I r q => h.run pins s σ H v w Q I r (k v σ H Q q)⟩
def gName (i : Nat) : GM := fun p env => some (env.set i (some p))
def gsNil : GMs := fun ps env => match ps with
  | [] => some env
  | _ => none
def gsCons (g : GM) (r : GMs) : GMs := fun ps env => match ps with
  | p :: ps => (g p env).bind (r ps)
  | [] => none
def gTup (n : Nat) (g : GMs) : GM := fun p env => match p with
  | .tup xs => if xs.length = n then g xs env else none
  | _ => none
theorem wipe_set {σ : L2.St} {i : Nat} {x : Option V} : ∀ {vs : List Nat}, i ∈ vs → L2.wipe (σ.set i x) vs = L2.wipe σ vs
  | [], h => by simp at h
  | v :: vs, h => by
    show (L2.wipe (σ.set i x) vs).set v none = (L2.wipe σ vs).set v none
    by_cases hv : i ∈ vs
    · rw [wipe_set hv]
    · have hvi : i = v := (List.mem_cons.mp h).resolve_right hv
      subst hvi
      have key : ∀ ws : List Nat, (L2.wipe (σ.set i x) ws).set i none = (L2.wipe σ ws).set i none := by
        intro ws
        induction ws with
        | nil => show (σ.set i x).set i none = σ.set i none; rw [List.set_set]
        | cons w ws ih =>
          show ((L2.wipe (σ.set i x) ws).set w none).set i none = ((L2.wipe σ ws).set w none).set i none
          by_cases hw : w = i
          · subst hw; rw [List.set_set, List.set_set, ih]
          · rw [List.set_comm _ _ hw, List.set_comm _ _ hw, ih]
      exact key vs
section
variable {X : Cx} {W : XD} {vs : List Nat} {pos : Pos}
theorem evg_name (nd : X.N.Nodup) {i : Nat} {x : Str} (hv : i ∈ vs := by decide) (hi : X.N[i]? = some x := by rfl) (hx : Loc X.env.scope x := by first | exact Or.inl rfl | exact Or.inr rfl)
    (hf : X.fn x = true ∨ X.env.scope.names.lookup x = some .local := by first | exact .inl rfl | exact .inr rfl | assumption) : EvG X W vs (.Name x pos) (gName i) :=
  PG.anti (pg_name nd hi hx hf) fun v σ H Q ⟨hid, ρ, env, st, p, env', R, rp, e, q⟩ => by
    cases e
    exact q _ (R.e.set rp i) (wipe_set hv)
theorem evgs_nil : EvGs X W vs [] gsNil := PGs.anti pgs_nil fun v σ H Q ⟨hid, ρ, env, st, p, env', R, rp, e, q⟩ => by
  unfold gsNil at e
  split at e
  · cases e
    exact ⟨rp, q σ R.e rfl⟩
  · cases e
theorem evgs_cons {e : Expr} {es : List Expr} {g : GM} {r : GMs} (h1 : EvG X W vs e g) (h2 : EvGs X W vs es r) (hs : (assignEach (e :: es) X.env).map (·.2) = assign e X.env :: (assignEach es X.env).map (·.2) := by rfl) : EvGs X W vs (e :: es) (gsCons g r) :=
  PGs.anti (pgs_cons h1 h2 hs) fun v σ H Q ⟨hid, ρ, env, st, p, env', R, rp, e, q⟩ => by
    unfold gsCons at e
    split at e
    · rename_i p ps
      obtain ⟨v, w, rfl, r1, r2⟩ := rp
      obtain ⟨env1, e1, e2⟩ := Option.bind_eq_some_iff.mp e
      exact ⟨v, w, rfl, hid, ρ, env, st, p, env1, R, r1, e1, fun σ1 E1 w1 => ⟨hid, ρ, env1, st, ps, env', ⟨R.s, E1⟩, r2, e2, fun σ2 E2 w2 => q σ2 E2 (w2.trans w1)⟩⟩
    · cases e
theorem evg_tup {es : List Expr} {k n : Nat} {g : GMs} (hc : X.calm = true) (h : EvGs X W vs es g) (hn : (assignEach es X.env).length = n := by rfl) (hst : (assignEach es X.env).findIdx? (·.1) = none := by rfl) : EvG X W vs (.Tuple es k pos) (gTup n g) :=
  PG.anti (pg_tup hc h hn hst) fun v σ H Q ⟨hid, ρ, env, st, p, env', R, rp, e, q⟩ => by
    unfold gTup at e
    split at e
    · rename_i xs
      split at e
      · rename_i hl
        obtain ⟨a, ws, rfl, s, r⟩ := rp
        exact ⟨a, ws, rfl, s, by rw [r.length]; exact hl, hid, ρ, env, st, xs, env', R, r, e, q⟩
      · cases e
    · cases e
def sAsg (g : GM) (a : EM) : SM := fun env st => (a env st).s fun p s1 => match g p env with
  | some env' => .nx env' s1
  | none => .bad
theorem evs_asg {fr f : Bool} {tg e : Expr} {me : EM} {g : GM} (he : Ev X W f e me) (hg : EvG X W vs tg g) (hs : swapsWithSole [tg] e pos.line X.env = pure false := by rfl) (hw : swappedStores [tg] e X.env = pure none := by rfl)
    (h1 : (assignEach [tg] X.env).map (·.2) = [assign tg X.env] := by rfl) : EvS X W fr (.Assign [tg] e pos) (sAsg g me) :=
  PS.anti (ps_asg he hg hs hw h1) fun D σ H ⟨hid, ρ, env, st, R, P⟩ => sE_use R P fun ρ1 st1 H1 p v l R1 rp _ P1 => by
    split at P1
    · rename_i env' e
      exact ⟨hid, ρ1, env, st1, p, env', R1, rp, e, fun σ' E' _ => P1 ρ1 H1 σ' (Later.refl _ _) ⟨R1.s, E'⟩⟩
    · exact False.elim P1
/-- name += e, of whole numbers -/
def vAddI (x y : PV) (st : VSt) : Res PV := match x, y with
  | .int i, .int j => .ok (.int (i + j)) st
  | _, _ => .bad
def sAug (i : Nat) (f : PV → PV → VSt → Res PV) (a : EM) : SM := fun env st => (eVar i env st).s fun x s0 => (a env s0).s fun y s1 => (f x y s1).s fun z s2 => .nx (env.set i (some z)) s2
theorem evs_augI {fr fa : Bool} {i : Nat} {x : Str} {e : Expr} {me : EM} {pos' : Pos} (nd : X.N.Nodup) (he : Ev X W fa e me) (hi : X.N[i]? = some x := by rfl) (hx : Loc X.env.scope x := by first | exact Or.inl rfl | exact Or.inr rfl)
    (hf : X.fn x = true ∨ X.env.scope.names.lookup x = some .local := by first | exact .inl rfl | exact .inr rfl | assumption) : EvS X W fr (.AugAssign (.Name x pos') .Add e pos) (sAug i vAddI me) :=
  PS.anti (ps_aug nd hi hx he ip_add hf) fun D σ H ⟨hid, ρ, env, st, R, P⟩ => by
    unfold sAug eVar at P
    split at P
    · rename_i p e
      obtain ⟨v, h1, h2⟩ := R.e.2 i p e
      refine ⟨v, h1, sE_use R P fun ρ1 st1 H1 q w l R1 rq _ P1 => ?_⟩
      replace h2 := Rep.later l _ _ h2
      unfold vAddI at P1
      split at P1
      · rename_i a b
        exact ⟨a, b, h2, rq, P1 ρ1 H1 _ (Later.refl _ _) ⟨R1.s, R1.e.set (show Rep (gx X W hid) ρ1 H1 (.int (a + b)) (.int (a + b)) from rfl) i⟩⟩
      · exact False.elim P1
    · exact False.elim P
end
end Vm
namespace Vm
open PySem PySem.Spec L2
/-- a turn: the heap as it was, or with one new object -/
structure Nxt (H H2 : Hp) : Prop where
  one : H2 = H ∨ ∃ p o, H p = none ∧ H2 = upd H p o
theorem Nxt.same (H : Hp) : Nxt H H := ⟨.inl rfl⟩
theorem Nxt.later {H H2 : Hp} (N : Nxt H H2) (ρ : List Addr) : Later ρ H ρ H2 := by
  rcases N.one with rfl | ⟨p, o, h, rfl⟩
  · exact Later.refl _ _
  · exact Later.new h
theorem Nxt.srel {G : Gx} {ρ : List Addr} {st : VSt} {H H2 : Hp} (N : Nxt H H2) (S : SRel G ρ st H) : SRel G ρ st H2 := by
  rcases N.one with rfl | ⟨p, o, h, rfl⟩
  · exact S
  · exact S.new h
theorem Nxt.keep {H H2 : Hp} (N : Nxt H H2) {d : Addr} {o : HO} (h : H d = some o) : H2 d = some o := by
  rcases N.one with rfl | ⟨p, u, hp, rfl⟩
  · exact h
  · rw [upd_ne (ne_of_none h hp)]; exact h
inductive IT where
  | seq (p : PV)
  | rng (lo : Int) (n : Nat)
  | enu (k : Int) (p : PV)
  | chr (z : Str)
def Itm (j : IT) (st : VSt) : Option (List PV) := match j with
  | .seq p => seqOf st p
  | .rng lo n => some ((List.range n).map fun (k : Nat) => .int (lo + (k : Int)))
  | .enu k p => (seqOf st p).map fun xs => xs.mapIdx fun i x => .tup [.int (k + (i : Int)), x]
  | .chr z => some (z.cps.toList.map fun c => .str ⟨#[c]⟩)
def RepJ (G : Gx) (ρ : List Addr) (H : Hp) (j : IT) (v : V) : Prop := match j with
  | .seq p => Rep G ρ H p v
  | .rng _ _ => True
  | .enu _ p => Rep G ρ H p v
  | .chr _ => True
theorem RepJ.later {G : Gx} {ρ ρ' : List Addr} {H H' : Hp} (l : Later ρ H ρ' H') {j : IT} {v : V} (h : RepJ G ρ H j v) : RepJ G ρ' H' j v := by
  cases j with
  | seq p => exact Rep.later l p v h
  | rng _ _ => trivial
  | enu k p => exact Rep.later l p v h
  | chr _ => trivial
def JOk (X : Cx) (W : XD) (j : IT) (v : V) (J : It) : Prop := ∀ (hid : HD) (ρ : List Addr) (st : VSt) (H : Hp), SRel (gx X W hid) ρ st H → RepJ (gx X W hid) ρ H j v → ∀ xs, Itm j st = some xs →
  (∀ i, xs.length ≤ i → J.stop i H) ∧ ∀ i y, xs[i]? = some y → J.go i H ∧ ∀ x H2, J.yld i H x H2 → Nxt H H2 ∧ Rep (gx X W hid) ρ H2 y x
abbrev IM := VEnv → VSt → Res IT
def cI (X : Cx) (W : XD) (m : IM) : TI := fun σ H R => ∃ hid ρ env st, Rel (gx X W hid) ρ env st σ H ∧ Post (gx X W hid) ρ H (m env st) (fun ρ' st' H' j => (Itm j st').isSome = true ∧ ∀ v, RepJ (gx X W hid) ρ' H' j v → ∀ J, JOk X W j v J → R J H')
def EvI (X : Cx) (W : XD) (tg iter : Expr) (m : IM) : Prop := PI X tg iter (cI X W m)
theorem PI.anti {X : Cx} {tg e : Expr} {t u : TI} (h : PI X tg e t) (k : ∀ σ H Q, u σ H Q → t σ H Q) : PI X tg e u := ⟨fun pins s σ H Q I w => h.run pins s σ H Q I (k σ H Q w)⟩
section
variable {X : Cx} {W : XD} {tg : Expr}
/-- a list or a tuple -/
theorem pi_seq {l : Expr} {tl : TE} (hl : PE X l tl) : PI X tg l (fun σ H R => tl σ H fun x H1 => ∃ a, x = .ref a ∧ (((∃ xs, SqL X.K H1 a xs) ∧ R (Itl X.K a) H1) ∨ ((∃ xs, SqT X.K H1 a xs) ∧ R (Itt X.K a) H1))) := by
  refine ⟨fun pins s σ H R I h => ?_⟩
  refine thn (hl.run pins s σ H _ I h) fun v s1 ⟨x, H1, I1, r1, q1⟩ => ?_
  obtain ⟨a, e, q⟩ := q1
  subst e
  cases r1
  rcases q with ⟨⟨xs, hq⟩, q⟩ | ⟨⟨xs, hq⟩, q⟩
  · obtain ⟨its, rv, p, hz⟩ := I1.list hq
    refine wpAny_pyIter_list p.isList ?_
    refine ⟨s1.heap.objs.size, [s1.heap.objs.size], _, _, H1, rfl, I1.kept (t' := s1.toks) fun b o e => Heap.get?_push_of_some _ e, turn_list a _, ⟨_, Heap.get?_push_size _ rfl, rfl, rfl⟩, fun b hb => ?_, q⟩
    have e : b = s1.heap.objs.size := by simpa using hb
    subst e
    exact I1.fpOk (Nat.le_refl _) (I1.hok.fresh (Nat.le_refl _))
  · obtain ⟨its, rv, p, hz⟩ := I1.tuple hq
    refine wpAny_pyIter_tuple (show s1.heap.IsTuple a its.toArray from p) ?_
    refine ⟨s1.heap.objs.size, [s1.heap.objs.size], _, _, H1, rfl, I1.kept (t' := s1.toks) fun b o e => Heap.get?_push_of_some _ e, turn_tuple a _, ⟨_, Heap.get?_push_size _ rfl, rfl, rfl⟩, fun b hb => ?_, q⟩
    have e : b = s1.heap.objs.size := by simpa using hb
    subst e
    exact I1.fpOk (Nat.le_refl _) (I1.hok.fresh (Nat.le_refl _))
def iSeq (a : EM) : IM := fun env st => (a env st).bind fun p s => if (seqOf s p).isSome = true then .ok (.seq p) s else .bad
theorem jok_l {p : PV} {a : Addr} (n : ∀ (hid : HD) (ρ : List Addr) (st : VSt) (H : Hp), SRel (gx X W hid) ρ st H → Rep (gx X W hid) ρ H p (.ref a) → ∀ xs, seqOf st p = some xs → ∃ vs, SqL X.K H a vs ∧ Reps (gx X W hid) ρ H xs vs) : JOk X W (.seq p) (.ref a) (Itl X.K a) := by
  intro hid ρ st H S r xs e
  obtain ⟨vs, h1, h2⟩ := n hid ρ st H S r xs e
  refine ⟨fun i hi => ⟨vs, h1, by rw [h2.length]; exact hi⟩, fun i y hy => ?_⟩
  obtain ⟨v, hv, rv⟩ := h2.get hy
  refine ⟨⟨vs, v, h1, hv⟩, fun x H2 h => ?_⟩
  obtain ⟨rfl, hx⟩ := h
  have hx := hx vs h1
  rw [hx] at hv
  cases hv
  exact ⟨Nxt.same _, rv⟩
theorem jok_t {p : PV} {a : Addr} (n : ∀ (hid : HD) (ρ : List Addr) (st : VSt) (H : Hp), SRel (gx X W hid) ρ st H → Rep (gx X W hid) ρ H p (.ref a) → ∀ xs, seqOf st p = some xs → ∃ vs, SqT X.K H a vs ∧ Reps (gx X W hid) ρ H xs vs) : JOk X W (.seq p) (.ref a) (Itt X.K a) := by
  intro hid ρ st H S r xs e
  obtain ⟨vs, h1, h2⟩ := n hid ρ st H S r xs e
  refine ⟨fun i hi => ⟨vs, h1, by rw [h2.length]; exact hi⟩, fun i y hy => ?_⟩
  obtain ⟨v, hv, rv⟩ := h2.get hy
  refine ⟨⟨vs, v, h1, hv⟩, fun x H2 h => ?_⟩
  obtain ⟨rfl, hx⟩ := h
  have hx := hx vs h1
  rw [hx] at hv
  cases hv
  exact ⟨Nxt.same _, rv⟩
theorem evi_seq {l : Expr} {m : EM} {f : Bool} (h : Ev X W f l m) : EvI X W tg l (iSeq m) :=
  PI.anti (pi_seq h) fun σ H R ⟨hid, ρ, env, st, Re, P⟩ => cE_use Re P fun ρ1 st1 H1 p v l R1 rp _ P1 => by
    split at P1
    · rename_i hz
      obtain ⟨xs, e⟩ := Option.isSome_iff_exists.mp hz
      have P2 := (P1.now R1.s).2 v rp
      by_cases ht : ∃ ys, p = .tup ys
      · obtain ⟨ys, rfl⟩ := ht
        obtain ⟨a, vs, rfl, s, r⟩ := rp
        refine ⟨a, rfl, .inr ⟨⟨vs, s⟩, P2 _ (jok_t fun hid ρ st H S r xs e => ?_)⟩⟩
        obtain ⟨b, ws, eb, s, r⟩ := r
        cases eb
        have e : some ys = some xs := e
        cases e
        exact ⟨ws, s, r⟩
      · obtain ⟨a, vs, rfl, s, r⟩ := rep_seq R1.s rp e
        have key : ∀ (hid : HD) (ρ : List Addr) (st : VSt) (H : Hp), SRel (gx X W hid) ρ st H → Rep (gx X W hid) ρ H p (.ref a) → ∀ xs, seqOf st p = some xs → ∃ vs, SqL X.K H a vs ∧ Reps (gx X W hid) ρ H xs vs := by
          intro hid ρ st H S r xs e
          unfold seqOf at e
          split at e
          · rename_i zs ez
            cases e
            obtain ⟨b, ws, eb, hb, rb⟩ := rep_lst S r ez
            cases eb
            exact ⟨ws, SqL.of hb, rb⟩
          · rename_i zs ez
            rcases rep_deref S r with ⟨n, b, _, _, o⟩ | ⟨_, z⟩
            · rw [ez] at o; exact False.elim o
            · rw [z] at ez; exact absurd ⟨zs, ez⟩ ht
          · cases e
        obtain ⟨ws, hs, _⟩ := key hid ρ1 st1 H1 R1.s rp xs e
        exact ⟨a, rfl, .inl ⟨⟨ws, hs⟩, P2 _ (jok_l key)⟩⟩
    · exact False.elim P1
def mkRng (lo hi : Int) (st : VSt) : Res IT := if -(2 ^ 62) ≤ lo ∧ lo < 2 ^ 62 ∧ -(2 ^ 62) ≤ hi ∧ hi < 2 ^ 62 then .ok (.rng lo (hi - lo).toNat) st else .bad
def iRng1' (a : EM) : IM := fun env st => (a env st).bind fun p s => match p with
  | .int n => mkRng 0 n s
  | _ => .bad
theorem jok_r {lo : Int} {n : Nat} {v : V} : JOk X W (.rng lo n) v (Itr lo n) := by
  intro hid ρ st H S _ xs e
  have e : some ((List.range n).map fun (k : Nat) => PV.int (lo + (k : Int))) = some xs := e
  cases e
  refine ⟨fun i hi => (by show n ≤ i; simpa using hi), fun i y hy => ?_⟩
  rw [List.getElem?_map] at hy
  obtain ⟨k, hk, rfl⟩ := Option.map_eq_some_iff.mp hy
  have hi : i < n := by
    have := (List.getElem?_eq_some_iff.mp hk).1
    simpa using this
  rw [List.getElem?_range hi] at hk
  cases hk
  refine ⟨hi, fun x H2 h => ?_⟩
  obtain ⟨rfl, rfl⟩ := h
  exact ⟨Nxt.same _, rfl⟩
theorem evi_rng1 {a : Expr} {m : EM} {f : Bool} {p pos : Pos} (ha : Ev X W f a m) (hm : X.mg "range" = none) (hg : Gl X "range" := by rfl) (hs : starEach [a] X.env = [(false, eval a X.env)] := by rfl) : EvI X W tg (.Call (.Name "range" p) [a] [] pos) (iRng1' m) :=
  PI.anti (pi_range1 hg hm (pa_cons ha pa_nil hs) hs) fun σ H R ⟨hid, ρ, env, st, Re, P⟩ => cE_use Re P fun ρ1 st1 H1 p v l R1 rp _ P1 => by
    cases p with
    | int n =>
      replace P1 : Post (gx X W hid) ρ1 H1 (mkRng 0 n st1) _ := P1
      unfold mkRng at P1
      split at P1
      · rename_i hz
        rw [Int.sub_zero] at P1
        refine ⟨n, by rw [show v = .int n from rp], hz.2.2.1, hz.2.2.2, (P1.now R1.s).2 v trivial _ jok_r⟩
      · exact False.elim P1
    | _ => exact False.elim P1
end
def forP (j : IT) (L : Nat) (B : PV → VEnv → VSt → SR) : Nat → VEnv → VSt → SR
  | 0, env, st => match Itm j st with
    | some xs => if xs.length = L then .nx env st else .bad
    | none => .bad
  | m + 1, env, st => match Itm j st with
    | some xs => if xs.length = L then match xs[L - (m + 1)]? with
        | some x => match B x env st with
          | .nx e s => forP j L B m e s
          | .ct e s => forP j L B m e s
          | .bk e s => .nx e s
          | .rt p s => .rt p s
          | .ex c fs s => .ex c fs s
          | .bad => .bad
        | none => .bad
      else .bad
    | none => .bad
def bodyP (g : GM) (body : SM) : PV → VEnv → VSt → SR := fun x e s => match g x e with
  | some e' => body e' s
  | none => .bad
def sFor (it : IM) (g : GM) (body : SM) : SM := fun env st => (it env st).s fun j s1 => match Itm j s1 with
  | some xs => forP j xs.length (bodyP g body) xs.length env s1
  | none => .bad
theorem evs_for {X : Cx} {W : XD} {fr : Bool} {vs : List Nat} {tg iter : Expr} {body : List Stmt} {it : IM} {g : GM} {mb : SM} {pos : Pos} (hp : PassesOwn (model X.prog X.w) X.A X.env X.xe) (hc : X.calm = true) (hi : EvI X W tg iter it) (hg : EvG X W vs tg g) (hb : EvSs X W fr body mb)
    (hs : ∀ x, foldedSetIterable iter X.env x = pure x := by intro _; rfl) : EvS X W fr (.For tg iter body [] pos) (sFor it g mb) :=
  PS.anti (ps_for hp hc hi hg hb hs) fun D σ H ⟨hid, ρ, env, st, R, P⟩ => by
    refine ⟨hid, ρ, env, st, R, (PostS.ofRes P).imp fun ρ1 st1 H1 j l1 S1 P1 => ⟨?_, fun v rj J hJ => ?_⟩⟩
    · cases e : Itm j st1 with
      | none => rw [e] at P1; exact False.elim P1
      | some xs => rfl
    · split at P1
      · rename_i xs ex
        have R1 := R.later l1 S1
        refine ⟨fun i m σ' H' => ∃ ρ' env' st', Later ρ1 H1 ρ' H' ∧ Rel (gx X W hid) ρ' env' st' σ' H' ∧ m + i = xs.length ∧ PostS (gx X W hid) ρ' H' fr (forP j xs.length (bodyP g mb) m env' st') D, ⟨xs.length, ρ1, env, st1, Later.refl _ _, R1, by omega, P1⟩, ?_⟩
        rintro i m σ' H' ⟨ρ', env', st', l, R', hm, P'⟩
        have rj' := rj.later l
        cases m with
        | zero =>
          unfold forP at P'
          split at P'
          · rename_i ys ey
            split at P'
            · rename_i hl
              obtain ⟨h1, _⟩ := hJ hid ρ' st' H' R'.s rj' ys ey
              exact .inl ⟨h1 i (by omega), P' ρ' H' σ' (Later.refl _ _) R'⟩
            · exact False.elim P'
          · exact False.elim P'
        | succ m =>
          unfold forP at P'
          split at P'
          · rename_i ys ey
            split at P'
            · rename_i hl
              obtain ⟨_, h2⟩ := hJ hid ρ' st' H' R'.s rj' ys ey
              have hi : i < ys.length := by omega
              obtain ⟨h3, h4⟩ := h2 i _ (List.getElem?_eq_getElem hi)
              have ei : xs.length - (m + 1) = i := by omega
              rw [ei] at P'
              rw [List.getElem?_eq_getElem hi] at P'
              refine .inr ⟨h3, fun σ2 H2 => ∃ ρ2 env2 st2, Later ρ1 H1 ρ2 H2 ∧ Rel (gx X W hid) ρ2 env2 st2 σ2 H2 ∧ PostS (gx X W hid) ρ2 H2 fr (forP j xs.length (bodyP g mb) m env2 st2) D, fun σ2 H2 ⟨ρ2, env2, st2, l2, R2, P2⟩ => ⟨m, by omega, ρ2, env2, st2, l2, R2, by omega, P2⟩, fun x H2 hy => ?_⟩
              obtain ⟨Nx, rw'⟩ := h4 x H2 hy
              replace l := l.trans (Nx.later ρ')
              replace R' : Rel (gx X W hid) ρ' env' st' σ' H2 := ⟨Nx.srel R'.s, R'.e.later (Nx.later ρ')⟩
              replace P' := PostS.move (Nx.later ρ') P'
              cases eg : g ys[i] env' with
              | none =>
                simp only [bodyP, eg] at P'
                exact False.elim P'
              | some env2 =>
                refine ⟨hid, ρ', env', st', ys[i], env2, R', rw', eg, fun σ3 E3 _ => ⟨hid, ρ', env2, st', ⟨R'.s, E3⟩, ?_⟩⟩
                simp only [bodyP, eg] at P'
                cases eb : mb env2 st' with
                | nx e s =>
                  rw [eb] at P'
                  exact fun ρ4 H4 σ4 l4 R4 => ⟨ρ4, e, s, l.trans l4, R4, PostS.move l4 P'⟩
                | ct e s =>
                  rw [eb] at P'
                  exact fun ρ4 H4 σ4 l4 R4 => ⟨ρ4, e, s, l.trans l4, R4, PostS.move l4 P'⟩
                | bk e s =>
                  rw [eb] at P'
                  exact P'
                | rt p s =>
                  rw [eb] at P'
                  exact P'
                | ex c fs s =>
                  rw [eb] at P'
                  exact P'
                | bad =>
                  rw [eb] at P'
                  exact P'
            · exact False.elim P'
          · exact False.elim P'
      · exact False.elim P1
end Vm
namespace Vm
open PySem PySem.Spec L2
def Res.nox {α : Type} : Res α → Res α
  | .ok a st => .ok a st
  | _ => .bad
def XD.no (W : XD) : XD := ⟨W.C, fun _ _ _ => False⟩
def compP (j : IT) (L : Nat) (f : PV → VSt → Res (Option PV)) : Nat → List PV → VSt → Res (List PV)
  | 0, acc, st => match Itm j st with
    | some xs => if xs.length = L then .ok acc st else .bad
    | none => .bad
  | m + 1, acc, st => match Itm j st with
    | some xs => if xs.length = L ∧ acc.length < 1000000 then match xs[L - (m + 1)]? with
        | some x => (f x st).bind fun o s => compP j L f m (match o with
          | some y => acc ++ [y]
          | none => acc) s
        | none => .bad
      else .bad
    | none => .bad
def compF (g : GM) (tst elt : EM) (vs : List Nat) (env : VEnv) : PV → VSt → Res (Option PV) := fun x s => match g x (wipeE env vs) with
  | some e => (tst e s).nox.bind (onB fun b s2 => if b = true then (elt e s2).nox.bind fun y s3 => .ok (some y) s3 else .ok none s2)
  | none => .bad
def tTrue : EM := fun _ st => .ok (.bl true) st
def eComp (it : IM) (g : GM) (tst elt : EM) (vs : List Nat) : EM := fun env st => (it env st).bind fun j s1 => match Itm j s1 with
  | some xs => (compP j xs.length (compF g tst elt vs env) xs.length [] s1).bind fun ys s => .ok (.lst ys) s
  | none => .bad
def EvTs (X : Cx) (W : XD) (ifs : List Expr) (m : EM) : Prop := PTs X ifs (cT X W m)
theorem PTs.anti {X : Cx} {e : List Expr} {t u : TT} (h : PTs X e t) (k : ∀ σ H Q, u σ H Q → t σ H Q) : PTs X e u := ⟨fun pins s σ H Q I w => h.run pins s σ H Q I (k σ H Q w)⟩
theorem evts_nil {X : Cx} {W : XD} : EvTs X W [] tTrue := PTs.anti pts_nil fun σ H Q ⟨hid, ρ, env, st, R, P⟩ => P.now R.s
theorem evts_one {X : Cx} {W : XD} {c : Expr} {m : EM} (h : EvT X W c m) : EvTs X W [c] m := pts_one h
theorem Res.bind_assoc {α β γ : Type} (r : Res α) (a : α → VSt → Res β) (b : β → VSt → Res γ) : (r.bind a).bind b = r.bind fun x s => (a x s).bind b := by cases r <;> rfl
theorem Post.bind0 {α β : Type} {G : Gx} {ρ : List Addr} {H : Hp} {r : Res α} {k : α → VSt → Res β} {K : KF β} (h : Post G ρ H (r.bind k) K) : Post G ρ H r (fun _ st1 _ a => Post G ρ H (k a st1) K) := by
  cases r with
  | bad => exact h
  | ex c fs s => exact h
  | ok a st' => exact fun _ _ _ _ => h
theorem Post.move {α : Type} {G : Gx} {ρ ρ1 : List Addr} {H H1 : Hp} {r : Res α} {K : KF α} (l : Later ρ H ρ1 H1) (h : Post G ρ H r K) : Post G ρ1 H1 r K := by
  cases r with
  | bad => exact h
  | ex c fs s => exact XPost.move l h
  | ok a st' => exact fun ρ' H' l' s => h ρ' H' (l.trans l') s
theorem Post.hide {α : Type} {G : Gx} {ρ : List Addr} {H : Hp} {d : Addr} {xd : XD} {r : Res α} {K : KF α} (h : Post G ρ H r.nox K) : Post (G.hide d xd) ρ H r K := by
  cases r with
  | bad => exact h
  | ex c fs s => exact h.elim
  | ok a st' => exact fun ρ' H' l' s => h ρ' H' l' (srel_show s)
theorem repJ_hide {G : Gx} {ρ : List Addr} {H : Hp} {d : Addr} {xd : XD} {o : HO} (hd : H d = none) {j : IT} {v : V} (h : RepJ G ρ H j v) : RepJ (G.hide d xd) ρ (upd H d o) j v := by
  cases j with
  | seq p => exact rep_hide hd p v h
  | rng _ _ => trivial
  | enu k p => exact rep_hide hd p v h
  | chr _ => trivial
theorem repJ_wr {G : Gx} {ρ : List Addr} {H : Hp} {d : Addr} {o : HO} (hd : d ∈ ρ ∨ d ∈ G.hid) (mu : Mut (H d)) {j : IT} {v : V} (h : RepJ G ρ H j v) : RepJ G ρ (upd H d o) j v := by
  cases j with
  | seq p => exact rep_wr hd mu p v h
  | rng _ _ => trivial
  | enu k p => exact rep_wr hd mu p v h
  | chr _ => trivial
theorem repJ_wx {G : Gx} {ρ : List Addr} {H : Hp} {xd : XD} {j : IT} {v : V} (h : RepJ G ρ H j v) : RepJ (G.wx xd) ρ H j v := by
  cases j with
  | seq p => exact rep_wx p v h
  | rng _ _ => trivial
  | enu k p => exact rep_wx p v h
  | chr _ => trivial
section
variable {X : Cx} {W : XD} {elt tg iter : Expr} {ifs : List Expr} {scope : Scope} {own : List (Str × Nat)} {pos : Pos} {it : IM} {g : GM} {mt me : EM} {fe : Bool}
/-- the reading of a comprehension, by the meanings of its parts -/
theorem lc_rd {vs : List Nat} {σ : L2.St} {H : Hp} {Q : VK} (h : cE X W true (eComp it g mt me vs) σ H Q) : tLc (cI X W it) (cG X W.no vs g) (cT X W.no mt) (cE X W.no fe me) vs σ H Q := by
  obtain ⟨hid, ρ, env, st, R, P⟩ := h
  refine ⟨hid, ρ, env, st, R, P.bind.imp fun ρ1 st1 H1 j l1 S1 P1 => ?_⟩
  have P1' : Post (gx X W hid) ρ1 H1 (match Itm j st1 with
      | some xs => (compP j xs.length (compF g mt me vs env) xs.length [] st1).bind fun ys s => .ok (.lst ys) s
      | none => .bad) (kE (gx X W hid) H true Q) := P1
  cases ex : Itm j st1 with
  | none => rw [ex] at P1'; exact False.elim P1'
  | some xs =>
    rw [ex] at P1'
    refine ⟨rfl, fun v rj J hJ D hD => ?_⟩
    have hDH : H D = none := l1.back hD
    have R1 := R.later l1 S1
    let G' := gx X W.no (hid.hd D)
    refine ⟨fun i m H' => ∃ ρ' st' acc accV, Later ρ1 H1 ρ' H' ∧ SRel G' ρ' st' H' ∧ EnvR G' ρ' H' (wipeE env vs) (L2.wipe σ vs) ∧ RepJ G' ρ' H' j v ∧ H' D = some (.lst accV) ∧ Reps G' ρ' H' acc accV ∧ m + i = xs.length ∧
        Post (gx X W hid) ρ1 H1 ((compP j xs.length (compF g mt me vs env) m acc st').bind fun ys s => .ok (.lst ys) s) (kE (gx X W hid) H true Q),
      ⟨xs.length, ρ1, st1, [], [], Later.new hD, srel_hide hD S1, (envR_hide hD R1.e).wipe vs, repJ_hide hD rj, upd_same, rfl, by omega, P1'⟩, ?_⟩
    rintro i m H' ⟨ρ', st', acc, accV, l, S', E', rj', hD', ra, hm, P'⟩
    have hDin : D ∈ ρ' ∨ D ∈ G'.hid := .inr List.mem_cons_self
    have nD : D ∉ ρ' := (S'.hid D List.mem_cons_self).1
    cases m with
    | zero =>
      unfold compP at P'
      split at P'
      · rename_i ys ey
        split at P'
        · rename_i hl
          obtain ⟨h1, _⟩ := hJ (hid.hd D) ρ' st' H' (srel_wx (xd := W) S') (repJ_wx (xd := W) rj') ys ey
          have l' : Later ρ H ρ' H' := l1.trans l
          have nh : D ∉ hid.l := (S1.freshH hD : D ∉ (gx X W hid).hid)
          refine .inl ⟨h1 i (by omega), ?_⟩
          have P2 : Post (gx X W hid) ρ1 H1 (.ok (.lst acc) st') (kE (gx X W hid) H true Q) := P'
          exact P2 ρ' H' l (srel_show (G := gx X W hid) S') (.ref D) ⟨D, accV, rfl, nD, nh, hD', reps_show (G := gx X W hid) acc accV ra⟩ fun _ a e => by cases e; exact hDH
        · exact False.elim P'
      · exact False.elim P'
    | succ m =>
      unfold compP at P'
      split at P'
      · rename_i ys ey
        split at P'
        · rename_i hl
          obtain ⟨_, h2⟩ := hJ (hid.hd D) ρ' st' H' (srel_wx (xd := W) S') (repJ_wx (xd := W) rj') ys ey
          have hi : i < ys.length := by omega
          obtain ⟨h3, h4⟩ := h2 i _ (List.getElem?_eq_getElem hi)
          have ei : xs.length - (m + 1) = i := by omega
          rw [ei, List.getElem?_eq_getElem hi] at P'
          refine .inr ⟨h3, fun H2 => ∃ ρ2 st2 acc2 accV2, Later ρ1 H1 ρ2 H2 ∧ SRel G' ρ2 st2 H2 ∧ EnvR G' ρ2 H2 (wipeE env vs) (L2.wipe σ vs) ∧ RepJ G' ρ2 H2 j v ∧ H2 D = some (.lst accV2) ∧ Reps G' ρ2 H2 acc2 accV2 ∧
              Post (gx X W hid) ρ1 H1 ((compP j xs.length (compF g mt me vs env) m acc2 st2).bind fun ys s => .ok (.lst ys) s) (kE (gx X W hid) H true Q),
            fun H2 ⟨ρ2, st2, acc2, accV2, a1, a2, a3, a4, a5, a6, a7⟩ => ⟨m, by omega, ρ2, st2, acc2, accV2, a1, a2, a3, a4, a5, a6, by omega, a7⟩, fun x H2 hy => ?_⟩
          obtain ⟨Nx, rw'⟩ := h4 x H2 hy
          replace l := l.trans (Nx.later ρ')
          replace S' := Nx.srel S'
          replace E' := E'.later (Nx.later ρ')
          replace rj' := rj'.later (Nx.later ρ')
          replace hD' := Nx.keep hD'
          replace ra := Reps.later (Nx.later ρ') _ _ ra
          replace P' : Post (gx X W hid) ρ1 H1 (((compF g mt me vs env ys[i] st').bind fun o s => compP j xs.length (compF g mt me vs env) m (match o with
            | some y => acc ++ [y]
            | none => acc) s).bind fun ys s => .ok (.lst ys) s) (kE (gx X W hid) H true Q) := P'
          cases eg : g ys[i] (wipeE env vs) with
          | none =>
            simp only [compF, eg] at P'
            exact False.elim P'
          | some env2 =>
            refine ⟨hid.hd D, ρ', wipeE env vs, st', ys[i], env2, ⟨S', E'⟩, rep_wx (xd := W.no) _ _ rw', eg, fun σ3 E3 hw3 => ⟨?_, hid.hd D, ρ', env2, st', ⟨S', E3⟩, ?_⟩⟩
            · rw [hw3]
              have idem : ∀ us : List Nat, ∀ τ : L2.St, L2.wipe (L2.wipe τ us) us = L2.wipe τ us := by
                intro us
                intro τ
                have h1 : ∀ (as bs : List Nat) (τ : L2.St), (∀ a ∈ as, a ∈ bs) → L2.wipe (L2.wipe τ as) bs = L2.wipe τ bs := by
                  intro as
                  induction as with
                  | nil => intro bs τ _; rfl
                  | cons a as ih =>
                    intro bs τ hs
                    show L2.wipe ((L2.wipe τ as).set a none) bs = _
                    rw [wipe_set (hs a List.mem_cons_self)]
                    exact ih bs τ fun b hb => hs b (List.mem_cons_of_mem _ hb)
                exact h1 us us τ fun a h => h
              exact idem vs σ
            · simp only [compF, eg] at P'
              rw [Res.bind_assoc, Res.bind_assoc] at P'
              refine (Post.hide (G := gx X W hid) (d := D) (xd := W.no) (Post.move l P'.bind0)).imp fun ρ4 st4 H4 b l4 S4 P4 => ?_
              have hD4 : H4 D = some (.lst accV) := l4.keep D _ hD' nD
              cases b with
              | bl b =>
                cases b with
                | false =>
                  exact ⟨ρ4, st4, acc, accV, l.trans l4, S4, E'.later l4, rj'.later l4, hD4, Reps.later l4 _ _ ra, P4⟩
                | true =>
                  refine ⟨hid.hd D, ρ4, env2, st4, ⟨S4, E3.later l4⟩, ?_⟩
                  replace P4 : Post (gx X W hid) ρ1 H1 (((me env2 st4).nox.bind fun y s3 => Res.ok (some y) s3).bind fun o s => (compP j xs.length (compF g mt me vs env) m (match o with
                    | some y => acc ++ [y]
                    | none => acc) s).bind fun ys s => .ok (.lst ys) s) (kE (gx X W hid) H true Q) := P4
                  rw [Res.bind_assoc] at P4
                  refine (Post.hide (G := gx X W hid) (d := D) (xd := W.no) (Post.move (l.trans l4) P4.bind0)).imp fun ρ5 st5 H5 y l5 S5 P6 u ry _ => ?_
                  have hD5 : H5 D = some (.lst accV) := l5.keep D _ hD4 (S4.hid D List.mem_cons_self).1
                  have ra5 := Reps.later (l4.trans l5) _ _ ra
                  have mu : Mut (H5 D) := by rw [hD5]; trivial
                  have hin : D ∈ ρ5 ∨ D ∈ (gx X W.no (hid.hd D)).hid := .inr List.mem_cons_self
                  refine ⟨accV, hD5, ?_, ρ5, st5, acc ++ [y], accV ++ [u], (l.trans (l4.trans l5)).mut hD, srel_hwr List.mem_cons_self mu S5, envR_wr hin mu (E'.later (l4.trans l5)), repJ_wr hin mu (rj'.later (l4.trans l5)), upd_same, reps_wr hin mu _ _ (ra5.append (Reps.one ry)), P6⟩
                  rw [ra.length]
                  exact szl _ (by omega)
              | _ => exact False.elim P4
        · exact False.elim P'
      · exact False.elim P'
theorem ev_comp (hc : X.calm = true) (nd : X.N.Nodup) (hi : EvI X W tg iter it) (ok : BlkOk X.N X.env.scope scope own)
    (hg : ∀ (s : Shared) (H : Hp) (C : Addr) (cl : List (Str × Addr)) (fp : List Addr), EvG (X.blk s H scope (compEnvC scope cl C X.env) fp) W.no (own.map Prod.snd) tg g)
    (ht : ∀ (s : Shared) (H : Hp) (C : Addr) (cl : List (Str × Addr)) (fp : List Addr), EvTs (X.blk s H scope (compEnvC scope cl C X.env) fp) W.no ifs mt)
    (he : ∀ (s : Shared) (H : Hp) (C : Addr) (cl : List (Str × Addr)) (fp : List Addr), Ev (X.blk s H scope (compEnvC scope cl C X.env) fp) W.no fe elt me) (hs : ∀ x, foldedSetIterable iter X.env x = pure x := by intro _; rfl) :
    Ev X W true (.ListComp elt [⟨tg, iter, ifs, 0⟩] scope pos) (eComp it g mt me (own.map Prod.snd)) :=
  PE.anti (pe_lc (g := cG X W.no (own.map Prod.snd) g) (tt := cT X W.no mt) (te := cE X W.no fe me) hc nd hi ok hg ht he hs) fun σ H Q h => lc_rd h
/-- name = [..], the name a local: m is the comprehension, or the comprehension boxed -/
theorem evs_setLc {fr f : Bool} {i : Nat} {y : Str} {py spos : Pos} {m : EM} (hc : X.calm = true) (nd : X.N.Nodup) (hm : ∀ σ H Q, cE X W f m σ H Q → cE X W true (eComp it g mt me (own.map Prod.snd)) σ H Q) (hi : EvI X W tg iter it) (ok : BlkOk X.N X.env.scope scope own)
    (hg : ∀ (s : Shared) (H : Hp) (C : Addr) (cl : List (Str × Addr)) (fp : List Addr), EvG (X.blk s H scope (compEnvC scope cl C X.env) fp) W.no (own.map Prod.snd) tg g)
    (ht : ∀ (s : Shared) (H : Hp) (C : Addr) (cl : List (Str × Addr)) (fp : List Addr), EvTs (X.blk s H scope (compEnvC scope cl C X.env) fp) W.no ifs mt)
    (he : ∀ (s : Shared) (H : Hp) (C : Addr) (cl : List (Str × Addr)) (fp : List Addr), Ev (X.blk s H scope (compEnvC scope cl C X.env) fp) W.no fe elt me)
    (hsw : swapsWith (.ListComp elt [⟨tg, iter, ifs, 0⟩] scope pos) (some (.Name y py)) spos.line X.env = pure true := by exact sw_true rfl rfl rfl (by decide +kernel)) (hy : X.N[i]? = some y := by rfl) (hyl : X.env.scope.names.lookup y = some .local := by rfl)
    (hs : ∀ x, foldedSetIterable iter X.env x = pure x := by intro _; rfl) : EvS X W fr (.Assign [.Name y py] (.ListComp elt [⟨tg, iter, ifs, 0⟩] scope pos) spos) (sSet i m) :=
  PS.anti (ps_setLc (g := cG X W.no (own.map Prod.snd) g) (tt := cT X W.no mt) (te := cE X W.no fe me) hc nd hy hyl hsw hi ok hg ht he hs) fun D σ H ⟨hid, ρ, env, st, R, P⟩ =>
    lc_rd (hm _ _ _ (sE_use (f := f) R P fun ρ1 st1 H1 p v l R1 rp _ P1 => P1 ρ1 H1 _ (Later.refl _ _) ⟨R1.s, R1.e.set rp i⟩))
theorem lc_plain {m : EM} : ∀ σ H Q, cE X W true m σ H Q → cE X W true m σ H Q := fun _ _ _ h => h
end
end Vm
namespace Vm
open PySem PySem.Spec L2
structure FnD where
  np : Nat
  ns : Nat
  fr : Bool
  body : Tbl → SM
def wt (k : Nat) (p : PV) : Bool := match p with
  | .loc n => decide (n < k)
  | _ => false
def endI (fr : Bool) (k : Nat) (r : SR) : Res PV := match r with
  | .rt p st' => if (fr && wt k p) = true then .bad else .ok (freeze st' k p) (st'.take k)
  | .nx _ st' => .ok .non (st'.take k)
  | .ex c fs st' => if pures fs = true then .ex c fs (st'.take k) else .bad
  | _ => .bad
def callI (d : FnD) (T : Tbl) (args : List PV) (st : VSt) : Res PV := if args.length = d.np then endI d.fr st.length (d.body T (args.map some ++ List.replicate (d.ns - d.np) none) st) else .bad
mutual
theorem rep_freeze {G : Gx} {ρ δ : List Addr} {st : VSt} {H : Hp} (S : SRel G (ρ ++ δ) st H) (hb : ∃ b, G.bb = some b ∧ b ≤ ρ.length) : ∀ (p : PV) (v : V), Rep G (ρ ++ δ) H p v → Rep G ρ H (freeze st ρ.length p) v
  | .non, v, h => h
  | .bl b, v, h => h
  | .int i, v, h => h
  | .str x, v, h => h
  | .tup xs, v, h => by
    obtain ⟨a, vs, e, s, r⟩ := h
    exact ⟨a, vs, e, s, reps_freeze S hb xs vs r⟩
  | .lst xs, v, h => by
    obtain ⟨a, vs, e, n, n2, s, r⟩ := h
    exact ⟨a, vs, e, fun z => n (List.mem_append_left _ z), n2, s, reps_freeze S hb xs vs r⟩
  | .dct ks xs, v, h => by
    obtain ⟨a, vs, e, n, n2, z, s, r⟩ := h
    exact ⟨a, vs, e, fun z => n (List.mem_append_left _ z), n2, z, s, reps_freeze S hb xs vs r⟩
  | .sset xs, v, h => by
    obtain ⟨a, e, n, n2, s⟩ := h
    exact ⟨a, e, fun z => n (List.mem_append_left _ z), n2, s⟩
  | .raw a d fs, v, h => by
    obtain ⟨e, f, z⟩ := h
    refine ⟨e, f, fun dd hd => ?_⟩
    obtain ⟨n, vs, q, r⟩ := z dd hd
    exact ⟨fun m => n (List.mem_append_left _ m), vs, q, reps_pure rfl fs vs f r⟩
  | .vis xs, v, h => by
    obtain ⟨a, C, dx, vs, e, n, n2, c, z, s, r⟩ := h
    exact ⟨a, C, dx, vs, e, fun z => n (List.mem_append_left _ z), n2, c, z, s, reps_freeze S hb xs vs r⟩
  | .scr ns, v, h => by
    obtain ⟨a, e, s⟩ := h
    refine ⟨a, e, ?_⟩
    rcases s with ⟨h, n, n2⟩ | h
    · exact .inl ⟨h, fun z => n (List.mem_append_left _ z), n2⟩
    · exact .inr h
  | .loc n, v, h => by
    obtain ⟨a, e, hn⟩ := h
    by_cases hlt : n < ρ.length
    · have : freeze st ρ.length (.loc n) = .loc n := by unfold freeze; rw [if_pos hlt]
      rw [this]
      exact ⟨a, e, by rw [List.getElem?_append_left hlt] at hn; exact hn⟩
    · have h1 : n < st.length := by rw [← S.len]; exact (List.getElem?_eq_some_iff.mp hn).1
      have : freeze st ρ.length (.loc n) = st[n] := by
        unfold freeze
        rw [if_neg hlt, List.getD_eq_getElem?_getD, List.getElem?_eq_getElem h1]; rfl
      rw [this, e]
      obtain ⟨o, f⟩ := S.obj n st[n] a (List.getElem?_eq_getElem h1) hn
      have f : noLoc st[n] = true := by
        rcases f with f | ⟨_, _, hs, _⟩
        · exact f
        · obtain ⟨b, e1, e2⟩ := hb
          have := (S.ned b e1).2 n hs
          omega
      refine objR_rep f o (fun z => ?_) fun z => (S.hid a z).1 (List.mem_of_getElem? hn)
      obtain ⟨i, hi, ei⟩ := List.getElem_of_mem z
      have e2 : (ρ ++ δ)[i]? = some a := by rw [List.getElem?_append_left hi, List.getElem?_eq_getElem hi, ei]
      have := nodup_ix' S.nd hn e2
      omega
theorem reps_freeze {G : Gx} {ρ δ : List Addr} {st : VSt} {H : Hp} (S : SRel G (ρ ++ δ) st H) (hb : ∃ b, G.bb = some b ∧ b ≤ ρ.length) : ∀ (ps : List PV) (vs : List V), Reps G (ρ ++ δ) H ps vs → Reps G ρ H (freezes st ρ.length ps) vs
  | [], vs, h => h
  | p :: ps, vs, h => by
    obtain ⟨v, r, e, h1, h2⟩ := h
    exact ⟨v, r, e, rep_freeze S hb p v h1, reps_freeze S hb ps r h2⟩
end
theorem srel_cut {G : Gx} {ρ δ : List Addr} {st : VSt} {H : Hp} (S : SRel G (ρ ++ δ) st H) (hb : ∃ b, G.bb = some b ∧ b ≤ ρ.length) : SRel G ρ (st.take ρ.length) H := by
  refine ⟨(List.nodup_append.mp S.nd).1, ?_, fun n p a e1 e2 => ?_, fun d hd => ?_, fun b e => ⟨by obtain ⟨b', e1, e2⟩ := hb; rw [e] at e1; cases e1; exact e2, (S.ned b e).2⟩⟩
  · have := S.len
    rw [List.length_append] at this
    rw [List.length_take]; omega
  · have hn := (List.getElem?_eq_some_iff.mp e2).1
    rw [List.getElem?_take_of_lt hn] at e1
    obtain ⟨o, f⟩ := S.obj n p a e1 (by rw [List.getElem?_append_left hn]; exact e2)
    refine ⟨objR_move rfl (fun x hx hh _ => ⟨fun z => hx (List.mem_append_left _ z), hh⟩) f (fun xs ex _ q hq fs m c eq hm e => ?_) (fun _ _ => rfl) o, f⟩
    subst ex eq
    obtain ⟨b, e1, e2⟩ := hb
    have hlt : m < ρ.length := by
      rcases f with f | ⟨ys, ey, _, _, hl⟩
      · exfalso
        have pm : ∀ l : List PV, pures l = true → ∀ y ∈ l, pureP y = true := fun l => by
          induction l with
          | nil => exact fun _ y hy => (by cases hy)
          | cons a l ih =>
            intro h y hy
            rw [pures, Bool.and_eq_true] at h
            rcases List.mem_cons.mp hy with rfl | hy
            · exact h.1
            · exact ih h.2 y hy
        have := pm xs f _ hq
        cases this
      · cases ey
        have := hl b e1 _ hq
        have := List.all_eq_true.mp this _ hm
        have := of_decide_eq_true this
        omega
    rwa [List.getElem?_append_left hlt] at e
  · obtain ⟨h1, u, e⟩ := S.hid d hd
    exact ⟨fun z => h1 (List.mem_append_left _ z), u, e⟩
theorem Later.cut {ρ ρ' : List Addr} {H H' : Hp} (l : Later ρ H ρ' H') : Later ρ H ρ H' := ⟨⟨[], by simp, by simp⟩, l.keep, l.dom, l.tup, l.frz⟩
/-- around a body nothing is let out -/
theorem takes0N {X : Cx} : L2N.Takes X (fun _ _ _ _ => False) := fun _ _ x => by
  obtain ⟨_, _, _, _, _, _, _, _, _, _, _, _, _, _, _, _, z⟩ := x
  exact z.elim
/-- a def that may raise -/
theorem okN {P : Program} {w : World} {K : PySem.W.Frag} {mg : Str → Option Value} {base : Heap} {x qual : Str} {st : Stmt} {f : Addr} {fd : FuncData} {N ps : List Str} {k : Nat} {sp : Sp} (F : Fun K x qual st f fd) (S : FnScope N ps (defScope st)) (len : ∀ vs H Q E, sp vs H Q E → vs.length = ps.length)
    (hbody : ∀ (cdv : Value) (A : Around) (outer : List Env) (s : Shared) (H : Hp) (vs : List V) (Q : VK) (E : XK), Room k (A.deeper (PyProof.Rows.envOfC qual (defScope st) s.heap.objs.size f cdv)) → sp vs H Q E →
      ∃ t, PSs (cxOf (L2N.CX P w) P w K mg base N qual (defScope st) f cdv A outer s H E) (defBody st) t ∧ t { nx := fun _ H' => Q .non H', rt := Q } (start N vs) H) : FnOk P w K mg base (L2N.CX P w) (k + 1) f fd ps sp := by
  obtain ⟨oc, od, kV, doc, pm, an, cdv, ct, osl, rfl, lk, hcd⟩ := F.ex
  exact fn_of lk hcd S len (hbody cdv)
def gk (P : Program) (w : World) (K : PySem.W.Frag) (hid : HD) (W : XD) : Gx := ⟨P, w, K, hid.l, W, hid.nst, hid.bb⟩
/-- what a call may know of the lists of visits -/
def HD.dn (h : HD) (m : Nat) : HD := match h.bb with
  | some _ => h
  | none => ⟨h.l, fun n => h.nst n && decide (n < m), some m⟩
theorem HD.dn_some (h : HD) (m : Nat) : ∃ b, (h.dn m).bb = some b := by
  unfold HD.dn
  split
  · exact ⟨_, by assumption⟩
  · exact ⟨m, rfl⟩
theorem reps_lcl {G : Gx} {ρ : List Addr} {H : Hp} : ∀ {xs : List PV} {vs : List V}, Reps G ρ H xs vs → ∀ x ∈ xs, lclV ρ.length x = true
  | [], _, _, x, hx => by cases hx
  | p :: ps, vs, h, x, hx => by
    obtain ⟨v, r, e, h1, h2⟩ := h
    rcases List.mem_cons.mp hx with rfl | hx
    · cases x with
      | vis fs =>
        obtain ⟨a, C, dx, ws, _, _, _, _, _, _, rf⟩ := h1
        refine List.all_eq_true.mpr fun f hf => ?_
        obtain ⟨i, hi⟩ := List.mem_iff_getElem?.mp hf
        obtain ⟨u, _, ru⟩ := rf.get hi
        cases f with
        | loc n =>
          obtain ⟨a, _, hn⟩ := ru
          exact decide_eq_true (List.getElem?_eq_some_iff.mp hn).1
        | _ => rfl
      | _ => rfl
    · exact reps_lcl h2 x hx
theorem srel_dn {X : Cx} {W : XD} {hid : HD} {ρ : List Addr} {st : VSt} {H : Hp} (S : SRel (gx X W hid) ρ st H) : SRel (gx X W (hid.dn ρ.length)) ρ st H := by
  unfold HD.dn
  split
  · exact S
  · rename_i e
    show SRel ((gx X W hid).wn (fun n => hid.nst n && decide (n < ρ.length), some ρ.length)) ρ st H
    refine ⟨S.nd, S.len, fun n p a e1 e2 => ?_, S.hid, fun b hb => ?_⟩
    · obtain ⟨o, f⟩ := S.obj n p a e1 e2
      refine ⟨objR_wn o, ?_⟩
      rcases f with f | ⟨xs, rfl, h1, h2, h3⟩
      · exact .inl f
      · have hlt : n < ρ.length := (List.getElem?_eq_some_iff.mp e2).1
        refine .inr ⟨xs, rfl, ?_, h2, fun b hb x hx => ?_⟩
        · show (hid.nst n && decide (n < ρ.length)) = true
          rw [show hid.nst n = true from h1, decide_eq_true hlt]; rfl
        · cases hb
          obtain ⟨vs, _, r⟩ := o
          exact reps_lcl r x hx
    · cases hb
      refine ⟨Nat.le_refl _, fun n hn => ?_⟩
      have hn : (hid.nst n && decide (n < ρ.length)) = true := hn
      rw [Bool.and_eq_true] at hn
      exact of_decide_eq_true hn.2
theorem srel_up {X : Cx} {W : XD} {hid : HD} {m : Nat} {ρ : List Addr} {st : VSt} {H : Hp} (S : SRel (gx X W (hid.dn m)) ρ st H) : SRel (gx X W hid) ρ st H := by
  unfold HD.dn at S
  split at S
  · exact S
  · rename_i e
    have S : SRel ((gx X W hid).wn (fun n => hid.nst n && decide (n < m), some m)) ρ st H := S
    refine ⟨S.nd, S.len, fun n p a e1 e2 => ?_, S.hid, fun b hb => ?_⟩
    · obtain ⟨o, f⟩ := S.obj n p a e1 e2
      refine ⟨objR_wn (xd := (hid.nst, hid.bb)) o, ?_⟩
      rcases f with f | ⟨xs, rfl, h1, h2, h3⟩
      · exact .inl f
      · refine .inr ⟨xs, rfl, ?_, h2, fun b hb => ?_⟩
        · have h1 : (hid.nst n && decide (n < m)) = true := h1
          rw [Bool.and_eq_true] at h1
          exact h1.1
        · rw [show (gx X W hid).bb = hid.bb from rfl, e] at hb; cases hb
    · rw [show (gx X W hid).bb = hid.bb from rfl, e] at hb; cases hb
theorem reps_dn {X : Cx} {W : XD} {hid : HD} {m : Nat} {ρ : List Addr} {H : Hp} {p : List PV} {v : List V} (h : Reps (gx X W hid) ρ H p v) : Reps (gx X W (hid.dn m)) ρ H p v := by
  unfold HD.dn
  split
  · exact h
  · exact reps_wn (xd := (fun n => hid.nst n && decide (n < m), some m)) p v h
theorem rep_up {X : Cx} {W : XD} {hid : HD} {m : Nat} {ρ : List Addr} {H : Hp} {p : PV} {v : V} (h : Rep (gx X W (hid.dn m)) ρ H p v) : Rep (gx X W hid) ρ H p v := by
  unfold HD.dn at h
  split at h
  · exact h
  · exact rep_wn (xd := (hid.nst, hid.bb)) p v h
theorem xcR_up {X : Cx} {W : XD} {hid : HD} {m : Nat} {ρ : List Addr} {H : Hp} {fs : List PV} {d : Option Addr} (h : XcR (gx X W (hid.dn m)) ρ H fs d) : XcR (gx X W hid) ρ H fs d := by
  unfold XcR at h ⊢
  split at h
  · exact h
  · obtain ⟨dd, v, w, e1, e2, r1, r2⟩ := h
    exact ⟨dd, v, w, e1, e2, rep_up r1, rep_up r2⟩
  · exact h.elim
theorem post_dn {X : Cx} {W : XD} {hid : HD} {m : Nat} {ρ : List Addr} {H H0 : Hp} {r : Res PV} {fr : Bool} {Q : VK} (P : Post (gx X W hid) ρ H r (kE (gx X W hid) H0 fr Q)) : Post (gx X W (hid.dn m)) ρ H r (kE (gx X W (hid.dn m)) H0 fr Q) := by
  cases r with
  | bad => exact P
  | ex c fs st' =>
    have e : (gx X W (hid.dn m)).X = (gx X W hid).X := rfl
    exact fun ρ' H' d l S x => P ρ' H' d l (srel_up S) (xcR_up x)
  | ok p st' => exact fun ρ' H' l S v rp f => P ρ' H' l (srel_up S) v (rep_up rp) f
theorem xcR_cut {G : Gx} {ρ ρ' : List Addr} {H : Hp} : ∀ {fs : List PV} {d : Option Addr}, pures fs = true → XcR G ρ H fs d → XcR G ρ' H fs d
  | [], _, _, h => h
  | [_], _, _, h => h.elim
  | _ :: _ :: _ :: _, _, _, h => h.elim
  | [p, q], d, z, h => by
    obtain ⟨dd, v, w, e, e2, h1, h2⟩ := h
    have z' : (pureP p && (pureP q && true)) = true := z
    rw [Bool.and_true, Bool.and_eq_true] at z'
    exact ⟨dd, v, w, e, e2, rep_pure rfl p v z'.1 h1, rep_pure rfl q w z'.2 h2⟩
/-- what a def promises: its meaning -/
def spI (P : Program) (w : World) (K : PySem.W.Frag) (C : Nat → Addr) (fr : Bool) (I : List PV → VSt → Res PV) : Sp := fun vs H Q E => ∃ hid ρ st args, (∃ b, hid.bb = some b) ∧ SRel (gk P w K hid ⟨C, E⟩) ρ st H ∧ Reps (gk P w K hid ⟨C, E⟩) ρ H args vs ∧ Post (gk P w K hid ⟨C, E⟩) ρ H (I args st) (kE (gk P w K hid ⟨C, E⟩) H fr Q)
structure Prg where
  nm : Nat → Str
  fr : Nat → Bool
  cnt : Nat
  xs : List (Str × Nat) := []
  dfl : Nat → List Int := fun _ => []
/-- an own class over ValueError without its own __init__ -/
structure ExF (K : PySem.W.Frag) (mg : Str → Option Value) (x : Str) (C : Addr) : Prop where
  g : mg x = some (.ref C)
  q : PySem.W.excIn K C [.type "ValueError", .type "Exception", .type "BaseException", .type "object"] "ValueError.__new__" = true
  k : PySem.W.keepIn K (.ref C) = true
  b : PySem.W.subIn K (.ref C) (.type "BaseException") = some true
  t : PySem.W.typeIn K (.ref C) = some (.type "type")
def FnAt (P : Program) (w : World) (K : PySem.W.Frag) (mg : Str → Option Value) (base : Heap) (C : Nat → Addr) (pr : Prg) (T : Tbl) (n : Nat) : Prop := ∀ i, i < pr.cnt → ∃ f fd ps, mg (pr.nm i) = some (.ref f) ∧ PySem.W.keepIn K (.ref f) = true ∧ (Binds K fd ps [] ∧ (pr.dfl i = [] ∨ ∃ ds, Vals ((pr.dfl i).map V.int) ds ∧ Binds K fd ps ds)) ∧
  FnOk P w K mg base (L2N.CX P w) (n + 2) f fd ps (spI P w K C (pr.fr i) (T i))
structure Cok (X : Cx) (W : XD) (pr : Prg) (T : Tbl) (n : Nat) (bs : List Str) (cs : List (Str × Int)) : Prop where
  calm : X.calm = true
  nd : X.N.Nodup
  room : Room (n + 2) X.A
  fns : FnAt X.prog X.w X.K X.mg X.base W.C pr T n
  blt : ∀ x ∈ bs, X.mg x = none
  cst : ∀ p ∈ cs, ∃ u, X.mg p.1 = some u ∧ RelV (.int p.2) u
  tk : L2N.Takes X (fun cls d _ H => W.E cls d H)
  po : PassesOwn (model X.prog X.w) X.A X.env X.xe
  exc : ∀ p ∈ pr.xs, ExF X.K X.mg p.1 (W.C p.2)
section
variable {X : Cx} {W : XD} {pr : Prg} {T : Tbl} {n : Nat} {bs : List Str} {cs : List (Str × Int)}
theorem Cok.blk (c : Cok X W pr T n bs cs) (s : Shared) (H : Hp) (scope : Scope) (cenv : Env) (fp : List Addr) : Cok (X.blk s H scope cenv fp) W.no pr T n bs cs := ⟨c.calm, c.nd, c.room, c.fns, c.blt, c.cst, takes0N, PassesOwn.never, c.exc⟩
theorem Cok.u (c : Cok X W pr T n bs cs) : X.A.units + 64 < cLine := c.room.units
variable {e : Expr} {es : List Expr} {m : AM} {p pos : Pos} {x : Str}
theorem ev_call (c : Cok X W pr T n bs cs) (i : Nat) (ha : EvA X W (e :: es) m) (hi : i < pr.cnt := by decide) (hx : pr.nm i = x := by rfl) (hg : Gl X x := by rfl) (hdb : (x == ("__debug__" : Str)) = false := by decide)
    (he : starEach (e :: es) X.env = (false, eval e X.env) :: starEach es X.env := by rfl) (hpl : (backTo pos (starEach es X.env)).any (·.1) = false := by rfl) : Ev X W (pr.fr i) (.Call (.Name x p) (e :: es) [] pos) (eApp (T i) m) := by
  obtain ⟨f, fd, ps, hm, hk, hb, F⟩ := c.fns i hi
  rw [hx] at hm
  refine PE.anti (pe_call F c.room hg hm hk hb.1 .nil (L2N.passes_call c.tk fun _ _ _ _ h => h) ha hdb he hpl) fun σ H Q ⟨hid, ρ, env, st, R, P⟩ => cA_use R P fun ρ1 st1 H1 args vs l R1 ra P1 => ?_
  exact ⟨hid.dn ρ1.length, ρ1, st1, args, hid.dn_some _, srel_dn R1.s, by rw [List.append_nil]; exact reps_dn ra, post_dn (kE.back l P1)⟩
end
section
variable {P : Program} {w : World} {K : PySem.W.Frag} {mg : Str → Option Value} {base : Heap}
theorem envR_start {G : Gx} {ρ : List Addr} {H : Hp} {N : List Str} {args : List PV} {vs : List V} {np ns : Nat} (r : Reps G ρ H args vs) (hn : args.length = np) (hs : ns = N.length) : EnvR G ρ H (args.map some ++ List.replicate (ns - np) none) (L2.start N vs) := by
  have hl := r.length
  subst hn hs
  unfold L2.start
  refine ⟨by simp [hl], fun i p e => ?_⟩
  by_cases hi : i < args.length
  · rw [List.getElem?_append_left (by simpa using hi), List.getElem?_map] at e
    cases q : args[i]? with
    | none => rw [q] at e; cases e
    | some x =>
      rw [q] at e
      cases e
      obtain ⟨v, h1, h2⟩ := r.get q
      exact ⟨v, by rw [List.getElem?_append_left (by simpa [hl] using hi), List.getElem?_map, h1]; rfl, h2⟩
  · rw [List.getElem?_append_right (by simpa using hi)] at e
    have := List.mem_of_getElem? e
    rw [List.mem_replicate] at this
    cases this.2
theorem spI_len {C : Nat → Addr} {fr : Bool} {d : FnD} {T : Tbl} {vs : List V} {H : Hp} {Q : VK} {E : XK} (h : spI P w K C fr (callI d T) vs H Q E) : vs.length = d.np := by
  obtain ⟨hid, ρ, st, args, _, _, r, P⟩ := h
  rw [r.length]
  unfold callI at P
  split at P
  · assumption
  · exact False.elim P
/-- what the caller wishes, at the body's start -/
theorem spI_run {C : Nat → Addr} {d : FnD} {T : Tbl} {N : List Str} {vs : List V} {H : Hp} {Q : VK} {E : XK} {X : Cx} (e1 : X.prog = P) (e2 : X.w = w) (e3 : X.K = K) (hns : d.ns = N.length) (h : spI P w K C d.fr (callI d T) vs H Q E) :
    cS X ⟨C, E⟩ d.fr (d.body T) { nx := fun _ H' => Q .non H', rt := Q } (start N vs) H := by
  subst e1 e2 e3
  obtain ⟨hid, ρ, st0, args, ⟨b0, hb0⟩, S0, r, P0⟩ := h
  have hb : ∃ b, (gk X.prog X.w X.K hid ⟨C, E⟩).bb = some b ∧ b ≤ ρ.length := ⟨b0, hb0, (S0.ned b0 hb0).1⟩
  have hl : args.length = d.np := by
    unfold callI at P0
    split at P0
    · assumption
    · exact False.elim P0
  refine ⟨hid, ρ, _, st0, ⟨S0, envR_start r hl hns⟩, ?_⟩
  unfold callI at P0
  rw [if_pos hl] at P0
  have hk : st0.length = ρ.length := S0.len.symm
  rw [hk] at P0
  generalize d.body T (args.map some ++ List.replicate (d.ns - d.np) none) st0 = r0 at P0
  cases r0 with
  | bad => exact False.elim P0
  | bk _ _ => exact False.elim P0
  | ct _ _ => exact False.elim P0
  | ex c fs st' =>
    replace P0 : Post (gk X.prog X.w X.K hid ⟨C, E⟩) ρ H (if pures fs = true then .ex c fs (st'.take ρ.length) else .bad) (kE (gk X.prog X.w X.K hid ⟨C, E⟩) H d.fr Q) := P0
    split at P0
    · rename_i hz
      intro ρ' H' dd l S' xr
      obtain ⟨δ, rfl, _⟩ := l.ext
      exact P0 ρ H' dd l.cut (srel_cut S' hb) (xcR_cut hz xr)
    · exact False.elim P0
  | nx env' st' =>
    intro ρ' H' σ' l R'
    obtain ⟨δ, rfl, _⟩ := l.ext
    exact P0 ρ H' l.cut (srel_cut R'.s hb) .non rfl fun _ a e => nomatch e
  | rt p st' =>
    intro ρ' H' v l S' rp f
    obtain ⟨δ, rfl, hδ⟩ := l.ext
    replace S' : SRel (gk X.prog X.w X.K hid ⟨C, E⟩) (ρ ++ δ) st' H' := S'
    replace rp : Rep (gk X.prog X.w X.K hid ⟨C, E⟩) (ρ ++ δ) H' p v := rp
    replace P0 : Post (gk X.prog X.w X.K hid ⟨C, E⟩) ρ H (if (d.fr && wt ρ.length p) = true then .bad else .ok (freeze st' ρ.length p) (st'.take ρ.length)) (kE (gk X.prog X.w X.K hid ⟨C, E⟩) H d.fr Q) := P0
    split at P0
    · exact False.elim P0
    · rename_i hz
      refine P0 ρ H' l.cut (srel_cut S' hb) v (rep_freeze S' hb p v rp) fun hf a ea => ?_
      rcases f hf with ⟨m, rfl⟩ | g
      · rw [hf] at hz
        have hm : ¬ m < ρ.length := fun z => hz (by show (true && decide (m < ρ.length)) = true; simp [z])
        obtain ⟨b, eb, hb⟩ := rp
        rw [ea] at eb
        cases eb
        rw [List.getElem?_append_right (by omega)] at hb
        exact hδ _ (List.mem_of_getElem? hb)
      · exact g a ea
theorem fn_ok {x qual : Str} {st : Stmt} {f : Addr} {fd : FuncData} {N ps : List Str} {n : Nat} {d : FnD} {T : Tbl} {C : Nat → Addr} (F : Fun K x qual st f fd) (S : FnScope N ps (defScope st)) (hnp : d.np = ps.length) (hns : d.ns = N.length)
    (hb : ∀ (cdv : Value) (A : Around) (outer : List Env) (s : Shared) (H : Hp) (E : XK), Room n (A.deeper (PyProof.Rows.envOfC qual (defScope st) s.heap.objs.size f cdv)) → EvSs (cxOf (L2N.CX P w) P w K mg base N qual (defScope st) f cdv A outer s H E) ⟨C, E⟩ d.fr (defBody st) (d.body T)) :
    FnOk P w K mg base (L2N.CX P w) (n + 1) f fd ps (spI P w K C d.fr (callI d T)) :=
  okN F S (fun vs H Q E h => by rw [spI_len h, hnp]) fun cdv A outer s H vs Q E hr h => ⟨_, hb cdv A outer s H E hr, spI_run rfl rfl rfl hns h⟩
theorem fn_zero {f : Addr} {fd : FuncData} {ps : List Str} {fr : Bool} {C : Nat → Addr} : FnOk P w K mg base (L2N.CX P w) 0 f fd ps (spI P w K C fr fun _ _ => .bad) :=
  ⟨fun vs H Q E ⟨_, _, _, _, _, _, _, h⟩ => False.elim h, fun A outer s H args us vs Q E _ _ _ _ ⟨_, _, _, _, _, _, _, h⟩ => False.elim h⟩
/-- all defs, by levels -/
def Fm (D : Nat → FnD) : Nat → Tbl
  | 0 => fun _ _ _ => .bad
  | n + 1 => fun i => callI (D i) (Fm D n)
theorem all_fn {pr : Prg} {D : Nat → FnD} {C : Nat → Addr} (h : ∀ i, i < pr.cnt → ∃ f fd ps, mg (pr.nm i) = some (.ref f) ∧ PySem.W.keepIn K (.ref f) = true ∧ (Binds K fd ps [] ∧ (pr.dfl i = [] ∨ ∃ ds, Vals ((pr.dfl i).map V.int) ds ∧ Binds K fd ps ds)) ∧
    ∀ n T, FnAt P w K mg base C pr T n → FnOk P w K mg base (L2N.CX P w) (n + 3) f fd ps (spI P w K C (pr.fr i) (callI (D i) T))) : ∀ n, FnAt P w K mg base C pr (Fm D n) n
  | 0 => fun i hi => by
    obtain ⟨f, fd, ps, h1, h2, h3, _⟩ := h i hi
    exact ⟨f, fd, ps, h1, h2, h3, fn_zero.mono (by decide)⟩
  | n + 1 => fun i hi => by
    obtain ⟨f, fd, ps, h1, h2, h3, h4⟩ := h i hi
    exact ⟨f, fd, ps, h1, h2, h3, h4 n _ (all_fn h n)⟩
end
def spLaw (K : PySem.W.Frag) : Sp := fun vs H Q _ => ∃ (a : Addr) (ns : List Int), vs = [.ref a] ∧ SqL K H a (ns.map V.int) ∧ ns.length ≤ 63 ∧ ∀ H', Q (.bl true) H'
theorem law_ok {P : Program} {w : World} {K : PySem.W.Frag} {C : Nat → Addr} {I : List PV → VSt → Res PV} {fr : Bool} (h : ∀ ns : List Int, ns.length ≤ 63 → ∃ st, I [.scr ns] [] = .ok (.bl true) st) : ∀ vs H Q E, spLaw K vs H Q E → spI P w K C fr I vs H Q E0 := by
  rintro vs H Q E ⟨a, ns, rfl, hS, hl, q⟩
  obtain ⟨st, e⟩ := h ns hl
  refine ⟨⟨[], fun _ => false, some 0⟩, [], [], [.scr ns], ⟨0, rfl⟩, ⟨List.nodup_nil, rfl, fun n p a e => by simp at e, fun d hd => (by cases hd), fun b hb => ⟨by cases hb; exact Nat.le_refl _, fun n hn => (by cases hn)⟩⟩, ⟨.ref a, [], rfl, ⟨a, rfl, ?_⟩, rfl⟩, ?_⟩
  · rcases hS with h | h
    · exact .inl ⟨h, by simp, by intro z; cases z⟩
    · exact .inr h
  · rw [e]
    intro ρ' H' l S v rv _
    obtain rfl : v = .bl true := rv
    exact q H'
/-- nothing leaves the law -/
theorem fn_cx0 {P : Program} {w : World} {K : PySem.W.Frag} {mg : Str → Option Value} {base : Heap} {n : Nat} {f : Addr} {fd : FuncData} {ps : List Str} {sp sp' : Sp} (F : FnOk P w K mg base (L2N.CX P w) n f fd ps sp) (h : ∀ vs H Q E, sp' vs H Q E → sp vs H Q E0) : FnOk P w K mg base CX0 n f fd ps sp' :=
  ⟨fun vs H Q E z => F.len _ _ _ _ (h _ _ _ _ z), fun A outer s H args us vs Q E hr e0 b r z => codeAny_mono (F.run A outer s H args us vs Q E0 hr e0 b r (h _ _ _ _ z)) fun q s' hq => by
    cases q with
    | error e =>
      obtain ⟨_, _, _, _, _, _, _, _, _, _, _, _, z⟩ := (show L2N.CX P w outer H s E0 e s' from hq)
      exact z.elim
    | ok fl => cases fl <;> exact hq⟩
def sApp (l a : EM) : SM := fun env st => (l env st).s fun x s1 => match x with
  | .loc n => match deref s1 (.loc n) with
    | .lst _ => (a env s1).s fun y s2 => match deref s2 (.loc n) with
      | .lst xs => if xs.length < 1000000 ∧ pureP y = true then .nx env (s2.set n (.lst (xs ++ [y]))) else .bad
      | _ => .bad
    | _ => .bad
  | _ => .bad
theorem pures_app : ∀ (xs ys : List PV), pures (xs ++ ys) = (pures xs && pures ys)
  | [], ys => by simp [pures]
  | x :: xs, ys => by simp [pures, pures_app xs ys, Bool.and_assoc]
theorem loc_obj {G : Gx} {ρ : List Addr} {st : VSt} {H : Hp} {n : Nat} {v : V} (S : SRel G ρ st H) (h : Rep G ρ H (.loc n) v) : ∃ a, v = .ref a ∧ ρ[n]? = some a ∧ ObjR G ρ H (deref st (.loc n)) a ∧ okE G n (deref st (.loc n)) := by
  obtain ⟨a, e, hn⟩ := h
  have h1 : n < st.length := by rw [← S.len]; exact (List.getElem?_eq_some_iff.mp hn).1
  have e2 : deref st (.loc n) = st[n] := by
    show st.getD n .non = st[n]
    rw [List.getD_eq_getElem?_getD, List.getElem?_eq_getElem h1]; rfl
  rw [e2]
  obtain ⟨o, f⟩ := S.obj n st[n] a (List.getElem?_eq_getElem h1) hn
  exact ⟨a, e, hn, o, f⟩
theorem okE.dct {G : Gx} {n : Nat} {ks : List Key} {xs : List PV} (h : okE G n (.dct ks xs)) : pures xs = true := by
  rcases h with h | ⟨_, e, _⟩
  · exact h
  · cases e
theorem pures_mem : ∀ {l : List PV}, pures l = true → ∀ y ∈ l, pureP y = true
  | [], _, y, hy => by cases hy
  | a :: l, h, y, hy => by
    rw [pures, Bool.and_eq_true] at h
    rcases List.mem_cons.mp hy with rfl | hy
    · exact h.1
    · exact pures_mem h.2 y hy
/-- xs.append(e) as a statement -/
theorem evs_app {X : Cx} {W : XD} {fr f1 f2 : Bool} {l e : Expr} {ml me : EM} {apos cpos pos : Pos} (hl : Ev X W f1 l ml) (he : Ev X W f2 e me)
    (hbase : attributeBase l "append" X.env (eval l X.env) = eval l X.env := by rfl)
    (hfew : ((backTo cpos (starEach [e] X.env)).all (fun x => !x.1) && (backToKw cpos (keywordEach [] X.env)).all (fun x => x.1.isSome)
      && decide (([e] : List Expr).length + ([] : List Keyword).length + (if ([] : List Keyword).isEmpty then 0 else 1) < 30)) = true := by rfl)
    (hline : (apos.endLine == cpos.line) = true := by rfl) (hse : starEach [e] X.env = (false, eval e X.env) :: starEach [] X.env := by rfl) (hplain : (backTo cpos (starEach [] X.env)).any (·.1) = false := by rfl)
    (hs : swapsWith (.Call (.Attribute l "append" apos) [e] [] cpos) none pos.line X.env = pure false := by rfl) : EvS X W fr (.Expr (.Call (.Attribute l "append" apos) [e] [] cpos) pos) (sApp ml me) :=
  PS.anti (ps_expr (pe_bm PySem.F.plainAttrs_list PySem.F.slot_list_append PySem.F.type_list_append mt_append hl (pa_cons he pa_nil hse) hbase hfew hline hse hplain) hs) fun D σ H ⟨hid, ρ, env, st, R, P⟩ => sE_use R P fun ρ1 st1 H1 x v l1 R1 rx _ P1 => by
    split at P1
    · rename_i n
      split at P1
      · rename_i zs ez
        obtain ⟨a, rfl, hn, o, _⟩ := loc_obj R1.s rx
        rw [ez] at o
        obtain ⟨ws, ho, _⟩ := o
        refine ⟨.inl ⟨rfl, _, SqL.of ho⟩, sE_use R1 P1 fun ρ2 st2 H2 y u l2 R2 ry _ P2 => ?_⟩
        split at P2
        · rename_i xs ex
          split at P2
          · rename_i hz
            obtain ⟨b, eb, hn2, o2, f2⟩ := loc_obj R2.s (Rep.later l2 _ _ rx)
            cases eb
            rw [ex] at o2 f2
            obtain ⟨vs, hv, rv⟩ := o2
            have mu : Mut (H2 a) := by rw [hv]; trivial
            have hin : a ∈ ρ2 := List.mem_of_getElem? hn2
            refine ⟨a, vs, u, rfl, rfl, hv, by rw [rv.length]; exact szl _ (by omega), ?_⟩
            exact P2 ρ2 _ σ (Later.wr hin mu) ⟨srel_wrE hn2 mu R2.s ⟨vs ++ [u], upd_same, reps_wr (.inl hin) mu _ _ (rv.append (Reps.one ry))⟩ (f2.app fun z hz' => by
              rcases List.mem_append.mp hz' with hz' | hz'
              · exact .inl hz'
              · rw [List.mem_singleton.mp hz']; exact .inr hz.2), envR_wr (.inl hin) mu R2.e⟩
          · exact False.elim P2
        · exact False.elim P2
      · exact False.elim P1
    · exact False.elim P1
def hasK (ks : List Key) (k : Key) : Bool := ks.any fun k' => decide (k' = k)
def kPutK (ks : List Key) (k : Key) : List Key := if hasK ks k = true then ks else ks ++ [k]
def kPutV {α : Type} (ks : List Key) (xs : List α) (k : Key) (v : α) : List α := if hasK ks k = true then (ks.zip xs).map (fun kv => if kv.1 = k then v else kv.2) else xs ++ [v]
theorem any_zip {k : Key} : ∀ {ks : List Key} {vs : List V}, ks.length = vs.length → ((ks.zip vs).any fun kv => decide (kv.1 = k)) = hasK ks k
  | [], vs, _ => rfl
  | k' :: ks, [], h => by simp at h
  | k' :: ks, v :: vs, h => by
    rw [List.zip_cons_cons, List.any_cons, any_zip (by simpa using h)]
    rfl
theorem map_zip {k : Key} {v : V} : ∀ {ks : List Key} {vs : List V}, ks.length = vs.length → (ks.zip vs).map (fun kv => if kv.1 = k then (kv.1, v) else kv) = ks.zip ((ks.zip vs).map fun kv => if kv.1 = k then v else kv.2)
  | [], vs, _ => by simp
  | k' :: ks, [], h => by simp at h
  | k' :: ks, v' :: vs, h => by
    rw [List.zip_cons_cons, List.map_cons, List.map_cons, List.zip_cons_cons, map_zip (by simpa using h)]
    by_cases e : k' = k <;> simp [e]
theorem putK_zip {ks : List Key} {vs : List V} {k : Key} {v : V} (h : ks.length = vs.length) : putK (ks.zip vs) k v = (kPutK ks k).zip (kPutV ks vs k v) ∧ (kPutK ks k).length = (kPutV ks vs k v).length := by
  unfold putK kPutK kPutV
  rw [any_zip h]
  by_cases hk : hasK ks k = true
  · rw [if_pos hk, if_pos hk, if_pos hk]
    exact ⟨map_zip h, by simp [h]⟩
  · rw [if_neg hk, if_neg hk, if_neg hk]
    exact ⟨by rw [List.zip_append h]; rfl, by simp [h]⟩
theorem reps_put {G : Gx} {ρ : List Addr} {H : Hp} {k : Key} {p : PV} {v : V} (r : Rep G ρ H p v) : ∀ {ks : List Key} {xs : List PV} {vs : List V}, ks.length = vs.length → Reps G ρ H xs vs → Reps G ρ H (kPutV ks xs k p) (kPutV ks vs k v) := by
  intro ks xs vs hl rs
  unfold kPutV
  by_cases hk : hasK ks k = true
  · rw [if_pos hk, if_pos hk]
    have : ∀ {ks : List Key} {xs : List PV} {vs : List V}, ks.length = vs.length → Reps G ρ H xs vs → Reps G ρ H ((ks.zip xs).map fun kv => if kv.1 = k then p else kv.2) ((ks.zip vs).map fun kv => if kv.1 = k then v else kv.2) := by
      intro ks
      induction ks with
      | nil => intro xs vs _ _; simp only [List.zip_nil_left, List.map_nil]; rfl
      | cons k' ks ih =>
        intro xs vs hl rs
        cases xs with
        | nil => rw [show vs = [] from rs]; simp only [List.zip_nil_right, List.map_nil]; rfl
        | cons x xs =>
          obtain ⟨w, q, rfl, h1, h2⟩ := rs
          rw [List.zip_cons_cons, List.zip_cons_cons, List.map_cons, List.map_cons]
          refine ⟨_, _, rfl, ?_, ih (by simpa using hl) h2⟩
          by_cases e : k' = k <;> simp [e, r, h1]
    exact this hl rs
  · rw [if_neg hk, if_neg hk]
    exact rs.append (Reps.one r)
theorem pures_put {k : Key} {p : PV} (hp : pureP p = true) {ks : List Key} {xs : List PV} (hx : pures xs = true) : pures (kPutV ks xs k p) = true := by
  unfold kPutV
  split
  · have : ∀ (ks : List Key) (xs : List PV), pures xs = true → pures ((ks.zip xs).map fun kv => if kv.1 = k then p else kv.2) = true := by
      intro ks
      induction ks with
      | nil => intro xs _; rfl
      | cons k' ks ih =>
        intro xs hx
        cases xs with
        | nil => rfl
        | cons x xs =>
          unfold pures at hx
          rw [Bool.and_eq_true] at hx
          rw [List.zip_cons_cons, List.map_cons]
          unfold pures
          rw [ih xs hx.2]
          by_cases e : k' = k <;> simp [e, hp, hx.1]
    exact this ks xs hx
  · rw [pures_app, hx]; simp [pures, hp]
def sPut (d k v : EM) : SM := fun env st => (v env st).s fun y s1 => (d env s1).s fun x s2 => (k env s2).s fun kk s3 => match x with
  | .loc n => match deref s3 (.loc n), keyP kk with
    | .dct ks xs, some key => if ks.length < 1000000 ∧ pureP y = true then .nx env (s3.set n (.dct (kPutK ks key) (kPutV ks xs key y))) else .bad
    | _, _ => .bad
  | _ => .bad
theorem evs_put {X : Cx} {W : XD} {fr f1 f2 f3 : Bool} {d k v : Expr} {md mk mv : EM} {pos pos' : Pos} (hu : X.A.units + 64 < cLine) (hd : Ev X W f1 d md) (hk : Ev X W f2 k mk) (hv : Ev X W f3 v mv) (hs : swapsWith v (some (.Subscript d k pos')) pos.line X.env = pure false := by rfl) :
    EvS X W fr (.Assign [.Subscript d k pos'] v pos) (sPut md mk mv) :=
  PS.anti (ps_dput (by omega) hd hk hv hs) fun D σ H ⟨hid, ρ, env, st, R, P⟩ => sE_use R P fun ρ1 st1 H1 y u l1 R1 ry _ P1 => sE_use R1 P1 fun ρ2 st2 H2 x w l2 R2 rx _ P2 => sE_use R2 P2 fun ρ3 st3 H3 kk z l3 R3 rk _ P3 => by
    split at P3
    · rename_i n
      split at P3
      · rename_i ks xs key ex ek
        split at P3
        · rename_i hz
          obtain ⟨a, rfl, hn, o, f⟩ := loc_obj R3.s (Rep.later l3 _ _ rx)
          rw [ex] at o f
          obtain ⟨vs, hl, hv, rv⟩ := o
          have mu : Mut (H3 a) := by rw [hv]; trivial
          have hin : a ∈ ρ3 := List.mem_of_getElem? hn
          have ry3 := Rep.later (l2.trans l3) _ _ ry
          obtain ⟨e1, e2⟩ := putK_zip (k := key) (v := u) hl
          refine ⟨a, _, rfl, by rw [rep_key rk ek]; exact DPut.k hv (by rw [List.length_zip, hl, Nat.min_self, ← hl]; exact szl _ (by omega)), ?_⟩
          refine P3 ρ3 _ σ (Later.wr hin mu) ⟨srel_wr hn mu R3.s ⟨_, e2, by rw [upd_same, e1], reps_wr (.inl hin) mu _ _ (reps_put ry3 hl rv)⟩ (pures_put hz.2 f.dct), envR_wr (.inl hin) mu R3.e⟩
        · exact False.elim P3
      · exact False.elim P3
    · exact False.elim P3
theorem ev_dnew {X : Cx} {W : XD} {pos : Pos} : Ev X W true (.Dict [] [] pos) (fun _ st => .ok (.dct [] []) st) := PE.anti pe_dnewK fun σ H Q ⟨hid, ρ, env, st, R, P⟩ p hp => Post.give P R.s hp hp (new_dct (ks := []) (vs := []) R.s rfl rfl hp)
end Vm
namespace Vm
open PySem PySem.Spec L2
section
variable {X : Cx} {W : XD}
def keyV : Key → PV
  | .inl i => .int i
  | .inr x => .str x
def vListA (xs : List PV) (st : VSt) : Res PV := match xs with
  | [p] => match deref st p with
    | .lst xs => .ok (.lst xs) st
    | .tup xs => .ok (.lst xs) st
    | .dct ks _ => .ok (.lst (ks.map keyV)) st
    | _ => .bad
  | _ => .bad
def rListA (K : PySem.W.Frag) : List V → Hp → VK → Prop := fun xs H Q => (∃ p ys, xs = [.ref p] ∧ (SqL K H p ys ∨ SqT K H p ys) ∧ ∀ l, H l = none → Q (.ref l) (upd H l (.lst ys))) ∨ (∃ p kvs, xs = [.ref p] ∧ H p = some (.dK kvs) ∧ ∀ q, H q = none → Q (.ref q) (upd H q (.lst (kvs.map fun kv => kV kv.1))))
theorem call_listA (hc : X.calm = true) : CallR X (.type "list") (rListA X.K) := CallR.or call_list_of (call_list_dK hc)
theorem reps_keys {G : Gx} {ρ : List Addr} {H : Hp} : ∀ {ks : List Key} {vs : List V}, ks.length = vs.length → Reps G ρ H (ks.map keyV) ((ks.zip vs).map fun kv => kV kv.1)
  | [], vs, _ => rfl
  | k :: ks, [], h => by simp at h
  | k :: ks, v :: vs, h => ⟨kV k, _, rfl, by cases k <;> rfl, reps_keys (by simpa using h)⟩
theorem cs_listA : CallSem X W true (rListA X.K) vListA := by
  intro hid ρ st H xs vs Q S r P
  unfold vListA at P
  split at P
  · rename_i p
    obtain ⟨v, rfl, rp⟩ := reps1 r
    split at P
    · rename_i xs e
      obtain ⟨a, ws, rfl, ha, r1⟩ := rep_lst S rp e
      exact .inl ⟨a, ws, rfl, .inl (SqL.of ha), fun l hl => P.give S hl hl (new_lst S r1 hl)⟩
    · rename_i xs e
      obtain ⟨a, ws, rfl, ha, r1⟩ := rep_tup S rp e
      exact .inl ⟨a, ws, rfl, .inr ha, fun l hl => P.give S hl hl (new_lst S r1 hl)⟩
    · rename_i ks xs e
      obtain ⟨a, ws, rfl, l, ha, r1⟩ := rep_dct S rp e
      exact .inr ⟨a, _, rfl, ha, fun q hq => P.give S hq hq (new_lst S (reps_keys l) hq)⟩
    · exact False.elim P
  · exact False.elim P
theorem ev_const {pr : Prg} {T : Tbl} {n : Nat} {bs : List Str} {cs : List (Str × Int)} {pos : Pos} {x : Str} {i : Int} (c : Cok X W pr T n bs cs) (h : (x, i) ∈ cs) (hg : Gl X x := by rfl) (hd : (x == ("__debug__" : Str)) = false := by decide) : Ev X W true (.Name x pos) (eC (.int i)) := by
  obtain ⟨u, hm, r⟩ := c.cst _ h
  exact ev_glob hm r hg hd
variable {elt tg iter : Expr} {ifs : List Expr} {scope : Scope} {own : List (Str × Nat)} {pos : Pos} {it : IM} {g : GM} {mt me : EM} {fe : Bool} {pr : Prg} {T : Tbl} {n : Nat} {bs : List Str} {cs : List (Str × Int)}
theorem ev_compC (own : List (Str × Nat)) (c : Cok X W pr T n bs cs) (hi : EvI X W tg iter it) (ok : BlkOk X.N X.env.scope scope own)
    (hg : ∀ (s : Shared) (H : Hp) (C : Addr) (cl : List (Str × Addr)) (fp : List Addr), Cok (X.blk s H scope (compEnvC scope cl C X.env) fp) W.no pr T n bs cs → EvG (X.blk s H scope (compEnvC scope cl C X.env) fp) W.no (own.map Prod.snd) tg g)
    (ht : ∀ (s : Shared) (H : Hp) (C : Addr) (cl : List (Str × Addr)) (fp : List Addr), Cok (X.blk s H scope (compEnvC scope cl C X.env) fp) W.no pr T n bs cs → EvTs (X.blk s H scope (compEnvC scope cl C X.env) fp) W.no ifs mt)
    (he : ∀ (s : Shared) (H : Hp) (C : Addr) (cl : List (Str × Addr)) (fp : List Addr), Cok (X.blk s H scope (compEnvC scope cl C X.env) fp) W.no pr T n bs cs → Ev (X.blk s H scope (compEnvC scope cl C X.env) fp) W.no fe elt me) (hs : ∀ x, foldedSetIterable iter X.env x = pure x := by intro _; rfl) :
    Ev X W true (.ListComp elt [⟨tg, iter, ifs, 0⟩] scope pos) (eComp it g mt me (own.map Prod.snd)) :=
  ev_comp c.calm c.nd hi ok (fun s H C cl fp => hg s H C cl fp (c.blk s H _ _ fp)) (fun s H C cl fp => ht s H C cl fp (c.blk s H _ _ fp)) (fun s H C cl fp => he s H C cl fp (c.blk s H _ _ fp)) hs
theorem evs_setLcC {fr f : Bool} {i : Nat} {y : Str} {py spos : Pos} {m : EM} (own : List (Str × Nat)) (c : Cok X W pr T n bs cs) (hm : ∀ σ H Q, cE X W f m σ H Q → cE X W true (eComp it g mt me (own.map Prod.snd)) σ H Q) (hi : EvI X W tg iter it) (ok : BlkOk X.N X.env.scope scope own)
    (hg : ∀ (s : Shared) (H : Hp) (C : Addr) (cl : List (Str × Addr)) (fp : List Addr), Cok (X.blk s H scope (compEnvC scope cl C X.env) fp) W.no pr T n bs cs → EvG (X.blk s H scope (compEnvC scope cl C X.env) fp) W.no (own.map Prod.snd) tg g)
    (ht : ∀ (s : Shared) (H : Hp) (C : Addr) (cl : List (Str × Addr)) (fp : List Addr), Cok (X.blk s H scope (compEnvC scope cl C X.env) fp) W.no pr T n bs cs → EvTs (X.blk s H scope (compEnvC scope cl C X.env) fp) W.no ifs mt)
    (he : ∀ (s : Shared) (H : Hp) (C : Addr) (cl : List (Str × Addr)) (fp : List Addr), Cok (X.blk s H scope (compEnvC scope cl C X.env) fp) W.no pr T n bs cs → Ev (X.blk s H scope (compEnvC scope cl C X.env) fp) W.no fe elt me)
    (hsw : swapsWith (.ListComp elt [⟨tg, iter, ifs, 0⟩] scope pos) (some (.Name y py)) spos.line X.env = pure true := by exact sw_true rfl rfl rfl (by decide +kernel)) (hy : X.N[i]? = some y := by rfl) (hyl : X.env.scope.names.lookup y = some .local := by rfl)
    (hs : ∀ x, foldedSetIterable iter X.env x = pure x := by intro _; rfl) : EvS X W fr (.Assign [.Name y py] (.ListComp elt [⟨tg, iter, ifs, 0⟩] scope pos) spos) (sSet i m) :=
  evs_setLc c.calm c.nd hm hi ok (fun s H C cl fp => hg s H C cl fp (c.blk s H _ _ fp)) (fun s H C cl fp => ht s H C cl fp (c.blk s H _ _ fp)) (fun s H C cl fp => he s H C cl fp (c.blk s H _ _ fp)) hsw hy hyl hs
end
end Vm
namespace Vm
open PySem PySem.Spec L2
def leS (a b : Str) : Prop := ltCps b.cps.toList a.cps.toList = false
instance (a b : Str) : Decidable (leS a b) := inferInstanceAs (Decidable (_ = false))
def insS (x : Str) : List Str → List Str
  | [] => [x]
  | y :: r => if leS x y then x :: y :: r else y :: insS x r
def srtS : List Str → List Str
  | [] => []
  | x :: r => insS x (srtS r)
theorem ins_perm (x : Str) : ∀ l, (insS x l).Perm (x :: l)
  | [] => .refl _
  | y :: r => by
    unfold insS
    split
    · exact .refl _
    · exact ((ins_perm x r).cons y).trans (.swap x y r)
theorem srt_perm : ∀ l, (srtS l).Perm l
  | [] => .refl _
  | x :: r => (ins_perm x _).trans ((srt_perm r).cons x)
def strsOf : List PV → Option (List Str)
  | [] => some []
  | .str x :: r => (strsOf r).map (x :: ·)
  | _ => none
theorem strsOf_map : ∀ xs : List Str, strsOf (xs.map PV.str) = some xs
  | [] => rfl
  | x :: xs => by
    show (strsOf (xs.map PV.str)).map (x :: ·) = _
    rw [strsOf_map xs]; rfl
end Vm
namespace Vm
open PySem PySem.Spec L2 PySem.Froz
section
variable {P : Program} {w : World} {A : Around} {E : Value → Shared → Prop} {s : Shared} {a : Addr} {l : List Str}
def addS (l : List Str) (k : Str) : List Str := if k ∈ l then l else l ++ [k]
def oneS (xs : List Str) : List Str := xs.foldl addS []
end
end Vm
namespace Vm
open PySem PySem.Spec L2 PySem.Froz
end Vm
namespace Vm
open PySem PySem.Spec L2 PySem.Froz
end Vm
namespace Vm
open PySem PySem.Spec L2 PySem.Froz
end Vm
namespace Vm
open PySem PySem.Spec L2
theorem wipe_idem (us : List Nat) (τ : L2.St) : L2.wipe (L2.wipe τ us) us = L2.wipe τ us := by
  have h1 : ∀ (as bs : List Nat) (τ : L2.St), (∀ a ∈ as, a ∈ bs) → L2.wipe (L2.wipe τ as) bs = L2.wipe τ bs := by
    intro as
    induction as with
    | nil => intro bs τ _; rfl
    | cons a as ih =>
      intro bs τ hs
      show L2.wipe ((L2.wipe τ as).set a none) bs = _
      rw [wipe_set (hs a List.mem_cons_self)]
      exact ih bs τ fun b hb => hs b (List.mem_cons_of_mem _ hb)
  exact h1 us us τ fun a h => h
end Vm
namespace Vm
open PySem PySem.Spec L2
theorem cA_useS {X : Cx} {W : XD} {hid : HD} {ρ : List Addr} {env : VEnv} {st : VSt} {σ : L2.St} {H : Hp} {fr : Bool} {D : Ends} {m : AM} {k : List PV → VSt → SR} {Q : List V → Hp → Prop} (R : Rel (gx X W hid) ρ env st σ H) (P : PostS (gx X W hid) ρ H fr ((m env st).s k) D)
    (q : ∀ ρ1 st1 H1 p v, Later ρ H ρ1 H1 → Rel (gx X W hid) ρ1 env st1 σ H1 → Reps (gx X W hid) ρ1 H1 p v → PostS (gx X W hid) ρ H fr (k p st1) D → Q v H1) : cA X W m σ H Q := by
  refine ⟨hid, ρ, env, st, R, ?_⟩
  cases e : m env st with
  | bad => rw [e] at P; exact P
  | ex c fs s => rw [e] at P; exact P
  | ok a s =>
    rw [e] at P
    exact fun ρ1 H1 l S v rv => q ρ1 s H1 a v l (R.later l S) rv P
def whileP (c : EM) (b : SM) : Nat → VEnv → VSt → SR
  | 0, _, _ => .bad
  | m + 1, env, st => (c env st).s (onBS fun k s => if k = true then match b env s with
      | .nx e s => whileP c b m e s
      | .ct e s => whileP c b m e s
      | .bk e s => .nx e s
      | .rt p s => .rt p s
      | .ex c fs s => .ex c fs s
      | .bad => .bad
    else .nx env s)
def sWhile (c : EM) (b : SM) : SM := fun env st => whileP c b 10000000 env st
end Vm
namespace Vm
open PySem PySem.Spec L2
section
variable {α β : Type} {a : α} {st : VSt} {env : VEnv}
theorem zf {k : α → VSt → Res β} : (Res.ok a st).bind k = k a st := rfl
theorem zh {k : α → VSt → Res β} {c : Nat} {fs : List PV} : (Res.ex c fs st).bind k = .ex c fs st := rfl
theorem zi {k : α → VSt → SR} {c : Nat} {fs : List PV} : (Res.ex c fs st : Res α).s k = .ex c fs st := rfl
theorem zj {k : SM} {c : Nat} {fs : List PV} : (SR.ex c fs st).bind k = .ex c fs st := rfl
theorem zg : (Res.ok a st).nox = .ok a st := rfl
theorem zk {k : α → VSt → SR} : (Res.ok a st).s k = k a st := rfl
theorem zm {k : SM} : (SR.nx env st).bind k = k env st := rfl
theorem zn {k : SM} {p : PV} : (SR.rt p st).bind k = .rt p st := rfl
theorem zo {k : SM} : (SR.ct env st).bind k = .ct env st := rfl
theorem zp {k : SM} : (SR.bk env st).bind k = .bk env st := rfl
theorem zq {k : Bool → VSt → Res β} {b : Bool} : onB k (.bl b) st = k b st := rfl
theorem zt {k : Bool → VSt → SR} {b : Bool} : onBS k (.bl b) st = k b st := rfl
theorem zu {i : Nat} : eVar i env st = match env[i]? with
  | some (some p) => .ok p st
  | _ => .bad := rfl
theorem zv {p : PV} : eC p env st = .ok p st := rfl
theorem zw {f : PV → PV → VSt → Res PV} {a b : EM} : eBin f a b env st = (a env st).bind fun x s1 => (b env s1).bind fun y s2 => f x y s2 := rfl
theorem zx {f : PV → VSt → Res PV} {a : EM} : eUn f a env st = (a env st).bind f := rfl
theorem zy : aNil env st = .ok [] st := rfl
theorem zA {a : EM} {r : AM} : aCons a r env st = (a env st).bind fun x s1 => (r env s1).bind fun xs s2 => .ok (x :: xs) s2 := rfl
theorem zB {es : AM} : eTup es env st = (es env st).bind mkTup := rfl
theorem zC {es : AM} : eLst es env st = (es env st).bind mkLst := rfl
theorem zD {f : List PV → VSt → Res PV} {es : AM} : eApp f es env st = (es env st).bind f := rfl
theorem zE {a b : EM} : eAnd a b env st = (a env st).bind (onB fun c s1 => if c = true then b env s1 else .ok (.bl false) s1) := rfl
theorem zF {a b : EM} : eOr a b env st = (a env st).bind (onB fun c s1 => if c = true then .ok (.bl true) s1 else b env s1) := rfl
theorem zG {a : EM} : eNot a env st = (a env st).bind (onB fun c s1 => .ok (.bl (!c)) s1) := rfl
theorem zH {c a b : EM} : eIf c a b env st = (c env st).bind (onB fun c s1 => if c = true then a env s1 else b env s1) := rfl
theorem zI {m : EM} : eBox m env st = (m env st).bind boxV := rfl
theorem zJ {d k x : EM} : eGet d k x env st = (d env st).bind fun d s1 => if isDct s1 d = true then (k env s1).bind fun k s2 => (x env s2).bind fun x s3 => vGet d k x s3 else .bad := rfl
theorem zK {a : EM} {lo hi : OM} : eSl a lo hi env st = (a env st).bind fun x s1 => (lo env s1).bind fun l s2 => (hi env s2).bind fun h s3 => vSl x l h s3 := rfl
theorem zL : oNone env st = .ok none st := rfl
theorem zM {a : EM} : oSome a env st = (a env st).bind fun p s => match p with
  | .int i => .ok (some i) s
  | _ => .bad := rfl
theorem zN : sNil env st = .nx env st := rfl
theorem zO {a b : SM} : sCons a b env st = (a env st).bind b := rfl
theorem zP {i : Nat} {a : EM} : sSet i a env st = (a env st).s fun p s1 => .nx (env.set i (some p)) s1 := rfl
theorem zQ {a : EM} : sExpr a env st = (a env st).s fun _ s1 => .nx env s1 := rfl
theorem zR {a : EM} : sRet a env st = (a env st).s fun p s1 => .rt p s1 := rfl
theorem zS {a : EM} : sRetB a env st = (a env st).s fun p s1 => match p with
  | .loc n => .rt (.loc n) s1
  | _ => .bad := rfl
theorem zT {c : EM} {a b : SM} : sIf c a b env st = (c env st).s (onBS fun c s1 => if c = true then a env s1 else b env s1) := rfl
theorem zU : sBreak env st = .bk env st := rfl
theorem zV : sCont env st = .ct env st := rfl
theorem zW {i : Nat} {f : PV → PV → VSt → Res PV} {a : EM} : sAug i f a env st = (eVar i env st).s fun x s0 => (a env s0).s fun y s1 => (f x y s1).s fun z s2 => .nx (env.set i (some z)) s2 := rfl
theorem zX {g : GM} {a : EM} : sAsg g a env st = (a env st).s fun p s1 => match g p env with
  | some env' => .nx env' s1
  | none => .bad := rfl
theorem zY {i : Nat} {p : PV} : gName i p env = some (env.set i (some p)) := rfl
theorem yb {n : Nat} {g : GMs} {xs : List PV} : gTup n g (.tup xs) env = if xs.length = n then g xs env else none := rfl
theorem zZ : gsNil [] env = some env := rfl
theorem ya {g : GM} {r : GMs} {p : PV} {ps : List PV} : gsCons g r (p :: ps) env = (g p env).bind (r ps) := rfl
theorem x_boxV {p : PV} (h : noLoc p = true) : boxV p st = .ok (.loc st.length) (st ++ [p]) := if_pos h
theorem yF {i j : Int} : vAdd (.int i) (.int j) st = .ok (.int (i + j)) st := rfl
theorem yG {i j : Int} : vAddI (.int i) (.int j) st = .ok (.int (i + j)) st := rfl
theorem yH {i j : Int} : vSub (.int i) (.int j) st = .ok (.int (i - j)) st := rfl
theorem yI {i : Int} : vNeg (.int i) st = .ok (.int (-i)) st := rfl
theorem yJ {i j : Int} (h : (-(2 ^ 64) < i ∧ i < 2 ^ 64) ∨ (-(2 ^ 64) < j ∧ j < 2 ^ 64)) : vMul (.int i) (.int j) st = .ok (.int (i * j)) st := if_pos h
theorem yK {i j : Int} (h : 0 < j ∧ j < 2 ^ 100) : vFdv (.int i) (.int j) st = .ok (.int (i / j)) st := if_pos h
theorem yL {i j : Int} (h : 0 < j) : vMod (.int i) (.int j) st = .ok (.int (i % j)) st := if_pos h
theorem yM {f : Int → Int → Bool} {i j : Int} : vCmp f (.int i) (.int j) st = .ok (.bl (f i j)) st := rfl
theorem yN {a b : Str} : vEqF false (.str a) (.str b) st = .ok (.bl (decide (a = b))) st := rfl
theorem yO {a b : Str} : vEqF true (.str a) (.str b) st = .ok (.bl (!decide (a = b))) st := rfl
theorem yP {a b : Int} : vEqF false (.int a) (.int b) st = .ok (.bl (decide (a = b))) st := rfl
theorem yQ {a b : Int} : vEqF true (.int a) (.int b) st = .ok (.bl (!decide (a = b))) st := rfl
theorem yR {a b : Bool} : vEqF false (.bl a) (.bl b) st = .ok (.bl (decide (a = b))) st := rfl
theorem v_ixt {xs : List PV} {i : Int} : vIx (.tup xs) (.int i) st = opt (atI xs i) st := rfl
theorem v_ixl {xs : List PV} {i : Int} : vIx (.lst xs) (.int i) st = opt (atI xs i) st := rfl
theorem yS {ns : List Int} {i : Int} : vIx (.scr ns) (.int i) st = opt ((atI ns i).map .int) st := rfl
theorem v_ixs {z : Str} {i : Int} (h : z.length ≤ 1000000) : vIx (.str z) (.int i) st = opt ((atI z.cps.toList i).map fun c => .str ⟨#[c]⟩) st := if_pos h
theorem yT {p : PV} : opt (some p) st = .ok p st := rfl
theorem yU {xs : List PV} : vLen [.lst xs] st = .ok (.int xs.length) st := rfl
theorem yV {xs : List PV} : vLen [.tup xs] st = .ok (.int xs.length) st := rfl
theorem yW {ns : List Int} : vLen [.scr ns] st = .ok (.int ns.length) st := rfl
theorem v_lens {z : Str} (h : z.length ≤ 1000000) : vLen [.str z] st = .ok (.int z.length) st := if_pos h
theorem v_adds {a b : Str} (h : a.length + b.length ≤ 1000000) : vAdd (.str a) (.str b) st = .ok (.str (a ++ b)) st := if_pos h
theorem v_addt {xs ys : List PV} (h : xs.length + ys.length ≤ 1000000) : vAdd (.tup xs) (.tup ys) st = .ok (.tup (xs ++ ys)) st := if_pos h
theorem v_muls {a : Str} {j : Int} (h : 1 ≤ j ∧ j ≤ 1000 ∧ a.length ≤ 1000) : vMul (.str a) (.int j) st = .ok (.str (repS a j.toNat)) st := if_pos h
theorem v_sls {z : Str} {lo hi : Option Int} (h : z.length ≤ 1000000) : vSl (.str z) lo hi st = .ok (.str (cutS z lo hi)) st := if_pos h
theorem v_slt {xs : List PV} {lo hi : Option Int} : vSl (.tup xs) lo hi st = .ok (.tup (cutP xs lo hi)) st := rfl
theorem v_sll {xs : List PV} {lo hi : Option Int} : vSl (.lst xs) lo hi st = .ok (.lst (cutP xs lo hi)) st := rfl
theorem yX {xs : List PV} : vTuple [.tup xs] st = .ok (.tup xs) st := rfl
theorem yY {xs : List PV} : vTuple [.lst xs] st = .ok (.tup xs) st := rfl
theorem yZ {b : Bool} : vInt [.bl b] st = .ok (.int (if b then 1 else 0)) st := rfl
theorem wa {b : Int} : vInt [.int b] st = .ok (.int b) st := rfl
theorem wb {i j : Int} : vMax [.int i, .int j] st = .ok (.int (if j > i then j else i)) st := rfl
theorem wc {p : PV} : vIsN false p .non st = .ok (.bl (isNon p)) st := rfl
theorem wd {p : PV} : vIsN true p .non st = .ok (.bl (!isNon p)) st := rfl
theorem at_0 {γ : Type} {x : γ} {xs : List γ} : atI (x :: xs) 0 = some x := by
  have := atI_nat (xs := x :: xs) (j := 0) (v := x) rfl
  exact this
theorem at_1 {γ : Type} {x y : γ} {xs : List γ} : atI (x :: y :: xs) 1 = some y := by
  have := atI_nat (xs := x :: y :: xs) (j := 1) (v := y) rfl
  exact this
theorem at_2 {γ : Type} {x y z : γ} {xs : List γ} : atI (x :: y :: z :: xs) 2 = some z := by
  have := atI_nat (xs := x :: y :: z :: xs) (j := 2) (v := z) rfl
  exact this
/-- at a place within -/
theorem at_in {γ : Type} {xs : List γ} {i : Int} (h0 : 0 ≤ i) (h1 : i < xs.length) : atI xs i = some (xs[i.toNat]'(by omega)) := by
  have e : i = ((i.toNat : Nat) : Int) := by omega
  have h := atI_nat (xs := xs) (j := i.toNat) (v := xs[i.toNat]'(by omega)) (List.getElem?_eq_getElem (by omega))
  rw [← e] at h
  exact h
theorem yc : mkTup [] st = .ok (.tup []) st := if_pos (by decide)
theorem yd : mkLst [] st = .ok (.lst []) st := if_pos (by decide)
theorem ye {x0 : PV} : mkTup [x0] st = .ok (.tup [x0]) st := if_pos (show 1 ≤ 1000000 by decide)
theorem yf {x0 : PV} : mkLst [x0] st = .ok (.lst [x0]) st := if_pos (show 1 ≤ 1000000 by decide)
theorem yg {x0 x1 : PV} : mkTup [x0, x1] st = .ok (.tup [x0, x1]) st := if_pos (show 2 ≤ 1000000 by decide)
theorem yh {x0 x1 : PV} : mkLst [x0, x1] st = .ok (.lst [x0, x1]) st := if_pos (show 2 ≤ 1000000 by decide)
theorem yi {x0 x1 x2 : PV} : mkTup [x0, x1, x2] st = .ok (.tup [x0, x1, x2]) st := if_pos (show 3 ≤ 1000000 by decide)
theorem yj {x0 x1 x2 : PV} : mkLst [x0, x1, x2] st = .ok (.lst [x0, x1, x2]) st := if_pos (show 3 ≤ 1000000 by decide)
theorem yk {x0 x1 x2 x3 : PV} : mkTup [x0, x1, x2, x3] st = .ok (.tup [x0, x1, x2, x3]) st := if_pos (show 4 ≤ 1000000 by decide)
theorem yl {x0 x1 x2 x3 : PV} : mkLst [x0, x1, x2, x3] st = .ok (.lst [x0, x1, x2, x3]) st := if_pos (show 4 ≤ 1000000 by decide)
theorem ym {x0 x1 x2 x3 x4 : PV} : mkTup [x0, x1, x2, x3, x4] st = .ok (.tup [x0, x1, x2, x3, x4]) st := if_pos (show 5 ≤ 1000000 by decide)
theorem yn {x0 x1 x2 x3 x4 : PV} : mkLst [x0, x1, x2, x3, x4] st = .ok (.lst [x0, x1, x2, x3, x4]) st := if_pos (show 5 ≤ 1000000 by decide)
theorem yo {x0 x1 x2 x3 x4 x5 : PV} : mkTup [x0, x1, x2, x3, x4, x5] st = .ok (.tup [x0, x1, x2, x3, x4, x5]) st := if_pos (show 6 ≤ 1000000 by decide)
theorem yp {x0 x1 x2 x3 x4 x5 : PV} : mkLst [x0, x1, x2, x3, x4, x5] st = .ok (.lst [x0, x1, x2, x3, x4, x5]) st := if_pos (show 6 ≤ 1000000 by decide)
theorem yq {x0 x1 x2 x3 x4 x5 x6 : PV} : mkTup [x0, x1, x2, x3, x4, x5, x6] st = .ok (.tup [x0, x1, x2, x3, x4, x5, x6]) st := if_pos (show 7 ≤ 1000000 by decide)
theorem yr {x0 x1 x2 x3 x4 x5 x6 : PV} : mkLst [x0, x1, x2, x3, x4, x5, x6] st = .ok (.lst [x0, x1, x2, x3, x4, x5, x6]) st := if_pos (show 7 ≤ 1000000 by decide)
theorem yt {x0 : PV} {xs : List PV} : vIx (.lst (x0 :: xs)) (.int 0) st = .ok x0 st := by
  show opt (atI (x0 :: xs) 0) st = _
  rw [show (0 : Int) = ((0 : Nat) : Int) from rfl, atI_nat (v := x0) rfl]; exact Eq.trans rfl rfl
theorem yu {x0 : PV} {xs : List PV} : vIx (.tup (x0 :: xs)) (.int 0) st = .ok x0 st := by
  show opt (atI (x0 :: xs) 0) st = _
  rw [show (0 : Int) = ((0 : Nat) : Int) from rfl, atI_nat (v := x0) rfl]; exact Eq.trans rfl rfl
theorem yv {x0 x1 : PV} {xs : List PV} : vIx (.lst (x0 :: x1 :: xs)) (.int 1) st = .ok x1 st := by
  show opt (atI (x0 :: x1 :: xs) 1) st = _
  rw [show (1 : Int) = ((1 : Nat) : Int) from rfl, atI_nat (v := x1) rfl]; exact Eq.trans rfl rfl
theorem yw {x0 x1 : PV} {xs : List PV} : vIx (.tup (x0 :: x1 :: xs)) (.int 1) st = .ok x1 st := by
  show opt (atI (x0 :: x1 :: xs) 1) st = _
  rw [show (1 : Int) = ((1 : Nat) : Int) from rfl, atI_nat (v := x1) rfl]; exact Eq.trans rfl rfl
theorem yx {x0 x1 x2 : PV} {xs : List PV} : vIx (.lst (x0 :: x1 :: x2 :: xs)) (.int 2) st = .ok x2 st := by
  show opt (atI (x0 :: x1 :: x2 :: xs) 2) st = _
  rw [show (2 : Int) = ((2 : Nat) : Int) from rfl, atI_nat (v := x2) rfl]; exact Eq.trans rfl rfl
theorem yy {x0 x1 x2 : PV} {xs : List PV} : vIx (.tup (x0 :: x1 :: x2 :: xs)) (.int 2) st = .ok x2 st := by
  show opt (atI (x0 :: x1 :: x2 :: xs) 2) st = _
  rw [show (2 : Int) = ((2 : Nat) : Int) from rfl, atI_nat (v := x2) rfl]; exact Eq.trans rfl rfl
theorem yz {x0 x1 x2 x3 : PV} {xs : List PV} : vIx (.lst (x0 :: x1 :: x2 :: x3 :: xs)) (.int 3) st = .ok x3 st := by
  show opt (atI (x0 :: x1 :: x2 :: x3 :: xs) 3) st = _
  rw [show (3 : Int) = ((3 : Nat) : Int) from rfl, atI_nat (v := x3) rfl]; exact Eq.trans rfl rfl
theorem yA {x0 x1 x2 x3 : PV} {xs : List PV} : vIx (.tup (x0 :: x1 :: x2 :: x3 :: xs)) (.int 3) st = .ok x3 st := by
  show opt (atI (x0 :: x1 :: x2 :: x3 :: xs) 3) st = _
  rw [show (3 : Int) = ((3 : Nat) : Int) from rfl, atI_nat (v := x3) rfl]; exact Eq.trans rfl rfl
theorem yB {x0 x1 x2 x3 x4 : PV} {xs : List PV} : vIx (.lst (x0 :: x1 :: x2 :: x3 :: x4 :: xs)) (.int 4) st = .ok x4 st := by
  show opt (atI (x0 :: x1 :: x2 :: x3 :: x4 :: xs) 4) st = _
  rw [show (4 : Int) = ((4 : Nat) : Int) from rfl, atI_nat (v := x4) rfl]; exact Eq.trans rfl rfl
theorem yC {x0 x1 x2 x3 x4 : PV} {xs : List PV} : vIx (.tup (x0 :: x1 :: x2 :: x3 :: x4 :: xs)) (.int 4) st = .ok x4 st := by
  show opt (atI (x0 :: x1 :: x2 :: x3 :: x4 :: xs) 4) st = _
  rw [show (4 : Int) = ((4 : Nat) : Int) from rfl, atI_nat (v := x4) rfl]; exact Eq.trans rfl rfl
theorem yD {x0 x1 x2 x3 x4 x5 : PV} {xs : List PV} : vIx (.lst (x0 :: x1 :: x2 :: x3 :: x4 :: x5 :: xs)) (.int 5) st = .ok x5 st := by
  show opt (atI (x0 :: x1 :: x2 :: x3 :: x4 :: x5 :: xs) 5) st = _
  rw [show (5 : Int) = ((5 : Nat) : Int) from rfl, atI_nat (v := x5) rfl]; exact Eq.trans rfl rfl
theorem yE {x0 x1 x2 x3 x4 x5 : PV} {xs : List PV} : vIx (.tup (x0 :: x1 :: x2 :: x3 :: x4 :: x5 :: xs)) (.int 5) st = .ok x5 st := by
  show opt (atI (x0 :: x1 :: x2 :: x3 :: x4 :: x5 :: xs) 5) st = _
  rw [show (5 : Int) = ((5 : Nat) : Int) from rfl, atI_nat (v := x5) rfl]; exact Eq.trans rfl rfl
theorem we {fr : Bool} {k : Nat} {p : PV} : endI fr k (.rt p st) = if (fr && wt k p) = true then .bad else .ok (freeze st k p) (st.take k) := rfl
theorem wg {fr : Bool} {k : Nat} : endI fr k (.nx env st) = .ok .non (st.take k) := rfl
theorem call_np {d : FnD} {T : Tbl} {args : List PV} (h : args.length = d.np) : callI d T args st = endI d.fr st.length (d.body T (args.map some ++ List.replicate (d.ns - d.np) none) st) := if_pos h
mutual
theorem freeze_pure {s : VSt} {k : Nat} : ∀ p : PV, pureP p = true → freeze s k p = p
  | .non, _ => rfl
  | .bl _, _ => rfl
  | .int _, _ => rfl
  | .str _, _ => rfl
  | .tup xs, h => by
    show PV.tup (freezes s k xs) = _
    rw [freezes_pure xs h]
  | .lst _, h => by cases h
  | .dct _ _, h => by cases h
  | .sset _, h => by cases h
  | .scr _, h => by cases h
  | .raw _ _ _, h => by cases h
  | .loc _, h => by cases h
theorem freezes_pure {s : VSt} {k : Nat} : ∀ ps : List PV, pures ps = true → freezes s k ps = ps
  | [], _ => rfl
  | p :: ps, h => by
    unfold pures at h
    rw [Bool.and_eq_true] at h
    show freeze s k p :: freezes s k ps = _
    rw [freeze_pure p h.1, freezes_pure ps h.2]
end
theorem fz_lst {s : VSt} {k : Nat} {ps : List PV} (h : pures ps = true) : freeze s k (.lst ps) = .lst ps := by
  show PV.lst (freezes s k ps) = _
  rw [freezes_pure ps h]
theorem wj {s : VSt} {k : Nat} {i : Int} : freeze s k (.int i) = .int i := rfl
theorem wm {s : VSt} {k : Nat} {i : Str} : freeze s k (.str i) = .str i := rfl
theorem wp {s : VSt} {k : Nat} {i : Bool} : freeze s k (.bl i) = .bl i := rfl
theorem wq {s : VSt} {k : Nat} : freeze s k .non = .non := rfl
theorem fz_loc {s : VSt} {p : PV} : freeze (s ++ [p]) s.length (.loc s.length) = p := by
  unfold freeze
  rw [if_neg (Nat.lt_irrefl _), List.getD_eq_getElem?_getD, List.getElem?_append_right (Nat.le_refl _)]
  simp
theorem pures_strs (xs : List Str) : pures (xs.map PV.str) = true := by
  induction xs with
  | nil => rfl
  | cons x xs ih => simp [pures, pureP, ih]
theorem take_app {s : VSt} {r : VSt} : (s ++ r).take s.length = s := by simp
def forL (B : PV → VEnv → VSt → SR) : List PV → VEnv → VSt → SR
  | [], env, st => .nx env st
  | x :: r, env, st => match B x env st with
    | .nx e s => forL B r e s
    | .ct e s => forL B r e s
    | .bk e s => .nx e s
    | .rt p s => .rt p s
    | .ex c fs s => .ex c fs s
    | .bad => .bad
theorem forP_const {j : IT} {xs : List PV} (h : ∀ s, Itm j s = some xs) {B : PV → VEnv → VSt → SR} : ∀ (m : Nat), m ≤ xs.length → ∀ (e : VEnv) (s : VSt), forP j xs.length B m e s = forL B (xs.drop (xs.length - m)) e s
  | 0, _, e, s => by
    unfold forP
    rw [h]
    simp [forL]
  | m + 1, hm, e, s => by
    unfold forP
    rw [h]
    have hi : xs.length - (m + 1) < xs.length := by omega
    simp only [if_true]
    rw [List.getElem?_eq_getElem hi, List.drop_eq_getElem_cons hi]
    have e1 : xs.length - (m + 1) + 1 = xs.length - m := by omega
    rw [e1]
    show (match B xs[xs.length - (m + 1)] e s with
      | .nx e s => forP j xs.length B m e s
      | .ct e s => forP j xs.length B m e s
      | .bk e s => .nx e s
      | .rt p s => .rt p s
      | .ex c fs s => .ex c fs s
      | .bad => .bad) = forL B (xs[xs.length - (m + 1)] :: xs.drop (xs.length - m)) e s
    unfold forL
    cases B xs[xs.length - (m + 1)] e s with
    | nx e2 s2 => exact forP_const h m (by omega) e2 s2
    | ct e2 s2 => exact forP_const h m (by omega) e2 s2
    | _ => rfl
theorem for_lst {a : EM} {g : GM} {body : SM} {xs : List PV} (h : a env st = .ok (.lst xs) st') : sFor (iSeq a) g body env st = forL (bodyP g body) xs env st' := by
  unfold sFor iSeq
  rw [h]
  show forP (.seq (.lst xs)) xs.length (bodyP g body) xs.length env st' = _
  rw [forP_const (j := .seq (.lst xs)) (fun s => rfl) xs.length (Nat.le_refl _)]
  simp
theorem for_tup {a : EM} {g : GM} {body : SM} {xs : List PV} (h : a env st = .ok (.tup xs) st') : sFor (iSeq a) g body env st = forL (bodyP g body) xs env st' := by
  unfold sFor iSeq
  rw [h]
  show forP (.seq (.tup xs)) xs.length (bodyP g body) xs.length env st' = _
  rw [forP_const (j := .seq (.tup xs)) (fun s => rfl) xs.length (Nat.le_refl _)]
  simp
theorem for_rng {a : EM} {g : GM} {body : SM} {i : Int} (h : a env st = .ok (.int i) st') (h2 : i < 2 ^ 62) (h1 : -(2 ^ 62) ≤ i) : sFor (iRng1' a) g body env st = forL (bodyP g body) ((List.range i.toNat).map fun (k : Nat) => .int (0 + (k : Int))) env st' := by
  unfold sFor iRng1'
  rw [h]
  have e : mkRng 0 i st' = .ok (.rng 0 i.toNat) st' := by
    unfold mkRng
    rw [if_pos (by omega), Int.sub_zero]
  show Res.s (mkRng 0 i st') _ = _
  rw [e]
  show forP (.rng 0 i.toNat) ((List.range i.toNat).map fun (k : Nat) => PV.int (0 + (k : Int))).length (bodyP g body) _ env st' = _
  rw [forP_const (j := .rng 0 i.toNat) (fun s => rfl) _ (Nat.le_refl _)]
  simp
/-- one turn -/
theorem forL_nil {B : PV → VEnv → VSt → SR} : forL B [] env st = .nx env st := rfl
theorem forL_cons {B : PV → VEnv → VSt → SR} {x : PV} {r : List PV} : forL B (x :: r) env st = match B x env st with
    | .nx e s => forL B r e s
    | .ct e s => forL B r e s
    | .bk e s => .nx e s
    | .rt p s => .rt p s
    | .ex c fs s => .ex c fs s
    | .bad => .bad := rfl
theorem x_body {g : GM} {body : SM} {x : PV} : bodyP g body x env st = match g x env with
  | some e' => body e' st
  | none => .bad := rfl
def compL (f : PV → VSt → Res (Option PV)) : List PV → List PV → VSt → Res (List PV)
  | [], acc, st => .ok acc st
  | x :: r, acc, st => if acc.length < 1000000 then (f x st).bind fun o s => compL f r (match o with
      | some y => acc ++ [y]
      | none => acc) s else .bad
theorem compP_const {j : IT} {xs : List PV} (h : ∀ s, Itm j s = some xs) {f : PV → VSt → Res (Option PV)} : ∀ (m : Nat), m ≤ xs.length → ∀ (acc : List PV) (s : VSt), compP j xs.length f m acc s = compL f (xs.drop (xs.length - m)) acc s
  | 0, _, acc, s => by
    unfold compP
    rw [h]
    simp [compL]
  | m + 1, hm, acc, s => by
    unfold compP
    rw [h]
    have hi : xs.length - (m + 1) < xs.length := by omega
    simp only [true_and]
    rw [List.getElem?_eq_getElem hi, List.drop_eq_getElem_cons hi]
    have e1 : xs.length - (m + 1) + 1 = xs.length - m := by omega
    rw [e1]
    unfold compL
    split
    · show (f xs[xs.length - (m + 1)] s).bind (fun o s => compP j xs.length f m (match o with
        | some y => acc ++ [y]
        | none => acc) s) = _
      cases f xs[xs.length - (m + 1)] s with
      | bad => rfl
      | ex _ _ _ => rfl
      | ok o s2 => exact compP_const h m (by omega) _ s2
    · rfl
/-- a comprehension whose element and test have values -/
theorem compL_map {f : PV → VSt → Res (Option PV)} {g : PV → Option PV} : ∀ (xs acc : List PV) (s : VSt), (∀ x ∈ xs, f x s = .ok (g x) s) → acc.length + xs.length ≤ 1000000 → compL f xs acc s = .ok (acc ++ xs.filterMap g) s
  | [], acc, s, _, _ => by simp [compL]
  | x :: xs, acc, s, h, hl => by
    rw [List.length_cons] at hl
    unfold compL
    rw [if_pos (by omega), h x List.mem_cons_self, zf]
    cases e : g x with
    | none => rw [compL_map xs acc s (fun y hy => h y (List.mem_cons_of_mem _ hy)) (by omega), List.filterMap_cons_none e]
    | some y => rw [compL_map xs (acc ++ [y]) s (fun y hy => h y (List.mem_cons_of_mem _ hy)) (by rw [List.length_append]; simp; omega), List.filterMap_cons_some e]; simp
theorem comp_const {it : IM} {g : GM} {t el : EM} {vs : List Nat} {j : IT} {xs : List PV} (hi : it env st = .ok j st') (h : ∀ s, Itm j s = some xs) : eComp it g t el vs env st = (compL (compF g t el vs env) xs [] st').bind fun ys s => .ok (.lst ys) s := by
  unfold eComp
  rw [hi, zf]
  simp only [h]
  rw [compP_const h xs.length (Nat.le_refl _)]
  simp
theorem i_lst {a : EM} {xs : List PV} (h : a env st = .ok (.lst xs) st') : iSeq a env st = .ok (.seq (.lst xs)) st' := by unfold iSeq; rw [h]; rfl
theorem i_tup {a : EM} {xs : List PV} (h : a env st = .ok (.tup xs) st') : iSeq a env st = .ok (.seq (.tup xs)) st' := by unfold iSeq; rw [h]; rfl
theorem i_rng {a : EM} {i : Int} (h : a env st = .ok (.int i) st') (h2 : i < 2 ^ 62) (h1 : -(2 ^ 62) ≤ i) : iRng1' a env st = .ok (.rng 0 i.toNat) st' := by
  unfold iRng1'
  rw [h]
  show mkRng 0 i st' = _
  unfold mkRng
  rw [if_pos (by omega), Int.sub_zero]
theorem wipe1 {env : VEnv} {i : Nat} {x : PV} : gName i x (wipeE env [i]) = some (env.set i (some x)) := by
  show some ((env.set i none).set i (some x)) = _
  rw [List.set_set]
theorem comp_gen {it : IM} {t el : EM} {i : Nat} {j : IT} {xs : List PV} {p : PV → Bool} {f : PV → PV} (hi : it env st = .ok j st) (hj : ∀ s, Itm j s = some xs) (hl : xs.length ≤ 1000000) (ht : ∀ x ∈ xs, t (env.set i (some x)) st = .ok (.bl (p x)) st) (h : ∀ x ∈ xs, p x = true → el (env.set i (some x)) st = .ok (f x) st) :
    eComp it (gName i) t el [i] env st = .ok (.lst ((xs.filter p).map f)) st := by
  rw [comp_const hi hj, compL_map (g := fun x => if p x = true then some (f x) else none) xs [] st (fun x hx => ?_) (by simpa using hl), zf]
  · congr 2
    show [] ++ xs.filterMap _ = _
    rw [List.nil_append]
    clear hj hl ht h
    induction xs with
    | nil => rfl
    | cons x xs ih =>
      by_cases e : p x = true
      · rw [List.filterMap_cons_some (b := f x) (by simp [e]), ih, List.filter_cons_of_pos e, List.map_cons]
      · rw [List.filterMap_cons_none (by simp [e]), ih, List.filter_cons_of_neg e]
  · unfold compF
    rw [wipe1]
    show Res.bind (t (env.set i (some x)) st).nox _ = _
    rw [ht x hx, zg, zf, zq]
    by_cases e : p x = true
    · rw [if_pos e, h x hx e, zg, zf, if_pos e]
    · rw [if_neg e, if_neg e]
theorem comp_all {it : IM} {el : EM} {i : Nat} {j : IT} {xs : List PV} {f : PV → PV} (hi : it env st = .ok j st) (hj : ∀ s, Itm j s = some xs) (hl : xs.length ≤ 1000000) (h : ∀ x ∈ xs, el (env.set i (some x)) st = .ok (f x) st) :
    eComp it (gName i) tTrue el [i] env st = .ok (.lst (xs.map f)) st := by
  rw [comp_gen (p := fun _ => true) (f := f) hi hj hl (fun _ _ => rfl) (fun x hx _ => h x hx), List.filter_eq_self.mpr (by simp)]
theorem comp_rng {a el : EM} {i : Nat} {m : Int} {f : Nat → PV} (ha : a env st = .ok (.int m) st) (h0 : 0 ≤ m) (h1 : m ≤ 1000000) (h : ∀ k : Nat, (k : Int) < m → el (env.set i (some (.int (k : Int)))) st = .ok (f k) st) :
    eComp (iRng1' a) (gName i) tTrue el [i] env st = .ok (.lst ((List.range m.toNat).map f)) st := by
  have hh : ∀ k : Nat, k < m.toNat → el (env.set i (some (.int (k : Int)))) st = .ok (f k) st := fun k hk => h k (by omega)
  rw [comp_all (j := .rng 0 m.toNat) (f := fun x => match x with
    | .int k => f k.toNat
    | _ => .non) (i_rng ha (by omega) (by omega)) (fun s => rfl) (by simp; omega) (fun x hx => ?_)]
  · rw [List.map_map]
    congr 3
    funext k
    show f ((0 + (k : Int)).toNat) = f k
    congr 1
    omega
  · obtain ⟨k, hk, rfl⟩ := List.mem_map.mp hx
    rw [List.mem_range] at hk
    have e : (0 + (k : Int)) = (k : Int) := Int.zero_add _
    rw [e]
    rw [hh k hk]
    rfl
end
end Vm
namespace Vm
open PySem L2
mutual
def sokP : PV → Bool
  | .non => true | .bl _ => true | .int _ => true
  | .str x => PyData.strOk x
  | .tup xs => soks xs
  | .lst xs => soks xs
  | _ => false
def soks : List PV → Bool
  | [] => true
  | x :: r => sokP x && soks r
end
mutual
def depP : PV → Nat
  | .tup xs => deps xs + 1
  | .lst xs => deps xs + 1
  | _ => 0
def deps : List PV → Nat
  | [] => 0
  | x :: r => max (depP x) (deps r)
end
mutual
theorem toD_sok : ∀ p : PV, sokP p = true → ∃ d, toD p = some d ∧ d.canLay0 = true ∧ d.depth = depP p
  | .non, _ => ⟨.none, rfl, rfl, rfl⟩
  | .bl b, _ => ⟨.bool b, rfl, rfl, rfl⟩
  | .int i, _ => ⟨.int i, rfl, rfl, rfl⟩
  | .str x, h => ⟨.str x, rfl, h, rfl⟩
  | .tup xs, h => by
    obtain ⟨ds, e, c, k⟩ := toDs_sok xs h
    exact ⟨.tuple ds, by show (toDs xs).map PyData.tuple = _; rw [e]; rfl, c, by show PyData.depthAll ds + 1 = deps xs + 1; rw [k]⟩
  | .lst xs, h => by
    obtain ⟨ds, e, c, k⟩ := toDs_sok xs h
    exact ⟨.list ds, by show (toDs xs).map PyData.list = _; rw [e]; rfl, c, by show PyData.depthAll ds + 1 = deps xs + 1; rw [k]⟩
  | .dct _ _, h => by cases h
  | .sset _, h => by cases h
  | .scr _, h => by cases h
  | .raw _ _ _, h => by cases h
  | .loc _, h => by cases h
theorem toDs_sok : ∀ ps : List PV, soks ps = true → ∃ ds, toDs ps = some ds ∧ PyData.canLayAll0 ds = true ∧ PyData.depthAll ds = deps ps
  | [], _ => ⟨[], rfl, rfl, rfl⟩
  | p :: ps, h => by
    unfold soks at h
    rw [Bool.and_eq_true] at h
    obtain ⟨d, e, c, k⟩ := toD_sok p h.1
    obtain ⟨ds, e2, c2, k2⟩ := toDs_sok ps h.2
    refine ⟨d :: ds, ?_, ?_, ?_⟩
    · show (match toD p, toDs ps with
        | some d, some ds => some (d :: ds)
        | _, _ => none) = _
      rw [e, e2]
    · show (d.canLay0 && PyData.canLayAll0 ds) = true
      rw [c, c2]; rfl
    · show max d.depth (PyData.depthAll ds) = max (depP p) (deps ps)
      rw [k, k2]
end
theorem shp_sok {d : PyData} {p : PV} (c : d.canLay0 = true) (k : d.depth = depP p) (h : depP p ≤ 64) : SeqAt.shaped d = true := by
  unfold SeqAt.shaped
  rw [c, k]
  simpa using h
def isSq : PV → Bool
  | .tup _ => true
  | .lst _ => true
  | .loc _ => true
  | _ => false
/-- one value with itself -/
theorem v_same {neg : Bool} {p q : PV} {st : VSt} (s : sokP (deref st p) = true) (h : depP (deref st p) ≤ 64) (i : isSq p = true) (e : deref st q = deref st p) : vEqF neg p q st = .ok (.bl (!neg)) st := by
  obtain ⟨d, e1, c, k⟩ := toD_sok _ s
  have sh := shp_sok c k h
  have er := SeqAt.eqv_refl d c
  cases p with
  | tup xs =>
    have e2 : deref st q = .tup xs := e
    have e3 : deref st (.tup xs) = .tup xs := rfl
    have e4 : toD (.tup xs) = some d := e1
    simp only [vEqF, e2, e3, e4, sh, er, Bool.and_self, if_true]
    cases neg <;> rfl
  | lst xs =>
    have e2 : deref st q = .lst xs := e
    have e3 : deref st (.lst xs) = .lst xs := rfl
    have e4 : toD (.lst xs) = some d := e1
    simp only [vEqF, e2, e3, e4, sh, er, Bool.and_self, if_true]
    cases neg <;> rfl
  | loc n =>
    generalize hr : deref st (.loc n) = r at s h e e1 k
    cases r with
    | dct ks xs => cases s
    | _ =>
      simp only [vEqF, hr, e, e1, sh, er, Bool.and_self, if_true]
      cases neg <;> rfl
  | _ => cases i
/-- with the empty list, the empty tuple -/
theorem v_nil {neg : Bool} {xs : List PV} {st : VSt} (s : soks xs = true) (h : deps xs < 64) : vEqF neg (.lst xs) (.lst []) st = .ok (.bl (if neg then !xs.isEmpty else xs.isEmpty)) st := by
  obtain ⟨ds, e, c, k⟩ := toDs_sok xs s
  have e1 : toD (.lst xs) = some (.list ds) := by show (toDs xs).map PyData.list = _; rw [e]; rfl
  have e2 : toD (.lst []) = some (.list []) := rfl
  have sh : SeqAt.shaped (.list ds) = true := shp_sok (p := .lst xs) c (by show PyData.depthAll ds + 1 = deps xs + 1; rw [k]) h
  have sh2 : SeqAt.shaped (.list []) = true := rfl
  have e3 : deref st (.lst xs) = .lst xs := rfl
  have e4 : deref st (.lst []) = .lst [] := rfl
  simp only [vEqF, e3, e4, e1, e2, sh, sh2, Bool.and_self, if_true]
  cases xs with
  | nil =>
    obtain rfl : [] = ds := by simpa [toDs] using e
    cases neg <;> rfl
  | cons x r =>
    cases ds with
    | nil => exact absurd e (by unfold toDs; cases toD x <;> cases toDs r <;> simp)
    | cons d ds => cases neg <;> rfl
theorem v_nilt {neg : Bool} {xs : List PV} {st : VSt} (s : soks xs = true) (h : deps xs < 64) : vEqF neg (.tup xs) (.tup []) st = .ok (.bl (if neg then !xs.isEmpty else xs.isEmpty)) st := by
  obtain ⟨ds, e, c, k⟩ := toDs_sok xs s
  have e1 : toD (.tup xs) = some (.tuple ds) := by show (toDs xs).map PyData.tuple = _; rw [e]; rfl
  have e2 : toD (.tup []) = some (.tuple []) := rfl
  have sh : SeqAt.shaped (.tuple ds) = true := shp_sok (p := .tup xs) c (by show PyData.depthAll ds + 1 = deps xs + 1; rw [k]) h
  have sh2 : SeqAt.shaped (.tuple []) = true := rfl
  have e3 : deref st (.tup xs) = .tup xs := rfl
  have e4 : deref st (.tup []) = .tup [] := rfl
  simp only [vEqF, e3, e4, e1, e2, sh, sh2, Bool.and_self, if_true]
  cases xs with
  | nil =>
    obtain rfl : [] = ds := by simpa [toDs] using e
    cases neg <;> rfl
  | cons x r =>
    cases ds with
    | nil => exact absurd e (by unfold toDs; cases toD x <;> cases toDs r <;> simp)
    | cons d ds => cases neg <;> rfl
end Vm
namespace Vm
open PySem PySem.Spec L2
theorem ge_add {k n : Nat} (h : k ≤ n) : ∃ m, n = m + k := ⟨n - k, by omega⟩
theorem sb_ass (r : SR) (a b : SM) : r.bind (sCons a b) = (r.bind a).bind b := by cases r <;> rfl
/-- a loop as a fold: R says how the frame and the store stand for what is held -/
theorem forL_fold {α σ : Type} {B : PV → VEnv → VSt → SR} {enc : α → PV} {f : σ → α → σ} {R : σ → VEnv → VSt → Prop} : ∀ (xs : List α) (s0 : σ) (e : VEnv) (st : VSt),
    (∀ (pre : List α) (x : α) (post : List α), xs = pre ++ x :: post → ∀ e st, R (pre.foldl f s0) e st → ∃ e' st', B (enc x) e st = .nx e' st' ∧ R (f (pre.foldl f s0) x) e' st') → R s0 e st → ∃ e' st', forL B (xs.map enc) e st = .nx e' st' ∧ R (xs.foldl f s0) e' st'
  | [], s0, e, st, _, r => ⟨e, st, rfl, r⟩
  | x :: xs, s0, e, st, h, r => by
    obtain ⟨e1, st1, q, r1⟩ := h [] x xs rfl e st r
    obtain ⟨e2, st2, q2, r2⟩ := forL_fold xs (f s0 x) e1 st1 (fun pre y post hx e st r => by
      subst hx
      exact h (x :: pre) y post rfl e st r) r1
    refine ⟨e2, st2, ?_, r2⟩
    rw [List.map_cons, forL_cons, q]
    exact q2
theorem deref_end {s : VSt} {p : PV} : deref (s ++ [p]) (.loc s.length) = p := by
  show (s ++ [p]).getD s.length .non = p
  simp
theorem set_end {s : VSt} {p q : PV} : (s ++ [p]).set s.length q = s ++ [q] := by simp
theorem box1 {s : VSt} {p : PV} (h : noLoc p = true) : boxV p s = .ok (.loc s.length) (s ++ [p]) := if_pos h
/-- x.append(y) -/
theorem r_app {l a : EM} {env : VEnv} {st st' : VSt} {n : Nat} {xs : List PV} {y : PV} (hl : l env st = .ok (.loc n) st) (hd : deref st (.loc n) = .lst xs) (ha : a env st = .ok y st') (hd' : deref st' (.loc n) = .lst xs) (hn : xs.length < 1000000) (hy : pureP y = true) : sApp l a env st = .nx env (st'.set n (.lst (xs ++ [y]))) := by
  unfold sApp
  rw [hl, zk]
  dsimp only
  rw [hd]
  show Res.s (a env st) _ = _
  rw [ha, zk]
  rw [hd']
  dsimp only
  rw [if_pos ⟨hn, hy⟩]
theorem compL_enc {α : Type} {enc : α → PV} {f : PV → VSt → Res (Option PV)} {g : α → Option PV} {st : VSt} : ∀ (l : List α) (acc : List PV), (∀ a ∈ l, f (enc a) st = .ok (g a) st) → acc.length + l.length ≤ 1000000 → compL f (l.map enc) acc st = .ok (acc ++ l.filterMap g) st
  | [], acc, _, _ => by simp [compL]
  | a :: l, acc, h, hl => by
    rw [List.length_cons] at hl
    rw [List.map_cons]
    unfold compL
    rw [if_pos (by omega), h a List.mem_cons_self, zf]
    cases e : g a with
    | none => rw [compL_enc l acc (fun y hy => h y (List.mem_cons_of_mem _ hy)) (by omega), List.filterMap_cons_none e]
    | some y => rw [compL_enc l (acc ++ [y]) (fun y hy => h y (List.mem_cons_of_mem _ hy)) (by rw [List.length_append]; simp; omega), List.filterMap_cons_some e]; simp
theorem fm_fil {α β : Type} (p : α → Bool) (r : α → β) : ∀ l : List α, l.filterMap (fun a => if p a = true then some (r a) else none) = (l.filter p).map r
  | [] => rfl
  | a :: l => by
    by_cases e : p a = true
    · rw [List.filterMap_cons_some (b := r a) (by simp [e]), fm_fil p r l, List.filter_cons_of_pos e, List.map_cons]
    · rw [List.filterMap_cons_none (by simp [e]), fm_fil p r l, List.filter_cons_of_neg e]
/-- over a target g that stores -/
theorem comp_enc {α : Type} {it : IM} {g : GM} {t el : EM} {vs : List Nat} {env : VEnv} {st : VSt} {j : IT} {l : List α} {enc : α → PV} {ev : α → VEnv} {p : α → Bool} {res : α → PV} (hi : it env st = .ok j st) (hj : ∀ s, Itm j s = some (l.map enc)) (hl : l.length ≤ 1000000)
    (hg : ∀ a ∈ l, g (enc a) (wipeE env vs) = some (ev a)) (ht : ∀ a ∈ l, t (ev a) st = .ok (.bl (p a)) st) (h : ∀ a ∈ l, p a = true → el (ev a) st = .ok (res a) st) :
    eComp it g t el vs env st = .ok (.lst ((l.filter p).map res)) st := by
  rw [comp_const hi hj, compL_enc (g := fun a => if p a = true then some (res a) else none) l [] (fun a ha => ?_) (by simpa using hl), zf, List.nil_append, fm_fil]
  unfold compF
  rw [hg a ha]
  show Res.bind (t (ev a) st).nox _ = _
  rw [ht a ha, zg, zf, zq]
  by_cases e : p a = true
  · rw [if_pos e, h a ha e, zg, zf, if_pos e]
  · rw [if_neg e, if_neg e]
theorem comp_enc1 {α : Type} {it : IM} {t el : EM} {i : Nat} {env : VEnv} {st : VSt} {j : IT} {l : List α} {enc : α → PV} {p : α → Bool} {res : α → PV} (hi : it env st = .ok j st) (hj : ∀ s, Itm j s = some (l.map enc)) (hl : l.length ≤ 1000000)
    (ht : ∀ a ∈ l, t (env.set i (some (enc a))) st = .ok (.bl (p a)) st) (h : ∀ a ∈ l, p a = true → el (env.set i (some (enc a))) st = .ok (res a) st) :
    eComp it (gName i) t el [i] env st = .ok (.lst ((l.filter p).map res)) st := comp_enc (ev := fun a => env.set i (some (enc a))) hi hj hl (fun a _ => wipe1) ht h
theorem comp_enc0 {α : Type} {it : IM} {el : EM} {i : Nat} {env : VEnv} {st : VSt} {j : IT} {l : List α} {enc : α → PV} {res : α → PV} (hi : it env st = .ok j st) (hj : ∀ s, Itm j s = some (l.map enc)) (hl : l.length ≤ 1000000)
    (h : ∀ a ∈ l, el (env.set i (some (enc a))) st = .ok (res a) st) :
    eComp it (gName i) tTrue el [i] env st = .ok (.lst (l.map res)) st := by
  rw [comp_enc1 (p := fun _ => true) (res := res) hi hj hl (fun _ _ => rfl) (fun a ha _ => h a ha), List.filter_eq_self.mpr (by simp)]
end Vm
namespace Vm
open PySem PySem.Spec L2
section
variable {α : Type} (enc : α → PV)
def dE (l : List (Str × α)) : PV := .dct (l.map fun p => Sum.inr p.1) (l.map fun p => enc p.2)
end
section
variable {α : Type} {enc : α → PV}
def lkE : List (Str × α) → Str → Option α
  | [], _ => none
  | p :: l, x => if p.1 = x then some p.2 else lkE l x
def hasE (l : List (Str × α)) (x : Str) : Bool := (lkE l x).isSome
def putE (l : List (Str × α)) (x : Str) (a : α) : List (Str × α) := if hasE l x = true then l.map (fun p => (p.1, if p.1 = x then a else p.2)) else l ++ [(x, a)]
theorem hasE_iff {l : List (Str × α)} {x : Str} : hasE l x = true ↔ x ∈ l.map Prod.fst := by
  induction l with
  | nil => simp [hasE, lkE]
  | cons p l ih =>
    unfold hasE lkE
    by_cases h : p.1 = x
    · rw [if_pos h]; simp [h]
    · rw [if_neg h]
      show hasE l x = true ↔ _
      rw [ih, List.map_cons, List.mem_cons]
      exact ⟨.inr, fun z => z.resolve_left fun e => h e.symm⟩
theorem lk_app {l : List (Str × α)} {x y : Str} {a : α} (h : hasE l x = false) : lkE (l ++ [(x, a)]) y = if y = x then some a else lkE l y := by
  induction l with
  | nil =>
    show (if x = y then some a else none) = _
    by_cases e : y = x
    · rw [if_pos e, if_pos e.symm]
    · rw [if_neg e, if_neg (Ne.symm e)]; rfl
  | cons p l ih =>
    have hp : p.1 ≠ x := fun e => by unfold hasE lkE at h; rw [if_pos e] at h; cases h
    have hl : hasE l x = false := by unfold hasE lkE at h; rw [if_neg hp] at h; exact h
    show (if p.1 = y then some p.2 else lkE (l ++ [(x, a)]) y) = if y = x then some a else (if p.1 = y then some p.2 else lkE l y)
    rw [ih hl]
    by_cases e : p.1 = y
    · rw [if_pos e, if_pos e, if_neg (by rw [← e]; exact hp)]
    · rw [if_neg e, if_neg e]
theorem lk_upd {l : List (Str × α)} {x y : Str} {a : α} : lkE (l.map (fun p => (p.1, if p.1 = x then a else p.2))) y = if y = x then (lkE l y).map fun _ => a else lkE l y := by
  induction l with
  | nil => simp [lkE]
  | cons p l ih =>
    show (if p.1 = y then some (if p.1 = x then a else p.2) else lkE (l.map (fun p => (p.1, if p.1 = x then a else p.2))) y) = if y = x then (if p.1 = y then some p.2 else lkE l y).map (fun _ => a) else (if p.1 = y then some p.2 else lkE l y)
    by_cases e : p.1 = y
    · rw [if_pos e, if_pos e]
      by_cases e2 : y = x
      · rw [if_pos e2, if_pos (e.trans e2)]; rfl
      · rw [if_neg e2, if_neg fun z => e2 (e.symm.trans z)]
    · rw [if_neg e, if_neg e, ih]
theorem lk_put (l : List (Str × α)) (x y : Str) (a : α) : lkE (putE l x a) y = if y = x then some a else lkE l y := by
  unfold putE
  by_cases h : hasE l x = true
  · rw [if_pos h, lk_upd]
    by_cases e : y = x
    · rw [if_pos e, if_pos e]
      subst e
      unfold hasE at h
      obtain ⟨b, hb⟩ := Option.isSome_iff_exists.mp h
      rw [hb]; rfl
    · rw [if_neg e, if_neg e]
  · rw [if_neg h]
    exact lk_app (Bool.eq_false_iff.mpr h)
theorem put_lenE (l : List (Str × α)) (x : Str) (a : α) : (putE l x a).length ≤ l.length + 1 := by
  unfold putE
  split
  · rw [List.length_map]; omega
  · rw [List.length_append]; exact Nat.le_refl _
theorem kl_E (l : List (Str × α)) (x : Str) : kLook (l.map fun p => (Sum.inr p.1 : Key)) (l.map fun p => enc p.2) (.inr x) = (lkE l x).map enc := by
  induction l with
  | nil => rfl
  | cons p l ih =>
    show (if (Sum.inr p.1 : Key) = Sum.inr x then some (enc p.2) else kLook (l.map fun p => (Sum.inr p.1 : Key)) (l.map fun p => enc p.2) (.inr x)) = (if p.1 = x then some p.2 else lkE l x).map enc
    by_cases h : p.1 = x
    · rw [if_pos h, if_pos (by rw [h])]; rfl
    · rw [if_neg h, if_neg (fun z => h (Sum.inr.inj z)), ih]
theorem hasK_E (l : List (Str × α)) (x : Str) : hasK (l.map fun p => (Sum.inr p.1 : Key)) (.inr x) = hasE l x := by
  induction l with
  | nil => rfl
  | cons p l ih =>
    show (decide ((Sum.inr p.1 : Key) = Sum.inr x) || hasK (l.map fun p => (Sum.inr p.1 : Key)) (.inr x)) = (if p.1 = x then some p.2 else lkE l x).isSome
    by_cases h : p.1 = x
    · rw [if_pos h, decide_eq_true (by rw [h])]; rfl
    · rw [if_neg h, decide_eq_false (fun z => h (Sum.inr.inj z)), ih]; rfl
theorem put_E (l : List (Str × α)) (x : Str) (a : α) : PV.dct (kPutK (l.map fun p => Sum.inr p.1) (.inr x)) (kPutV (l.map fun p => (Sum.inr p.1 : Key)) (l.map fun p => enc p.2) (.inr x) (enc a)) = dE enc (putE l x a) := by
  unfold kPutK kPutV putE dE
  rw [hasK_E]
  by_cases h : hasE l x = true
  · rw [if_pos h, if_pos h, if_pos h]
    congr 1
    · rw [List.map_map]; rfl
    · have : (l.map fun p => (Sum.inr p.1 : Key)).zip (l.map fun p => enc p.2) = l.map fun p => ((Sum.inr p.1 : Key), enc p.2) := by
        clear h
        induction l with
        | nil => rfl
        | cons p l ih => rw [List.map_cons, List.map_cons, List.zip_cons_cons, ih, List.map_cons]
      rw [this, List.map_map, List.map_map]
      refine List.map_congr_left fun p _ => ?_
      show (if (Sum.inr p.1 : Key) = Sum.inr x then enc a else enc p.2) = enc (if p.1 = x then a else p.2)
      by_cases e : p.1 = x
      · rw [if_pos e, if_pos (by rw [e])]
      · rw [if_neg e, if_neg (fun z => e (Sum.inr.inj z))]
  · rw [if_neg h, if_neg h, if_neg h, List.map_append, List.map_append]; rfl
theorem dE_noLoc (h : ∀ a, pureP (enc a) = true) : ∀ l : List (Str × α), noLoc (dE enc l) = true
  | [] => rfl
  | p :: l => by
    show (pureP (enc p.2) && pures (l.map fun p => enc p.2)) = true
    have : pures (l.map fun p => enc p.2) = true := dE_noLoc h l
    rw [h, this]; rfl
/-- d[k] = v -/
theorem r_put {d k v : EM} {env : VEnv} {st st1 st2 st3 : VSt} {n : Nat} {x : Str} {a : α} {l : List (Str × α)} (hv : v env st = .ok (enc a) st1) (hd : d env st1 = .ok (.loc n) st2) (hk : k env st2 = .ok (.str x) st3) (hd3 : deref st3 (.loc n) = dE enc l) (hl : l.length < 1000000) (hp : pureP (enc a) = true) :
    sPut d k v env st = .nx env (st3.set n (dE enc (putE l x a))) := by
  unfold sPut
  rw [hv, zk, hd, zk, hk, zk]
  dsimp only
  rw [hd3, show keyP (.str x) = some (Sum.inr x) from rfl]
  unfold dE
  dsimp only
  rw [if_pos ⟨by rw [List.length_map]; exact hl, hp⟩, put_E]; rfl
/-- d[k] -/
theorem v_ixE {st : VSt} {p : PV} {x : Str} {a : α} {l : List (Str × α)} (h : deref st p = dE enc l) (hx : lkE l x = some a) : vIx p (.str x) st = .ok (enc a) st := by
  unfold vIx
  rw [h]
  unfold dE
  dsimp only
  rw [show keyP (.str x) = some (Sum.inr x) from rfl]
  dsimp only
  rw [kl_E, hx]
  rfl
end
end Vm
namespace Vm
open PySem PySem.Spec L2
def sRaise (c : Nat) : SM := fun _ st => .ex c [] st
section
variable {X : Cx} {W : XD} {pr : Prg} {T : Tbl} {n : Nat} {bs : List Str} {cs : List (Str × Int)} {fr : Bool}
def eNotL (a : EM) : EM := fun env st => (a env st).bind fun x s => match x with
  | .lst xs => .ok (.bl xs.isEmpty) s
  | _ => .bad
end
section
variable {env : VEnv} {st : VSt}
theorem zc {c : Nat} : sRaise c env st = .ex c [] st := rfl
theorem zd {a : EM} : eNotL a env st = (a env st).bind fun x s => match x with
  | .lst xs => .ok (.bl xs.isEmpty) s
  | _ => .bad := rfl
theorem ze {fr : Bool} {k c : Nat} : endI fr k (.ex c [] st) = .ex c [] (st.take k) := rfl
end
end Vm
namespace Vm
open PySem PySem.Spec L2
end Vm
namespace Vm
open PySem PySem.Spec L2
end Vm
namespace Vm
open PySem PySem.Spec PyProof.Rows L2
end Vm
namespace Vm
open PySem PySem.Spec PyProof.Rows L2
end Vm
namespace Vm
open PySem PySem.Spec PyProof.Rows L2
end Vm
namespace Vm
open PySem PySem.Spec PyProof.Rows L2
end Vm
namespace Vm
open PySem PySem.Spec PyProof.Rows L2
end Vm
namespace Vm
open PySem PySem.Spec PyProof.Rows L2
def sPar (i j : Nat) (a : AM) : SM := fun env st => (a env st).s fun xs s => match xs with
  | [x, y] => .nx ((env.set i (some x)).set j (some y)) s
  | _ => .bad
theorem zb {i j : Nat} {a : AM} {env : VEnv} {st : VSt} : sPar i j a env st = (a env st).s fun xs s => match xs with
  | [x, y] => .nx ((env.set i (some x)).set j (some y)) s
  | _ => .bad := rfl
end Vm
namespace Vm
open PySem L2
theorem soks_ints : ∀ xs : List Int, soks (xs.map PV.int) = true
  | [] => rfl
  | x :: xs => by
    show (sokP (.int x) && soks (xs.map PV.int)) = true
    rw [soks_ints xs]; rfl
theorem deps_ints : ∀ xs : List Int, deps (xs.map PV.int) = 0
  | [] => rfl
  | x :: xs => by
    show max (depP (.int x)) (deps (xs.map PV.int)) = 0
    rw [deps_ints xs]; rfl
end Vm
namespace Vm
open PySem PySem.Spec PyProof.Rows L2
section
variable {X : Cx} {W : XD}
def intsP : List PV → Option (List Int)
  | [] => some []
  | .int i :: r => (intsP r).map (i :: ·)
  | _ => none
def plsP : List PV → Option (List (List Int))
  | [] => some []
  | .tup xs :: r => match intsP xs, plsP r with
    | some l, some ls => some (l :: ls)
    | _, _ => none
  | _ => none
def minL (l : List Int) (ls : List (List Int)) : List Int := (PySem.W.minOf (PySem.W.Tup.mk l) (ls.map PySem.W.Tup.mk)).items
def vMinD (x d : PV) (st : VSt) : Res PV := match deref st x, d with
  | .lst xs, .non => match plsP xs with
    | some [] => .ok .non st
    | some (l :: ls) => .ok (.tup ((minL l ls).map PV.int)) st
    | none => .bad
  | _, _ => .bad
theorem intsP_map : ∀ {xs : List PV} {l : List Int}, intsP xs = some l → xs = l.map PV.int
  | [], l, e => by cases e; rfl
  | .int i :: r, l, e => by
    unfold intsP at e
    obtain ⟨l', e', rfl⟩ := Option.map_eq_some_iff.mp e
    rw [intsP_map e']; rfl
  | .non :: _, _, e => by cases e
  | .bl _ :: _, _, e => by cases e
  | .str _ :: _, _, e => by cases e
  | .tup _ :: _, _, e => by cases e
  | .lst _ :: _, _, e => by cases e
  | .dct _ _ :: _, _, e => by cases e
  | .sset _ :: _, _, e => by cases e
  | .scr _ :: _, _, e => by cases e
  | .loc _ :: _, _, e => by cases e
  | .raw _ _ _ :: _, _, e => by cases e
end
def eMinD (a d : EM) : EM := fun env st => (a env st).bind fun x s => (d env s).bind fun y s2 => vMinD x y s2
theorem za {a d : EM} {env : VEnv} {st : VSt} : eMinD a d env st = (a env st).bind fun x s => (d env s).bind fun y s2 => vMinD x y s2 := rfl
end Vm
namespace Vm
open PySem PySem.Spec PyProof.Rows L2
end Vm
namespace Vm
open PySem PySem.Spec PyProof.Rows L2
/-- where the zip stands at turn i -/
def ZlSt (h : Heap) (z TI TO i1 i2 l1 l2 S i : Nat) : Prop := h.IsTupleIter i1 l1 i ∧ h.IsTupleIter i2 l2 i ∧ IsPair h TI (.ref i1) (.ref i2) ∧
  ((IsZip h z TI TO .none ∧ ∃ a b, IsPair h TO a b) ∨ ∃ (T : Addr) (f : Bool) (oT : Obj), IsZipHeld h z TI TO T f ∧ h.get? T = some oT ∧ T ≠ z ∧ T ≠ i1 ∧ T ≠ i2 ∧ T ≠ S ∧ 0 < i)
structure ZlAp (z TI TO i1 i2 l1 l2 S : Addr) : Prop where
  D : ZipApart z TI TO i1 i2 l1 l2
  Sz : S ≠ z
  STI : S ≠ TI
  STO : S ≠ TO
  Si1 : S ≠ i1
  Si2 : S ≠ i2
  Sl1 : S ≠ l1
  Sl2 : S ≠ l2
  l1TI : l1 ≠ TI
  l2TI : l2 ≠ TI
theorem ZlSt.keep {h h' : Heap} {z TI TO i1 i2 l1 l2 S i : Addr} (N : ZlAp z TI TO i1 i2 l1 l2 S) (x : ZlSt h z TI TO i1 i2 l1 l2 S i) (hk : ∀ b o, b ≠ S → h.get? b = some o → h'.get? b = some o) : ZlSt h' z TI TO i1 i2 l1 l2 S i := by
  obtain ⟨h1, h2, hTI, hz⟩ := x
  refine ⟨h1.at fun o e => hk _ o N.Si1.symm e, h2.at fun o e => hk _ o N.Si2.symm e, hk _ _ N.STI.symm hTI, ?_⟩
  rcases hz with ⟨hz, a, b, hTO⟩ | ⟨T, f, oT, hz, hT, n1, n2, n3, n4, n5⟩
  · exact .inl ⟨hk _ _ N.Sz.symm hz, a, b, hk _ _ N.STO.symm hTO⟩
  · exact .inr ⟨T, f, oT, hk _ _ N.Sz.symm hz, hk _ _ n4 hT, n1, n2, n3, n4, n5⟩
theorem Later.ext0 {ρ : List Addr} {H H' : Hp} (k : ∀ b o, H b = some o → H' b = some o) : Later ρ H ρ H' :=
  ⟨⟨[], by simp, by simp⟩, fun a o e _ => k a o e, fun a o e => ⟨o, k a o e⟩, fun a u e => k a _ e, fun a o u e => k a _ e⟩
theorem SRel.ext0 {G : Gx} {ρ : List Addr} {st : VSt} {H H' : Hp} (s : SRel G ρ st H) (k : ∀ b o, H b = some o → H' b = some o) : SRel G ρ st H' :=
  ⟨s.nd, s.len, fun n q a e1 e2 => by
    obtain ⟨o, nl⟩ := s.obj n q a e1 e2
    obtain ⟨u, e⟩ := o.some
    exact ⟨o.later (.ext0 k) (by rw [e]; exact k a u e), nl⟩, fun d hd => by
    obtain ⟨h1, u, e⟩ := s.hid d hd
    exact ⟨h1, u, k d u e⟩, s.ned⟩
theorem list_extendT (l b : Addr) (its : Array Value) (n : Nat) (its2 : Array Value) (hz : its.size + its2.size ≤ sizeLine) :
    Meets (Builtin.«list.extend» ⟨[.ref l, .ref b], []⟩) (fun _ R s => s.heap.get? l = some { cls := .type "list", dict := none, data := .seq its n, slots := #[] } ∧ s.heap.IsTuple b its2 ∧ R (.ok (.ret Value.none)) { s with heap := s.heap.update l (Obj.mapSeq fun x => x ++ its2) }) :=
  .of_wp fun prog w A R s h => by
    obtain ⟨hl, hb, h⟩ := h
    obtain ⟨ob, hob, hcb, nb, hdb⟩ := id hb
    have hne : l ≠ b := fun e => by
      subst e
      rw [hl] at hob
      have eo := Option.some.inj hob
      rw [← eo] at hcb
      have hcb : (Value.type "list" == Value.type "tuple") = true := by
        have : Value.type "list" = Value.type "tuple" := hcb
        rw [this]; decide
      exact absurd hcb (by decide)
    have c1 : Builtin.List.listSameRef (.ref l) (.ref b) = false := by simp [Builtin.List.listSameRef, hne]
    have c2 : (Value.type "tuple" == Value.type "list") = false := by decide
    have c3 : (Value.type "tuple" == Value.type "tuple") = true := by decide
    have hlong : (!its.isEmpty && Builtin.List.listTooLong (its.size + its2.size)) = false := by
      rw [notLongL hz, Bool.and_false]
    show wpAny _ _ (Builtin.List.listExtendWith (.ref l) (.ref b) .none) _ _ s
    unfold Builtin.List.listExtendWith
    refine wpAny_bind (wpAny_typeOf (T := "tuple") ⟨ob, hob, hcb⟩ ?_)
    simp only [c1, c2, c3, Bool.or_false, Bool.or_true, if_true]
    refine wpAny_bind ?_
    unfold Builtin.List.listItems
    refine wpAny_bind (wpAny_seqItems hob hdb (wpAny_pure ?_))
    refine wpAny_bind (wpAny_bind (wpAny_seqItems hl rfl (wpAny_pure ?_)))
    simp only [hlong, Bool.false_eq_true, if_false]
    show wpAny _ _ (updateSeq l (· ++ its2) >>= _) _ _ s
    refine wpAny_bind (wpAny_updateSeq hl rfl ?_ (by omega) (by show (its ++ its2).size ≤ sizeLine + 1; rw [Array.size_append]; omega))
    exact wpAny_pure ⟨_, rfl, h⟩
def rExtendT (K : PySem.W.Frag) : V → List V → Hp → VK → Prop := fun x vs H Q => ∃ l b xs zs, x = .ref l ∧ vs = [.ref b] ∧ H l = some (.lst xs) ∧ SqT K H b zs ∧ xs.length + zs.length ≤ sizeLine ∧ Q .non (upd H l (.lst (xs ++ zs)))
theorem mt_extendT {X : Cx} : MtM X "list.extend" (rExtendT X.K) := by
  intro pins s σ H x vs v us Q I rx rv h
  obtain ⟨l, b, xs, zs, rfl, rfl, hH, hB, hz, q⟩ := h
  cases rx
  obtain ⟨u, rfl, ru⟩ := rv.one
  cases ru
  obtain ⟨z, its, n, r, hl, e⟩ := I.lstM hH
  obtain ⟨its2, r2, p2, hz2⟩ := I.tuple hB
  have l1 := r.length
  have l2 := r2.length
  refine call_meets PySem.F.slot_list_extend ⟨_, e, rfl⟩ PySem.F.entry_list_extend (PySem.F.args_list_extend_2 _ _)
    (list_extendT l b its.toArray n its2.toArray (by rw [List.size_toArray, List.size_toArray]; omega)) ⟨e, p2, ?_⟩
  refine ⟨.non, _, I.lset (its' := its ++ its2) hH e (by simp) (r.append r2) ?_, rfl, q⟩
  rw [List.length_append]
  omega
def sExtT (l a : EM) : SM := fun env st => (l env st).s fun x s1 => match x with
  | .loc n => match deref s1 (.loc n) with
    | .lst _ => (a env s1).s fun y s2 => match deref s2 (.loc n), y with
      | .lst xs, .tup zs => if xs.length + zs.length ≤ 1000000 ∧ pures zs = true then .nx env (s2.set n (.lst (xs ++ zs))) else .bad
      | _, _ => .bad
    | _ => .bad
  | _ => .bad
theorem evs_extT {X : Cx} {W : XD} {fr f1 f2 : Bool} {l e : Expr} {ml me : EM} {apos cpos pos : Pos} (hl : Ev X W f1 l ml) (he : Ev X W f2 e me)
    (hbase : attributeBase l "extend" X.env (eval l X.env) = eval l X.env := by rfl)
    (hfew : ((backTo cpos (starEach [e] X.env)).all (fun x => !x.1) && (backToKw cpos (keywordEach [] X.env)).all (fun x => x.1.isSome) && decide (([e] : List Expr).length + ([] : List Keyword).length + (if ([] : List Keyword).isEmpty then 0 else 1) < 30)) = true := by rfl)
    (hline : (apos.endLine == cpos.line) = true := by rfl) (hse : starEach [e] X.env = (false, eval e X.env) :: starEach [] X.env := by rfl) (hplain : (backTo cpos (starEach [] X.env)).any (·.1) = false := by rfl)
    (hs : swapsWith (.Call (.Attribute l "extend" apos) [e] [] cpos) none pos.line X.env = pure false := by rfl) : EvS X W fr (.Expr (.Call (.Attribute l "extend" apos) [e] [] cpos) pos) (sExtT ml me) :=
  PS.anti (ps_expr (pe_bm PySem.F.plainAttrs_list PySem.F.slot_list_extend PySem.F.type_list_extend mt_extendT hl (pa_cons he pa_nil hse) hbase hfew hline hse hplain) hs) fun D σ H ⟨hid, ρ, env, st, R, P⟩ => sE_use R P fun ρ1 st1 H1 x v l1 R1 rx _ P1 => by
    split at P1
    · rename_i n
      split at P1
      · rename_i zs0 ez
        obtain ⟨a, rfl, hn, o, _⟩ := loc_obj R1.s rx
        rw [ez] at o
        obtain ⟨ws, ho, _⟩ := o
        refine ⟨.inl ⟨rfl, _, SqL.of ho⟩, sE_use R1 P1 fun ρ2 st2 H2 y u l2 R2 ry _ P2 => ?_⟩
        split at P2
        · rename_i xs zs ex
          split at P2
          · rename_i hz
            obtain ⟨b, eb, hn2, o2, f2⟩ := loc_obj R2.s (Rep.later l2 _ _ rx)
            cases eb
            rw [ex] at o2 f2
            obtain ⟨vs, hv, rv⟩ := o2
            obtain ⟨c, us, rfl, hc, ru⟩ := ry
            have mu : Mut (H2 a) := by rw [hv]; trivial
            have hin : a ∈ ρ2 := List.mem_of_getElem? hn2
            refine ⟨a, c, vs, us, rfl, rfl, hv, hc, by rw [rv.length, ru.length]; exact sz _ hz.1, ?_⟩
            exact P2 ρ2 _ σ (Later.wr hin mu) ⟨srel_wrE hn2 mu R2.s ⟨vs ++ us, upd_same, reps_wr (.inl hin) mu _ _ (rv.append ru)⟩ (f2.app fun z hz' => by
              rcases List.mem_append.mp hz' with hz' | hz'
              · exact .inl hz'
              · exact .inr (pures_mem hz.2 z hz')), envR_wr (.inl hin) mu R2.e⟩
          · exact False.elim P2
        · exact False.elim P2
      · exact False.elim P1
    · exact False.elim P1
theorem r_extT {l a : EM} {env : VEnv} {st st' : VSt} {n : Nat} {xs ys : List PV} (hl : l env st = .ok (.loc n) st) (hd : deref st (.loc n) = .lst xs) (ha : a env st = .ok (.tup ys) st') (hd' : deref st' (.loc n) = .lst xs) (hn : xs.length + ys.length ≤ 1000000) (hp : pures ys = true) : sExtT l a env st = .nx env (st'.set n (.lst (xs ++ ys))) := by
  unfold sExtT
  rw [hl, zk]
  dsimp only
  rw [hd]
  show Res.s (a env st) _ = _
  rw [ha, zk]
  rw [hd']
  dsimp only
  rw [if_pos ⟨hn, hp⟩]
end Vm
namespace Vm
open PySem PySem.Spec PyProof.Rows L2
end Vm
namespace Vm
open PySem PySem.Spec L2
def dcP (j : IT) (L : Nat) (f : PV → VSt → Res (Option (Key × PV))) : Nat → List Key × List PV → VSt → Res (List Key × List PV)
  | 0, acc, st => match Itm j st with
    | some xs => if xs.length = L then .ok acc st else .bad
    | none => .bad
  | m + 1, acc, st => match Itm j st with
    | some xs => if xs.length = L ∧ acc.1.length < 1000000 then match xs[L - (m + 1)]? with
        | some x => (f x st).bind fun o s => dcP j L f m (match o with
          | some y => (kPutK acc.1 y.1, kPutV acc.1 acc.2 y.1 y.2)
          | none => acc) s
        | none => .bad
      else .bad
    | none => .bad
def keyR (p : PV) (y : PV) (st : VSt) : Res (Option (Key × PV)) := match keyP p with
  | some k => .ok (some (k, y)) st
  | none => .bad
def dcF (g : GM) (tst k v : EM) (vs : List Nat) (env : VEnv) : PV → VSt → Res (Option (Key × PV)) := fun x s => match g x (wipeE env vs) with
  | some e => (tst e s).nox.bind (onB fun b s2 => if b = true then (k e s2).nox.bind fun p s3 => (v e s3).nox.bind fun y s4 => keyR p y s4 else .ok none s2)
  | none => .bad
def eDct (it : IM) (g : GM) (tst k v : EM) (vs : List Nat) : EM := fun env st => (it env st).bind fun j s1 => match Itm j s1 with
  | some xs => (dcP j xs.length (dcF g tst k v vs env) xs.length ([], []) s1).bind fun ys s => .ok (.dct ys.1 ys.2) s
  | none => .bad
section
variable {X : Cx} {W : XD} {kx vx tg iter : Expr} {ifs : List Expr} {scope : Scope} {own : List (Str × Nat)} {pos : Pos} {it : IM} {g : GM} {mt mk mv : EM} {fk fv : Bool}
theorem dc_rd {vs : List Nat} {σ : L2.St} {H : Hp} {Q : VK} (h : cE X W true (eDct it g mt mk mv vs) σ H Q) : tDc (cI X W it) (cG X W.no vs g) (cT X W.no mt) (cE X W.no fk mk) (cE X W.no fv mv) vs σ H Q := by
  obtain ⟨hid, ρ, env, st, R, P⟩ := h
  refine ⟨hid, ρ, env, st, R, P.bind.imp fun ρ1 st1 H1 j l1 S1 P1 => ?_⟩
  have P1' : Post (gx X W hid) ρ1 H1 (match Itm j st1 with
      | some xs => (dcP j xs.length (dcF g mt mk mv vs env) xs.length ([], []) st1).bind fun ys s => .ok (.dct ys.1 ys.2) s
      | none => .bad) (kE (gx X W hid) H true Q) := P1
  cases ex : Itm j st1 with
  | none => rw [ex] at P1'; exact False.elim P1'
  | some xs =>
    rw [ex] at P1'
    refine ⟨rfl, fun v rj J hJ D hD => ?_⟩
    have hDH : H D = none := l1.back hD
    have R1 := R.later l1 S1
    let G' := gx X W.no (hid.hd D)
    refine ⟨fun i m H' => ∃ ρ' st' acc accV, Later ρ1 H1 ρ' H' ∧ SRel G' ρ' st' H' ∧ EnvR G' ρ' H' (wipeE env vs) (L2.wipe σ vs) ∧ RepJ G' ρ' H' j v ∧ acc.1.length = accV.length ∧ H' D = some (.dK (acc.1.zip accV)) ∧ Reps G' ρ' H' acc.2 accV ∧ m + i = xs.length ∧
        Post (gx X W hid) ρ1 H1 ((dcP j xs.length (dcF g mt mk mv vs env) m acc st').bind fun ys s => .ok (.dct ys.1 ys.2) s) (kE (gx X W hid) H true Q),
      ⟨xs.length, ρ1, st1, ([], []), [], Later.new hD, srel_hide hD S1, (envR_hide hD R1.e).wipe vs, repJ_hide hD rj, rfl, upd_same, (show Reps G' ρ1 (upd H1 D (.dK [])) [] [] from rfl), by omega, P1'⟩, ?_⟩
    rintro i m H' ⟨ρ', st', acc, accV, l, S', E', rj', hlen, hD', ra, hm, P'⟩
    have hDin : D ∈ ρ' ∨ D ∈ G'.hid := .inr List.mem_cons_self
    have nD : D ∉ ρ' := (S'.hid D List.mem_cons_self).1
    cases m with
    | zero =>
      unfold dcP at P'
      split at P'
      · rename_i ys ey
        split at P'
        · rename_i hl
          obtain ⟨h1, _⟩ := hJ (hid.hd D) ρ' st' H' (srel_wx (xd := W) S') (repJ_wx (xd := W) rj') ys ey
          have l' : Later ρ H ρ' H' := l1.trans l
          have nh : D ∉ hid.l := (S1.freshH hD : D ∉ (gx X W hid).hid)
          refine .inl ⟨h1 i (by omega), ?_⟩
          have P2 : Post (gx X W hid) ρ1 H1 (.ok (.dct acc.1 acc.2) st') (kE (gx X W hid) H true Q) := P'
          exact P2 ρ' H' l (srel_show (G := gx X W hid) S') (.ref D) ⟨D, accV, rfl, nD, nh, hlen, hD', reps_show (G := gx X W hid) acc.2 accV ra⟩ fun _ a e => by cases e; exact hDH
        · exact False.elim P'
      · exact False.elim P'
    | succ m =>
      unfold dcP at P'
      split at P'
      · rename_i ys ey
        split at P'
        · rename_i hl
          obtain ⟨_, h2⟩ := hJ (hid.hd D) ρ' st' H' (srel_wx (xd := W) S') (repJ_wx (xd := W) rj') ys ey
          have hi : i < ys.length := by omega
          obtain ⟨h3, h4⟩ := h2 i _ (List.getElem?_eq_getElem hi)
          have ei : xs.length - (m + 1) = i := by omega
          rw [ei, List.getElem?_eq_getElem hi] at P'
          refine .inr ⟨h3, fun H2 => ∃ ρ2 st2 acc2 accV2, Later ρ1 H1 ρ2 H2 ∧ SRel G' ρ2 st2 H2 ∧ EnvR G' ρ2 H2 (wipeE env vs) (L2.wipe σ vs) ∧ RepJ G' ρ2 H2 j v ∧ acc2.1.length = accV2.length ∧ H2 D = some (.dK (acc2.1.zip accV2)) ∧ Reps G' ρ2 H2 acc2.2 accV2 ∧
              Post (gx X W hid) ρ1 H1 ((dcP j xs.length (dcF g mt mk mv vs env) m acc2 st2).bind fun ys s => .ok (.dct ys.1 ys.2) s) (kE (gx X W hid) H true Q),
            fun H2 ⟨ρ2, st2, acc2, accV2, a1, a2, a3, a4, a5, a6, a7, a8⟩ => ⟨m, by omega, ρ2, st2, acc2, accV2, a1, a2, a3, a4, a5, a6, a7, by omega, a8⟩, fun x H2 hy => ?_⟩
          obtain ⟨Nx, rw'⟩ := h4 x H2 hy
          replace l := l.trans (Nx.later ρ')
          replace S' := Nx.srel S'
          replace E' := E'.later (Nx.later ρ')
          replace rj' := rj'.later (Nx.later ρ')
          replace hD' := Nx.keep hD'
          replace ra := Reps.later (Nx.later ρ') _ _ ra
          replace P' : Post (gx X W hid) ρ1 H1 (((dcF g mt mk mv vs env ys[i] st').bind fun o s => dcP j xs.length (dcF g mt mk mv vs env) m (match o with
            | some y => (kPutK acc.1 y.1, kPutV acc.1 acc.2 y.1 y.2)
            | none => acc) s).bind fun ys s => .ok (.dct ys.1 ys.2) s) (kE (gx X W hid) H true Q) := P'
          cases eg : g ys[i] (wipeE env vs) with
          | none =>
            simp only [dcF, eg] at P'
            exact False.elim P'
          | some env2 =>
            refine ⟨hid.hd D, ρ', wipeE env vs, st', ys[i], env2, ⟨S', E'⟩, rep_wx (xd := W.no) _ _ rw', eg, fun σ3 E3 hw3 => ⟨by rw [hw3]; exact wipe_idem vs σ, hid.hd D, ρ', env2, st', ⟨S', E3⟩, ?_⟩⟩
            simp only [dcF, eg] at P'
            rw [Res.bind_assoc, Res.bind_assoc] at P'
            refine (Post.hide (G := gx X W hid) (d := D) (xd := W.no) (Post.move l P'.bind0)).imp fun ρ4 st4 H4 b l4 S4 P4 => ?_
            have hD4 : H4 D = some (.dK (acc.1.zip accV)) := l4.keep D _ hD' nD
            cases b with
            | bl b =>
              cases b with
              | false =>
                exact ⟨ρ4, st4, acc, accV, l.trans l4, S4, E'.later l4, rj'.later l4, hlen, hD4, Reps.later l4 _ _ ra, P4⟩
              | true =>
                refine ⟨hid.hd D, ρ4, env2, st4, ⟨S4, E3.later l4⟩, ?_⟩
                replace P4 : Post (gx X W hid) ρ1 H1 (((mk env2 st4).nox.bind fun p s3 => (mv env2 s3).nox.bind fun y s4 => keyR p y s4).bind fun o s => (dcP j xs.length (dcF g mt mk mv vs env) m (match o with
                    | some y => (kPutK acc.1 y.1, kPutV acc.1 acc.2 y.1 y.2)
                    | none => acc) s).bind fun ys s => .ok (.dct ys.1 ys.2) s) (kE (gx X W hid) H true Q) := P4
                rw [Res.bind_assoc] at P4
                refine (Post.hide (G := gx X W hid) (d := D) (xd := W.no) (Post.move (l.trans l4) P4.bind0)).imp fun ρ5 st5 H5 y l5 S5 P5 u ry _ => ?_
                refine ⟨hid.hd D, ρ5, env2, st5, ⟨S5, E3.later (l4.trans l5)⟩, ?_⟩
                replace P5 : Post (gx X W hid) ρ1 H1 (((mv env2 st5).nox.bind fun z s4 => keyR y z s4).bind fun o s => (dcP j xs.length (dcF g mt mk mv vs env) m (match o with
                    | some y => (kPutK acc.1 y.1, kPutV acc.1 acc.2 y.1 y.2)
                    | none => acc) s).bind fun ys s => .ok (.dct ys.1 ys.2) s) (kE (gx X W hid) H true Q) := P5
                rw [Res.bind_assoc] at P5
                refine (Post.hide (G := gx X W hid) (d := D) (xd := W.no) (Post.move (l.trans (l4.trans l5)) P5.bind0)).imp fun ρ6 st6 H6 z l6 S6 P6 w rz _ => ?_
                have l46 := (l4.trans l5).trans l6
                have hD6 : H6 D = some (.dK (acc.1.zip accV)) := l46.keep D _ hD' nD
                cases ek : keyP y with
                | none =>
                  unfold keyR at P6
                  rw [ek] at P6
                  exact False.elim P6
                | some key =>
                  unfold keyR at P6
                  rw [ek] at P6
                  have ra6 := Reps.later l46 _ _ ra
                  have mu : Mut (H6 D) := by rw [hD6]; trivial
                  have hin : D ∈ ρ6 ∨ D ∈ (gx X W.no (hid.hd D)).hid := .inr List.mem_cons_self
                  obtain ⟨e1, e2⟩ := putK_zip (k := key) (v := w) hlen
                  refine ⟨_, key, rep_key ry ek, hD6, by rw [List.length_zip, hlen, Nat.min_self, ← hlen]; exact szl _ (by omega), ?_⟩
                  rw [e1]
                  exact ⟨ρ6, st6, (kPutK acc.1 key, kPutV acc.1 acc.2 key z), kPutV acc.1 accV key w, (l.trans l46).mut hD, srel_hwr List.mem_cons_self mu S6, envR_wr hin mu (E'.later l46), repJ_wr hin mu (rj'.later l46), e2, upd_same, reps_wr hin mu _ _ (reps_put rz hlen ra6), P6⟩
            | _ => exact False.elim P4
        · exact False.elim P'
      · exact False.elim P'
variable {pr : Prg} {T : Tbl} {n : Nat} {bs : List Str} {cs : List (Str × Int)}
/-- name = {..} on one line, the name a local -/
theorem ps_setDc {i : Nat} {y : Str} {py : Pos} {spos : Pos} {wi : TI} {g : TG} {tt : TT} {tk tv : TE} (hc : X.calm = true) (hN : X.N.Nodup) (hy : X.N[i]? = some y) (hyl : X.env.scope.names.lookup y = some .local)
    (hsw : swapsWith (.DictComp kx vx [⟨tg, iter, ifs, 0⟩] scope pos) (some (.Name y py)) spos.line X.env = pure true) (hi : PI X tg iter wi) (ok : BlkOk X.N X.env.scope scope own)
    (hg : ∀ (s : Shared) (H : Hp) (C : Addr) (cl : List (Str × Addr)) (fp : List Addr), PG (X.blk s H scope (compEnvC scope cl C X.env) fp) tg g) (ht : ∀ (s : Shared) (H : Hp) (C : Addr) (cl : List (Str × Addr)) (fp : List Addr), PTs (X.blk s H scope (compEnvC scope cl C X.env) fp) ifs tt)
    (hk : ∀ (s : Shared) (H : Hp) (C : Addr) (cl : List (Str × Addr)) (fp : List Addr), PE (X.blk s H scope (compEnvC scope cl C X.env) fp) kx tk)
    (he : ∀ (s : Shared) (H : Hp) (C : Addr) (cl : List (Str × Addr)) (fp : List Addr), PE (X.blk s H scope (compEnvC scope cl C X.env) fp) vx tv) (hs : ∀ x, foldedSetIterable iter X.env x = pure x := by intro _; rfl) :
    PS X (.Assign [.Name y py] (.DictComp kx vx [⟨tg, iter, ifs, 0⟩] scope pos) spos) (tAsg (tDc wi g tt tk tv (own.map (·.2))) (L2.gName i)) := by
  refine ⟨fun pins s σ H D I h => ?_⟩
  rw [exec_Assign_Name_used _ _ _ _ hsw]
  refine wpAny_bind (wpAny_standAt (wpAny_bind ?_))
  show wpAny _ X.A (do let _ ← comprehension (.DictComp kx vx [⟨tg, iter, ifs, 0⟩] scope pos) scope X.env (firstIterPos [⟨tg, iter, ifs, 0⟩] pos) newDict false (eval iter X.env) (some (assign (.Name y py) X.env))) _ _ s
  have h : tDc wi g tt tk tv (own.map (·.2)) σ H (fun x H1 => L2.gName i x σ H1 D.nx) := h
  refine wpAny_bind (thn (dc_core (Qf := fun _ s' => SP X pins D .next s') hc hN I hi ok hg ht hk he hs h fun L C s' m H' I' q hn f => ?_) fun _ s' hq => wpAny_pure (wpAny_pure hq))
  show wpAny _ _ (assign (.Name y py) X.env (.ref L)) _ _ _
  refine wpAny_assign_Name (store_ok2 (v := V.ref L) I' hN hy (.inl hyl) rfl (fun s2 I2 ⟨a, sb, ha⟩ => ?_) (.inr hyl))
  obtain ⟨f0, f1, f2, f3, f4, f5⟩ := f
  have haC : C ≠ a := by
    rcases ha with z | z
    · rw [z]; exact f1
    · exact fun e => f4 y a z e.symm
  refine ⟨m, hn.sameBut sb haC, fun h3 sb3 => ?_⟩
  exact ⟨_, H', I2.turned (t' := s2.toks) (fun b o hb e => (sb3.2 b hb).trans e) f0 f1 f3 f4 f5, q⟩
theorem swd_true {gs : List Comprehension} {py : Pos} {y : Str} {l : Nat} {env : Env} (hk : env.scope.kind = .function) (hy : env.scope.names.lookup y = some .local) (hl : (py.line == pos.line) = true)
    (ha : (scope.names.any fun (n, k) => n == y && (k == .local || k == .cell)) = false) : swapsWith (.DictComp kx vx gs scope pos) (some (.Name y py)) l env = pure true := by
  have ky : env.kindOf y = some .local := hy
  have hb : env.blockKind = .function := by unfold Env.blockKind; rw [hk]; rfl
  unfold swapsWith
  simp only [hb, ky, ha, Expr.pos, hl]
  rfl
theorem evs_setDcC {fr f : Bool} {i : Nat} {y : Str} {py spos : Pos} (own : List (Str × Nat)) (c : Cok X W pr T n bs cs) (hi : EvI X W tg iter it) (ok : BlkOk X.N X.env.scope scope own)
    (hg : ∀ (s : Shared) (H : Hp) (C : Addr) (cl : List (Str × Addr)) (fp : List Addr), Cok (X.blk s H scope (compEnvC scope cl C X.env) fp) W.no pr T n bs cs → EvG (X.blk s H scope (compEnvC scope cl C X.env) fp) W.no (own.map Prod.snd) tg g)
    (ht : ∀ (s : Shared) (H : Hp) (C : Addr) (cl : List (Str × Addr)) (fp : List Addr), Cok (X.blk s H scope (compEnvC scope cl C X.env) fp) W.no pr T n bs cs → EvTs (X.blk s H scope (compEnvC scope cl C X.env) fp) W.no ifs mt)
    (hk : ∀ (s : Shared) (H : Hp) (C : Addr) (cl : List (Str × Addr)) (fp : List Addr), Cok (X.blk s H scope (compEnvC scope cl C X.env) fp) W.no pr T n bs cs → Ev (X.blk s H scope (compEnvC scope cl C X.env) fp) W.no fk kx mk)
    (he : ∀ (s : Shared) (H : Hp) (C : Addr) (cl : List (Str × Addr)) (fp : List Addr), Cok (X.blk s H scope (compEnvC scope cl C X.env) fp) W.no pr T n bs cs → Ev (X.blk s H scope (compEnvC scope cl C X.env) fp) W.no fv vx mv)
    (hsw : swapsWith (.DictComp kx vx [⟨tg, iter, ifs, 0⟩] scope pos) (some (.Name y py)) spos.line X.env = pure true := by exact swd_true rfl rfl rfl (by decide +kernel)) (hy : X.N[i]? = some y := by rfl) (hyl : X.env.scope.names.lookup y = some .local := by rfl)
    (hs : ∀ x, foldedSetIterable iter X.env x = pure x := by intro _; rfl) : EvS X W fr (.Assign [.Name y py] (.DictComp kx vx [⟨tg, iter, ifs, 0⟩] scope pos) spos) (sSet i (eDct it g mt mk mv (own.map Prod.snd))) :=
  PS.anti (ps_setDc (g := cG X W.no (own.map Prod.snd) g) (tt := cT X W.no mt) (tk := cE X W.no fk mk) (tv := cE X W.no fv mv) c.calm c.nd hy hyl hsw hi ok (fun s H C cl fp => hg s H C cl fp (c.blk s H _ _ fp)) (fun s H C cl fp => ht s H C cl fp (c.blk s H _ _ fp)) (fun s H C cl fp => hk s H C cl fp (c.blk s H _ _ fp)) (fun s H C cl fp => he s H C cl fp (c.blk s H _ _ fp)) hs) fun D σ H ⟨hid, ρ, env, st, R, P⟩ =>
    dc_rd (sE_use (f := true) R P fun ρ1 st1 H1 p v l R1 rp _ P1 => P1 ρ1 H1 _ (Later.refl _ _) ⟨R1.s, R1.e.set rp i⟩)
end
end Vm
namespace Vm
open PySem PySem.Spec PyProof.Rows L2
section
variable {prog : Program} {w : World} {A : Around} {E : Value → Shared → Prop} {s : Shared} {z U V' p q l m : Addr} {i j : Nat} {xs ys : Array Value} {x y a b : Value}
theorem zm_item {Q : Option Value → Shared → Prop} (D : ZipApart z U V' p q l m) (hz : IsZip s.heap z U V' .none) (hU : IsPair s.heap U (.ref p) (.ref q)) (hV : IsPair s.heap V' a b) (hp : s.heap.IsTupleIter p l i) (hq : s.heap.IsListIter q m j)
    (hl : s.heap.IsTuple l xs) (hm : s.heap.IsList m ys) (hx : xs[i]? = some x) (hy : ys[j]? = some y)
    (hQ : ∀ h', IsZip h' z U V' (rawInt s.heap.objs.size) → IsPair h' V' x y → h'.IsTupleIter p l (i + 1) → h'.IsListIter q m (j + 1) → IsPair h' s.heap.objs.size x y → h'.objs.size = s.heap.objs.size + 1 →
      (∀ c o, c ≠ z → c ≠ V' → c ≠ p → c ≠ q → s.heap.get? c = some o → h'.get? c = some o) → Q (some (.ref s.heap.objs.size)) { s with heap := h' }) : wpAny (model prog w) A (pyNext (.ref z)) Q E s := by
  have ty : s.TypeIs (.ref z) "zip" := ⟨_, hz, rfl⟩
  unfold pyNext
  refine wpAny_bind (wpAny_attempt (wpAny_callSpecial?_slot (name := Str.ofString "__next__") ty F.slot_zip_next (wpAny_call_entry F.slot_zip_next ty F.entry_zip_next ?_ (F.args_zip_next_1 _))))
  show wpAny _ _ (field (.ref z) 2 >>= _) _ _ _; refine wpAny_bind (wpAny_field hz rfl (x := .bool false) rfl ?_)
  show wpAny _ _ (field (.ref z) 3 >>= _) _ _ _; refine wpAny_bind (wpAny_field hz rfl (x := .ref U) rfl (wpAny_bind (wpAny_seqItems hU rfl ?_)))
  show wpAny _ _ (Builtin.SmallTypes.ownedTupleIsFree (.ref z) >>= _) _ _ _; refine wpAny_bind ?_
  unfold Builtin.SmallTypes.ownedTupleIsFree
  refine wpAny_bind (wpAny_field hz rfl (x := .none) rfl (wpAny_pure ?_)); simp only [if_true]
  refine wpAny_bind (wpAny_rule (wpAny_bind (wpAny_field hz rfl (x := .ref V') rfl (wpAny_bind (wpAny_setField_rec hz (by simp) fun g1 z1 b1 => wpAny_bind ?_)))))
  replace z1 : IsZip g1 z U V' .ellipsis := z1
  simp only [List.zipIdx_cons, List.zipIdx_nil, List.forIn_cons, List.forIn_nil]
  refine wpAny_bind (wpAny_bind (wpAny_onRaise ?_)); show wpAny _ _ (Builtin.SmallTypes.nextOf (.ref p) >>= _) _ _ _
  refine wpAny_bind (RZ.nextOf_tuple_item (hp.extBut b1.extBut D.i1z) (hl.extBut b1.extBut D.l1z) hx fun g2 p2 b2 => wpAny_pure ?_)
  have v2 : IsPair g2 V' a b := b2.extBut _ _ D.TOi1 (b1.extBut _ _ D.TOz hV)
  refine wpAny_bind (wpAny_seqItems v2 rfl (wpAny_bind (wpAny_updateSeq_pair v2 fun g3 v3 b3 => wpAny_bind (wpAny_letGo (wpAny_pure ?_)))))
  replace v3 : IsPair g3 V' x b := v3
  refine wpAny_bind (wpAny_bind (wpAny_onRaise ?_)); show wpAny _ _ (Builtin.SmallTypes.nextOf (.ref q) >>= _) _ _ _
  have q3 := ((hq.extBut b1.extBut D.i2z).extBut b2.extBut D.i12.symm).extBut b3.extBut D.TOi2.symm
  have m3 := ((hm.extBut b1.extBut D.l2z).extBut b2.extBut D.l2i1).extBut b3.extBut D.l2TO
  refine wpAny_bind (wpAny_nextOf_list_item (s := { s with heap := g3 }) q3 m3 hy fun g4 q4 b4 => wpAny_pure ?_)
  have v4 : IsPair g4 V' x b := b4.extBut _ _ D.TOi2 v3
  refine wpAny_bind (wpAny_seqItems v4 rfl (wpAny_bind (wpAny_updateSeq_pair v4 fun g5 v5 b5 => wpAny_bind (wpAny_letGo (wpAny_pure (wpAny_pure ?_))))))
  replace v5 : IsPair g5 V' x y := v5
  refine wpAny_bind (wpAny_seqItems v5 rfl (wpAny_bind (wpAny_newTuple ?_)))
  have sz : g5.objs.size = s.heap.objs.size := by rw [b5.1, b4.1, b3.1, b2.1, b1.1]
  have z5 : IsZip g5 z U V' .ellipsis := b5.extBut _ _ D.TOz.symm (b4.extBut _ _ D.i2z.symm (b3.extBut _ _ D.TOz.symm (b2.extBut _ _ D.i1z.symm z1)))
  have k5 : ∀ c o, c ≠ z → c ≠ V' → c ≠ p → c ≠ q → s.heap.get? c = some o → g5.get? c = some o := fun c o n1 n2 n3 n4 e => b5.extBut _ _ n2 (b4.extBut _ _ n4 (b3.extBut _ _ n2 (b2.extBut _ _ n3 (b1.extBut _ _ n1 e))))
  have p5 : g5.IsTupleIter p l (i + 1) := ((p2.extBut b3.extBut D.TOi1.symm).extBut b4.extBut D.i12).extBut b5.extBut D.TOi1.symm
  have q5 : g5.IsListIter q m (j + 1) := q4.extBut b5.extBut D.TOi2.symm
  have zlt : z < g5.objs.size := Heap.lt_size z5
  show wpAny _ _ (Builtin.SmallTypes.ownedTupleHandOut (.ref z) (.ref g5.objs.size) >>= _) _ _ _
  refine wpAny_bind ?_
  unfold Builtin.SmallTypes.ownedTupleHandOut
  have z6 : IsZip (g5.push { cls := .type "tuple", data := .seq #[x, y] }) z U V' .ellipsis := Heap.get?_push_of_some _ z5
  refine wpAny_bind (wpAny_setField_rec z6 (by simp) fun g7 z7 b7 => ?_)
  replace z7 : IsZip g7 z U V' (rawInt g5.objs.size) := z7
  refine wpAny_setField_rec z7 (by simp) fun g8 z8 b8 => ?_
  replace z8 : IsZip g8 z U V' (rawInt g5.objs.size) := z8
  have up : ∀ c o, c ≠ z → g5.get? c = some o → g8.get? c = some o := fun c o n e => b8.extBut _ _ n (b7.extBut _ _ n (Heap.get?_push_of_some _ e))
  have t8 : IsPair g8 g5.objs.size x y := b8.extBut _ _ (Nat.ne_of_gt zlt) (b7.extBut _ _ (Nat.ne_of_gt zlt) (Heap.get?_push_size _ rfl))
  have s8 : g8.objs.size = g5.objs.size + 1 := by rw [b8.1, b7.1, Heap.size_push]
  rw [sz] at z8 t8 s8
  refine wpAny_pure ⟨_, rfl, wpAny_pure ?_⟩
  show Q (some (.ref g5.objs.size)) _
  rw [sz]
  exact hQ g8 z8 (up _ _ D.TOz v5) (p5.at fun o e => up _ o D.i1z e) (q5.at fun o e => up _ o D.i2z e) t8 s8 fun c o n1 n2 n3 n4 e => up c o n1 (k5 c o n1 n2 n3 n4 e)
theorem zm_end {Q : Option Value → Shared → Prop} (hh : A.handled = none) (D : ZipApart z U V' p q l m) (hz : IsZip s.heap z U V' .none) (hU : IsPair s.heap U (.ref p) (.ref q)) (hV : IsPair s.heap V' a b) (hp : s.heap.IsTupleIter p l i) (hq : s.heap.IsListIter q m j)
    (hl : s.heap.IsTuple l xs) (hm : s.heap.IsList m ys) (hend : xs[i]? = none ∨ ys[j]? = none)
    (hQ : ∀ h', (∀ c o, c ≠ z → c ≠ V' → c ≠ p → c ≠ q → s.heap.get? c = some o → h'.get? c = some o) → Q none { s with heap := h' }) : wpAny (model prog w) A (pyNext (.ref z)) Q E s := by
  have ty : s.TypeIs (.ref z) "zip" := ⟨_, hz, rfl⟩
  have fin : ∀ h' e, (∀ c o, c ≠ z → c ≠ V' → c ≠ p → c ≠ q → s.heap.get? c = some o → h'.get? c = some o) → (∃ o, h'.get? e = some o ∧ o.cls = .type "StopIteration") →
      wpAny (model prog w) A (do if ← isInstance (.ref e) (.type "StopIteration") then pure none else throw (.ref e)) Q E { s with heap := h' } := fun h' e hk he => by
    obtain ⟨o, ho, hc⟩ := he
    exact wpAny_bind (wpAny_isInstance (T := "StopIteration") (b := true) ⟨o, ho, hc⟩ isSubtype_stop (wpAny_pure (hQ _ hk)))
  unfold pyNext
  refine wpAny_bind (wpAny_attempt (wpAny_callSpecial?_slot (name := Str.ofString "__next__") ty F.slot_zip_next (wpAny_call_entry F.slot_zip_next ty F.entry_zip_next ?_ (F.args_zip_next_1 _))))
  show wpAny _ _ (field (.ref z) 2 >>= _) _ _ _; refine wpAny_bind (wpAny_field hz rfl (x := .bool false) rfl ?_)
  show wpAny _ _ (field (.ref z) 3 >>= _) _ _ _; refine wpAny_bind (wpAny_field hz rfl (x := .ref U) rfl (wpAny_bind (wpAny_seqItems hU rfl ?_)))
  show wpAny _ _ (Builtin.SmallTypes.ownedTupleIsFree (.ref z) >>= _) _ _ _; refine wpAny_bind ?_
  unfold Builtin.SmallTypes.ownedTupleIsFree
  refine wpAny_bind (wpAny_field hz rfl (x := .none) rfl (wpAny_pure ?_)); simp only [if_true]
  refine wpAny_bind (wpAny_rule (wpAny_bind (wpAny_field hz rfl (x := .ref V') rfl (wpAny_bind (wpAny_setField_rec hz (by simp) fun g1 z1 b1 => wpAny_bind ?_)))))
  replace z1 : IsZip g1 z U V' .ellipsis := z1
  simp only [List.zipIdx_cons, List.zipIdx_nil, List.forIn_cons, List.forIn_nil]
  refine wpAny_bind (wpAny_bind (wpAny_onRaise ?_)); show wpAny _ _ (Builtin.SmallTypes.nextOf (.ref p) >>= _) _ _ _
  cases hx : xs[i]? with
  | none =>
    refine wpAny_bind (RZ.nextOf_tuple_end hh (hp.extBut b1.extBut D.i1z) (hl.extBut b1.extBut D.l1z) hx fun g2 e b2 he => ?_)
    obtain ⟨oe, h1, h2⟩ := id he
    have z2 : IsZip g2 z U V' .ellipsis := b2 _ _ D.i1z.symm z1
    have ez : e ≠ z := fun h => by subst h; rw [z2] at h1; cases h1; simp at h2
    exact wpAny_setField_rec z2 (by simp) fun g3 _ b3 => fin g3 e (fun c o n1 _ n3 _ h => b3.extBut _ _ n1 (b2 _ _ n3 (b1.extBut _ _ n1 h))) ⟨oe, b3.extBut _ _ ez h1, h2⟩
  | some x =>
    have hy : ys[j]? = none := hend.resolve_left fun h => by rw [hx] at h; cases h
    refine wpAny_bind (RZ.nextOf_tuple_item (hp.extBut b1.extBut D.i1z) (hl.extBut b1.extBut D.l1z) hx fun g2 p2 b2 => wpAny_pure ?_)
    have v2 : IsPair g2 V' a b := b2.extBut _ _ D.TOi1 (b1.extBut _ _ D.TOz hV)
    refine wpAny_bind (wpAny_seqItems v2 rfl (wpAny_bind (wpAny_updateSeq_pair v2 fun g3 v3 b3 => wpAny_bind (wpAny_letGo (wpAny_pure ?_)))))
    refine wpAny_bind (wpAny_bind (wpAny_onRaise ?_)); show wpAny _ _ (Builtin.SmallTypes.nextOf (.ref q) >>= _) _ _ _
    have q3 := ((hq.extBut b1.extBut D.i2z).extBut b2.extBut D.i12.symm).extBut b3.extBut D.TOi2.symm
    have m3 := ((hm.extBut b1.extBut D.l2z).extBut b2.extBut D.l2i1).extBut b3.extBut D.l2TO
    refine wpAny_bind (wpAny_nextOf_list_end (s := { s with heap := g3 }) hh q3 m3 hy fun g4 e b4 he => ?_)
    obtain ⟨oe, h1, h2⟩ := id he
    have z4 : IsZip g4 z U V' .ellipsis := b4 _ _ D.i2z.symm (b3.extBut _ _ D.TOz.symm (b2.extBut _ _ D.i1z.symm z1))
    have ez : e ≠ z := fun h => by subst h; rw [z4] at h1; cases h1; simp at h2
    exact wpAny_setField_rec z4 (by simp) fun g5 _ b5 => fin g5 e (fun c o n1 n2 n3 n4 h => b5.extBut _ _ n1 (b4 _ _ n4 (b3.extBut _ _ n2 (b2.extBut _ _ n3 (b1.extBut _ _ n1 h))))) ⟨oe, b5.extBut _ _ ez h1, h2⟩
end
abbrev zm1 (h : Heap) (l : Addr) : Heap := h.push ⟨.type "tuple_iterator", none, .fields #[.ref l, .int 0 0], #[]⟩
abbrev zm2 (h : Heap) (l m : Addr) : Heap := (zm1 h l).push ⟨.type "list_iterator", none, .fields #[.ref m, .int 0 0], #[]⟩
abbrev zm3 (h : Heap) (l m : Addr) : Heap := (zm2 h l m).push ⟨.type "tuple", none, .seq #[.ref h.objs.size, .ref (zm1 h l).objs.size], #[]⟩
abbrev zm4 (h : Heap) (l m : Addr) : Heap := (zm3 h l m).push ⟨.type "tuple", none, .seq #[.none, .none], #[]⟩
abbrev zm5 (h : Heap) (l m : Addr) : Heap := (zm4 h l m).push ⟨.type "zip", none, .fields #[.none, .bool false, .bool false, .ref (zm2 h l m).objs.size, .ref (zm3 h l m).objs.size], #[]⟩
theorem zm_new (l m : Addr) (xs ys : Array Value) : Meets (Builtin.«zip.__new__» ⟨[.type "zip", .ref l, .ref m], []⟩) (fun _ R s => s.heap.IsTuple l xs ∧ s.heap.IsList m ys ∧ R (.ok (.ret (.ref (zm4 s.heap l m).objs.size))) { s with heap := zm5 s.heap l m }) :=
  .of_wp fun prog w A R s h => by
    obtain ⟨hp, g, d, tk, os⟩ := s
    obtain ⟨hl, hm, h⟩ := h
    have hsub := sub_zip
    have hL : Heap.IsTuple (Shared.heap ⟨hp, g, d, tk, os⟩) l xs := hl
    have hM : Heap.IsList (Shared.heap ⟨hp.push { cls := .type "tuple_iterator", data := .fields #[.ref l, .int 0 0] }, g, d, tk, os⟩) m ys := Heap.IsList.push hm _
    wp_walk using wpAny_pyIter_tuple hL, wpAny_pyIter_list hM
    exact ⟨_, rfl, h⟩
section
variable {prog : Program} {w : World} {A : Around} {E : Value → Shared → Prop} {s : Shared}
theorem zm_call {l m : Addr} {xs ys : Array Value} {Q : Value → Shared → Prop} (hl : s.heap.IsTuple l xs) (hm : s.heap.IsList m ys)
    (h : ∀ h', IsZip h' (s.heap.objs.size + 4) (s.heap.objs.size + 2) (s.heap.objs.size + 3) .none → IsPair h' (s.heap.objs.size + 2) (.ref s.heap.objs.size) (.ref (s.heap.objs.size + 1)) → IsPair h' (s.heap.objs.size + 3) .none .none →
      h'.IsTupleIter s.heap.objs.size l 0 → h'.IsListIter (s.heap.objs.size + 1) m 0 → (∀ c o, s.heap.get? c = some o → h'.get? c = some o) → Q (.ref (s.heap.objs.size + 4)) { s with heap := h' }) : wpAny (model prog w) A (call (.type "zip") [.ref l, .ref m]) Q E s := by
  refine callType_new F.called_zip (by decide) (F.typeCall_zip_2 _ _) (F.newCall_zip_2 _ _) (fun obj => F.args_object_init_3 obj _ _) F.entry_zip_new (zm_new l m xs ys) ⟨hl, hm, ?_⟩
  obtain ⟨N, hN⟩ : ∃ N, N = s.heap.objs.size := ⟨_, rfl⟩
  have e1 : (zm1 s.heap l).objs.size = N + 1 := by rw [hN]; exact Heap.size_push ..
  have e2 : (zm2 s.heap l m).objs.size = N + 2 := by rw [Heap.size_push, e1]
  have e3 : (zm3 s.heap l m).objs.size = N + 3 := by rw [Heap.size_push, e2]
  have e4 : (zm4 s.heap l m).objs.size = N + 4 := by rw [Heap.size_push, e3]
  have u1 : ∀ c o, (zm4 s.heap l m).get? c = some o → (zm5 s.heap l m).get? c = some o := fun c o e => Heap.get?_push_of_some _ e
  have u2 : ∀ c o, (zm3 s.heap l m).get? c = some o → (zm5 s.heap l m).get? c = some o := fun c o e => u1 c o (Heap.get?_push_of_some _ e)
  have u3 : ∀ c o, (zm2 s.heap l m).get? c = some o → (zm5 s.heap l m).get? c = some o := fun c o e => u2 c o (Heap.get?_push_of_some _ e)
  have u4 : ∀ c o, (zm1 s.heap l).get? c = some o → (zm5 s.heap l m).get? c = some o := fun c o e => u3 c o (Heap.get?_push_of_some _ e)
  have g5 : (zm5 s.heap l m).get? (zm4 s.heap l m).objs.size = some _ := Heap.get?_push_size _ rfl
  have g4 : (zm5 s.heap l m).get? (zm3 s.heap l m).objs.size = some ⟨.type "tuple", none, .seq #[.none, .none], #[]⟩ := u1 _ _ (Heap.get?_push_size _ rfl)
  have g3 : (zm5 s.heap l m).get? (zm2 s.heap l m).objs.size = some ⟨.type "tuple", none, .seq #[.ref s.heap.objs.size, .ref (zm1 s.heap l).objs.size], #[]⟩ := u2 _ _ (Heap.get?_push_size _ rfl)
  have g2 : (zm5 s.heap l m).get? (zm1 s.heap l).objs.size = some ⟨.type "list_iterator", none, .fields #[.ref m, .int 0 0], #[]⟩ := u3 _ _ (Heap.get?_push_size _ rfl)
  have g1 : (zm5 s.heap l m).get? s.heap.objs.size = some ⟨.type "tuple_iterator", none, .fields #[.ref l, .int 0 0], #[]⟩ := u4 _ _ (Heap.get?_push_size _ rfl)
  show _ ∧ _
  rw [e2, e3, e4] at g5
  rw [e1, e2] at g3
  rw [e3] at g4
  rw [e1] at g2
  rw [e4]
  rw [hN] at g5 g4 g3 g2 ⊢
  exact ⟨⟨_, g5, rfl⟩, h _ g5 g3 g4 ⟨_, g1, rfl, rfl⟩ ⟨_, g2, rfl, rfl⟩ fun c o x => u4 c o (Heap.get?_push_of_some _ x)⟩
end
/-- the tuple at a and the list at b as they stand at each turn, the items in new pairs -/
def ItzM (K : PySem.W.Frag) (a b : Addr) : It :=
  ⟨fun i H => ∃ (xs ys : List V) (x y : V), SqT K H a xs ∧ SqL K H b ys ∧ xs[i]? = some x ∧ ys[i]? = some y,
    fun i H v H' => ∃ T x y, v = .ref T ∧ H T = none ∧ H' = upd H T (.tup [x, y]) ∧ (∀ xs, SqT K H a xs → xs[i]? = some x) ∧ ∀ ys, SqL K H b ys → ys[i]? = some y,
    fun i H => ∃ xs ys : List V, SqT K H a xs ∧ SqL K H b ys ∧ (xs.length ≤ i ∨ ys.length ≤ i)⟩
theorem zm_turn {P : Program} {w : World} {K : PySem.W.Frag} {elts : List Expr} {kk : Nat} {tpos : Pos} {a b z U V' p q : Addr} (D : ZipApart z U V' p q a b) :
    Turn P w K (.Tuple elts kk tpos) (ItzM K a b) [z, U, V', p, q] z (fun i h => IsZip h z U V' .none ∧ IsPair h U (.ref p) (.ref q) ∧ (∃ x y, IsPair h V' x y) ∧ h.IsTupleIter p a i ∧ h.IsListIter q b i) where
  mem := by simp
  obj := fun i h st c hc => by
    obtain ⟨hz, hU, ⟨x, y, hV⟩, ⟨o1, e1, _, d1⟩, ⟨o2, e2, _, d2⟩⟩ := st
    rcases (show c = z ∨ c = U ∨ c = V' ∨ c = p ∨ c = q by simpa using hc) with r | r | r | r | r
    · rw [r]; exact ⟨_, hz, fun v k => nomatch k⟩
    · rw [r]; exact ⟨_, hU, fun v k => nomatch k⟩
    · rw [r]; exact ⟨_, hV, fun v k => nomatch k⟩
    · rw [r]; exact ⟨o1, e1, fun v k => by rw [d1] at k; cases k⟩
    · rw [r]; exact ⟨o2, e2, fun v k => by rw [d2] at k; cases k⟩
  keep := fun i h h' st k => by
    obtain ⟨hz, hU, ⟨x, y, hV⟩, h1, h2⟩ := st
    exact ⟨k z (by simp) _ hz, k U (by simp) _ hU, ⟨x, y, k V' (by simp) _ hV⟩, h1.at fun o r => k p (by simp) o r, h2.at fun o r => k q (by simp) o r⟩
  item := by
    intro X hP hw hK hc i pins s σ H E I hf st hg
    subst hP hw hK
    obtain ⟨hz, hU, ⟨x0, y0, hV⟩, h1, h2⟩ := st
    obtain ⟨xs, ys, x, y, hqx, hqy, hx, hy⟩ := hg
    obtain ⟨its, rv, t1, _⟩ := I.tuple hqx
    obtain ⟨its2, rv2, t2, _⟩ := I.list hqy
    obtain ⟨u, hu, ru⟩ := rv.get hx
    obtain ⟨u2, hu2, ru2⟩ := rv2.get hy
    have zl : z < s.heap.objs.size := Heap.lt_size hz
    refine zm_item D hz hU hV h1 h2 t1 t2.isList (x := u) (y := u2) (by simpa using hu) (by simpa using hu2) fun h' k1 k2 k3 k4 k5 k6 k7 => ⟨_, rfl, wpAny_letOwnedTupleGo_zip (s := { s with heap := h' }) k1 fun h'' z'' sb => ?_⟩
    have hT2 : h''.get? s.heap.objs.size = some { cls := .type "tuple", data := .seq #[u, u2] } := (sb.2 _ (Nat.ne_of_gt zl)).trans k5
    have new : ObjOk X.prog X.w (upd H s.heap.objs.size (.tup [x, y])) h'' s.heap.objs.size (.tup [x, y]) := ⟨by show 2 ≤ sizeLine; decide, [u, u2], .cons ru (.cons ru2 .nil), ⟨_, hT2, rfl, _, rfl⟩⟩
    have mem5 : ∀ c, c ∉ [z, U, V', p, q] → c ≠ z ∧ c ≠ V' ∧ c ≠ p ∧ c ≠ q := fun c hb => ⟨fun r => hb (by simp [r]), fun r => hb (by simp [r]), fun r => hb (by simp [r]), fun r => hb (by simp [r])⟩
    have I1 : Inv X pins σ (upd H s.heap.objs.size (.tup [x, y])) { s with heap := h'' } :=
      I.turnedNew (t' := s.toks) (ch := [z, U, V', p, q]) (fun c o hb r => by
        obtain ⟨n1, n2, n3, n4⟩ := mem5 c hb
        exact (sb.2 c n1).trans (k7 c o n1 n2 n3 n4 r)) hf (Nat.le_refl _) new
    refine ⟨.ref s.heap.objs.size, _, I1, rfl, ⟨_, x, y, rfl, I.hok.fresh (Nat.le_refl _), rfl, fun l hl => by rw [I.tuple_inj hl hqx]; exact hx, fun l hl => by rw [I.list_inj hl hqy]; exact hy⟩, ⟨z'', (sb.2 _ D.TIz).trans (k7 _ _ D.TIz D.TITO D.TIi1 D.TIi2 hU), ⟨u, u2, (sb.2 _ D.TOz).trans k2⟩, k3.at fun o r => (sb.2 _ D.i1z).trans r, k4.at fun o r => (sb.2 _ D.i2z).trans r⟩, fun c hcm => ?_⟩
    have hlt : c < s.heap.objs.size := by
      rcases (show c = z ∨ c = U ∨ c = V' ∨ c = p ∨ c = q by simpa using hcm) with r | r | r | r | r
      · rw [r]; exact zl
      · rw [r]; exact Heap.lt_size hU
      · rw [r]; exact Heap.lt_size hV
      · rw [r]; obtain ⟨_, e1, _⟩ := h1; exact Heap.lt_size e1
      · rw [r]; obtain ⟨_, e2, _⟩ := h2; exact Heap.lt_size e2
    rw [upd_ne (Nat.ne_of_lt hlt)]
    exact (hf c hcm).1
  done := by
    intro X hP hw hK hc i pins s σ H E I hf st hg
    subst hP hw hK
    obtain ⟨hz, hU, ⟨x0, y0, hV⟩, h1, h2⟩ := st
    obtain ⟨xs, ys, hqx, hqy, hend⟩ := hg
    obtain ⟨its, rv, t1, _⟩ := I.tuple hqx
    obtain ⟨its2, rv2, t2, _⟩ := I.list hqy
    have l1 := rv.length
    have l2 := rv2.length
    have he : its.toArray[i]? = none ∨ its2.toArray[i]? = none := by
      rcases hend with r | r
      · exact .inl (by simp; omega)
      · exact .inr (by simp; omega)
    exact zm_end (I.ok.hd hc) D hz hU hV h1 h2 t1 t2.isList he fun h' hk => ⟨rfl, I.turnedL (t' := s.toks) (ch := [z, U, V', p, q]) (fun c o hb r => hk c o (fun k => hb (by simp [k])) (fun k => hb (by simp [k])) (fun k => hb (by simp [k])) (fun k => hb (by simp [k])) r) hf⟩
  self := fun A i s Q E st h => wpAny_pyIter_zip st.1 h
def iZipM (K : PySem.W.Frag) (ta : TA) : TI := fun σ H R => ta σ H fun vs H1 => ∃ a b xs ys, vs = [.ref a, .ref b] ∧ SqT K H1 a xs ∧ SqL K H1 b ys ∧ R (ItzM K a b) H1
theorem pi_zipM {X : Cx} {e e2 : Expr} {ta : TA} {p pos tpos : Pos} {elts : List Expr} {kk : Nat} (hg : Gl X "zip") (hm : X.mg "zip" = none) (ha : PA X [e, e2] ta)
    (hs : starEach [e, e2] X.env = (false, eval e X.env) :: starEach [e2] X.env := by rfl) (hpl : (backTo pos (starEach [e2] X.env)).any (·.1) = false := by rfl) :
    PI X (.Tuple elts kk tpos) (.Call (.Name "zip" p) [e, e2] [] pos) (iZipM X.K ta) := by
  refine ⟨fun pins s σ H R I h => ?_⟩
  refine Call_ (ld_blt I hg hm PyProof.Rows.boot_zip (PyProof.Rows.callWith_type1 (thn (ha.run pos pins s σ H _ I h) fun us s1 ⟨vs, H1, I1, r1, q1⟩ => ?_) hs hpl))
  obtain ⟨a, b, xs, ys, rfl, hqx, hqy, q⟩ := q1
  cases r1 with
  | cons r rr =>
    cases rr with
    | cons r' rr =>
      cases rr; cases r; cases r'
      obtain ⟨its, rv, t1, _⟩ := I1.tuple hqx
      obtain ⟨its2, rv2, t2, _⟩ := I1.list hqy
      obtain ⟨o1, ho1, _⟩ := id t1
      obtain ⟨N, hN⟩ : ∃ N, N = s1.heap.objs.size := ⟨_, rfl⟩
      have fresh : ∀ c, c ∈ [N + 4, N + 2, N + 3, N, N + 1] → FpOk X pins H1 c := fun c hc => by
        have hle : s1.heap.objs.size ≤ c := by
          rw [← hN]
          rcases (show c = N + 4 ∨ c = N + 2 ∨ c = N + 3 ∨ c = N ∨ c = N + 1 by simpa using hc) with k | k | k | k | k <;> rw [k] <;> first | exact Nat.le_add_right _ _ | exact Nat.le_refl _
        exact I1.fpOk hle (I1.hok.fresh hle)
      refine zm_call (show s1.heap.IsTuple a its.toArray from t1) t2.isList fun h' hz hU hV h1 h2 hk => wpAny_pyIter_zip hz ?_
      have I2 : Inv X pins σ H1 { s1 with heap := h' } := I1.kept (t' := s1.toks) hk
      rw [← hN] at hz hU hV h1 h2 ⊢
      exact ⟨N + 4, [N + 4, N + 2, N + 3, N, N + 1], _, _, H1, rfl, I2, zm_turn (by rw [hN]; exact PySem.W.ktu_apart s1.heap.objs.size a b (Heap.lt_size ho1) t2.lt), ⟨hz, hU, ⟨_, _, hV⟩, h1, h2⟩, fresh, q⟩
end Vm
namespace Vm
open PySem PySem.Spec PyProof.Rows L2
theorem rev_adj (n : Nat) : Builtin.Slice.sliceAdjust none none (-1) (n : Int) = ((n : Int) - 1, -1) := by
  unfold Builtin.Slice.sliceAdjust
  simp
theorem rev_places (n : Nat) : Builtin.Slice.slicePlaces ((n : Int) - 1) (-1) (-1) = n := by
  unfold Builtin.Slice.slicePlaces
  simp
  try omega
theorem rev_pick (xs : Array Value) : ((List.range xs.size).filterMap fun (m : Nat) => xs[(((xs.size : Int) - 1) + (m : Int) * (-1)).toNat]?).toArray = xs.toList.reverse.toArray := by
  congr 1
  refine List.ext_getElem? fun i => ?_
  have e : ((List.range xs.size).filterMap fun (m : Nat) => xs[(((xs.size : Int) - 1) + (m : Int) * (-1)).toNat]?) = (List.range xs.size).map fun m => xs.toList.getD (xs.size - 1 - m) .none := by
    have key : ∀ l : List Nat, (∀ m ∈ l, m < xs.size) → (l.filterMap fun (m : Nat) => xs[(((xs.size : Int) - 1) + (m : Int) * (-1)).toNat]?) = l.map fun m => xs.toList.getD (xs.size - 1 - m) .none := fun l => by
      induction l with
      | nil => intro _; rfl
      | cons a l ih =>
        intro h
        have ha := h a List.mem_cons_self
        have e1 : (((xs.size : Int) - 1) + (a : Int) * (-1)).toNat = xs.size - 1 - a := by omega
        have hl : xs.size - 1 - a < xs.size := by omega
        have e2 : xs[(((xs.size : Int) - 1) + (a : Int) * (-1)).toNat]? = some (xs.toList.getD (xs.size - 1 - a) .none) := by
          rw [e1, Array.getElem?_eq_getElem hl, List.getD_eq_getElem?_getD, List.getElem?_eq_getElem (by rw [Array.length_toList]; exact hl)]
          simp
        rw [List.filterMap_cons_some (f := fun (m : Nat) => xs[(((xs.size : Int) - 1) + (m : Int) * (-1)).toNat]?) e2, List.map_cons, ih fun m hm => h m (List.mem_cons_of_mem _ hm)]
    exact key _ fun m hm => List.mem_range.mp hm
  rw [e]
  by_cases hi : i < xs.size
  · rw [List.getElem?_map, List.getElem?_range hi, List.getElem?_reverse (by rw [Array.length_toList]; exact hi), Array.length_toList, Option.map_some, List.getD_eq_getElem?_getD, List.getElem?_eq_getElem (by rw [Array.length_toList]; omega)]
    rfl
  · rw [List.getElem?_eq_none (by rw [List.length_map, List.length_range]; omega), List.getElem?_eq_none (by rw [List.length_reverse, Array.length_toList]; omega)]
section
variable {prog : Program} {w : World} {A : Around} {E : Value → Shared → Prop} {s : Shared}
theorem rev_item {t sl : Addr} {items : Array Value} {vl vu vs : Value} {Q : Value → Shared → Prop} (ht : IsTup s.heap t items) (hs : s.heap.IsSliceOf sl vl vu vs) (pl : IsPart vl none) (pu : IsPart vu none) (ps : IsPart vs (some (-1)))
    (h : Q (.ref s.heap.objs.size) { s with heap := s.heap.push { cls := .type "tuple", data := .seq items.toList.reverse.toArray } }) (hsz : items.size ≤ sizeLine) : wpAny (model prog w) A (getItem (.ref t) (.ref sl)) Q E s := by
  have hok : sizeOk (.seq items.toList.reverse.toArray) := by
    show items.toList.reverse.toArray.size ≤ sizeLine
    rw [List.size_toArray, List.length_reverse, Array.length_toList]; exact hsz
  obtain ⟨os, hos, hcs, hds⟩ := id hs
  have hT : s.TypeIs (.ref sl) "slice" := ⟨os, hos, hcs⟩
  unfold getItem
  try with_reducible refine wpAny_holding ?_
  first | refine wpAny_bind (wpAny_pure ?_) | skip
  refine wpAny_bind (wpAny_sequenceKey ht.typeIs (by decide) (wpAny_bind (wpAny_callSpecial?_slot (name := Str.ofString "__getitem__") ht.typeIs PyProof.Rows.slot_tuple_getitem (wpAny_call_entry PyProof.Rows.slot_tuple_getitem ht.typeIs entry_tuple_getitem ?_ (args_tuple_getitem _ _)))))
  show wpAny _ _ (Builtin.Tuple.tupleItemsOf (.ref t) >>= _) _ _ s
  refine wpAny_bind (tupleItemsOf_ ht (wpAny_bind (wpAny_typeOf hT ?_)))
  rw [if_pos (by decide)]
  have sa : ∀ {R : Int × Int × Nat → Shared → Prop}, R ((items.size : Int) - 1, -1, items.size) s → wpAny (model prog w) A.in1 (Builtin.Slice.sliceApplied (.ref sl) (pure (items.size : Int))) R E s := fun {R} hR => by
    unfold Builtin.Slice.sliceApplied Builtin.Slice.sliceFields
    refine wpAny_bind (wpAny_bind (wpAny_field hos hds (x := vl) rfl (wpAny_bind (wpAny_field hos hds (x := vu) rfl (wpAny_bind (wpAny_field hos hds (x := vs) rfl (wpAny_pure ?_)))))))
    refine wpAny_bind (HT.slicePart_ ps ?_)
    show wpAny _ _ (if ((-1 : Int) == 0) = true then _ else _) _ _ s
    rw [if_neg (by decide)]
    refine wpAny_bind (HT.slicePart_ pl (wpAny_bind (HT.slicePart_ pu (wpAny_bind (wpAny_pure ?_)))))
    show wpAny _ _ (match Builtin.Slice.sliceAdjust none none (-1) (items.size : Int) with | (lo, hi) => pure (lo, (-1 : Int), Builtin.Slice.slicePlaces lo hi (-1))) _ _ s
    rw [rev_adj]
    show wpAny _ _ (pure ((items.size : Int) - 1, (-1 : Int), Builtin.Slice.slicePlaces ((items.size : Int) - 1) (-1) (-1))) _ _ s
    rw [rev_places]
    exact wpAny_pure hR
  refine wpAny_bind (sa ?_)
  have hno : ¬ ((((items.size : Int) - 1) == 0 && (-1 : Int) == 1 && items.size == items.size) = true) := by simp
  show wpAny _ _ (if (((items.size : Int) - 1) == 0 && (-1 : Int) == 1 && items.size == items.size) = true then _ else _) _ _ s
  rw [if_neg hno, rev_pick]
  first
    | exact wpAny_bind (m := Builtin.Tuple.tupleExact _) (wpAny_newObj_type (wpAny_pure ⟨_, rfl, wpAny_pure h⟩) hok)
    | exact wpAny_bind (m := Builtin.Tuple.tupleExact _) (wpAny_newObj_type (wpAny_bind (wpAny_pure (wpAny_pure ⟨_, rfl, wpAny_pure h⟩))) hok)
    | exact wpAny_bind (wpAny_bind (m := Builtin.Tuple.tupleExact _) (wpAny_newObj_type (wpAny_pure (wpAny_pure ⟨_, rfl, wpAny_pure h⟩)) hok))
    | exact wpAny_bind (wpAny_bind (m := Builtin.Tuple.tupleExact _) (wpAny_newObj_type (wpAny_pure ⟨_, rfl, wpAny_pure h⟩) hok))
end
def tRevT (K : PySem.W.Frag) (te : TE) : TE := fun σ H Q => te σ H fun x H1 => ∃ a xs, x = .ref a ∧ SqT K H1 a xs ∧ ∀ p, H1 p = none → Q (.ref p) (upd H1 p (.tup xs.reverse))
theorem pe_revT {X : Cx} {e : Expr} {te : TE} {k : Nat} {p1 p2 p3 pos : Pos} (he : PE X e te) : PE X (.Subscript e (.Slice none none (some (.UnaryOp .USub (.Constant (.int 1) k p1) p2)) p3) pos) (tRevT X.K te) := by
  refine ⟨fun pins s σ H Q I h => Subscript_ (thn (he.run pins s σ H _ I h) fun v s1 ⟨x, H1, I1, r1, a, xs, ex, hx, q⟩ => ?_)⟩
  subst ex
  cases r1
  have hst : PO X (some (.UnaryOp .USub (.Constant (.int 1) k p1) p2)) (tPart (tUn (rU fun i => .int (-i)) (tC (.int 1)))) := po_some (pe_un un_neg pe_int)
  refine wpAny_Slice (thn (po_none.run pins s1 σ H1 (fun o H2 => o = none ∧ H2 = H1) I1 ⟨rfl, rfl⟩) fun vl s2 ⟨l, H2, I2, pl, el, e2⟩ => ?_)
  subst el e2
  refine thn (po_none.run pins s2 σ H2 (fun o H3 => o = none ∧ H3 = H2) I2 ⟨rfl, rfl⟩) fun vu s3 ⟨u, H3, I3, pu, eu, e3⟩ => ?_
  subst eu e3
  refine thn (hst.run pins s3 σ H3 (fun o H4 => o = some (-1) ∧ H4 = H3) I3 ⟨1, rfl, -1, rfl, rfl, rfl⟩) fun vs s4 ⟨o, H4, I4, ps, eo, e4⟩ => ?_
  subst eo e4
  have I5 : Inv X pins σ H4 { s4 with heap := s4.heap.push { cls := .type "slice", data := .fields #[vl, vu, vs] } } := I4.kept (t' := s4.toks) fun b ob q => Heap.get?_push_of_some _ q
  obtain ⟨its, r, ht, hz⟩ := I5.tuple hx
  have hlen := r.length
  show wpAny (model X.prog X.w) X.A (subscriptTail e (.Slice none none (some (.UnaryOp .USub (.Constant (.int 1) k p1) p2)) p3) (.ref a) (.ref s4.heap.objs.size)) (EP X pins σ Q) X.xe { s4 with heap := s4.heap.push { cls := .type "slice", data := .fields #[vl, vu, vs] } }
  refine tail_any (ops := [.ref a, .ref s4.heap.objs.size]) ht.typeIs PyProof.Rows.slot_tuple_getitem.lookup ?_ (by with_unfolding_all rfl)
  refine rev_item ht (Heap.IsSliceOf.new _ vl vu vs) pl pu ps ?_ (by rw [List.size_toArray]; omega)
  exact ⟨.ref _, _, I5.laid (t' := s4.toks) (o := .tup xs.reverse) (fun b ob q => Heap.get?_push_of_some _ q) (Nat.le_refl _) ⟨by rw [List.length_reverse]; exact hz, _, r.reverse, IsTup.new _ _⟩, rfl, q _ (I5.hok.fresh (Nat.le_refl _))⟩
/-- .. as a meaning -/
def eRevT (m : EM) : EM := fun env st => (m env st).bind fun p s => match p with
  | .tup xs => .ok (.tup xs.reverse) s
  | _ => .bad
theorem reps_rev {G : Gx} {ρ : List Addr} {H : Hp} : ∀ {xs : List PV} {vs : List V}, Reps G ρ H xs vs → Reps G ρ H xs.reverse vs.reverse
  | [], vs, h => by rw [show vs = [] from h]; rfl
  | x :: xs, vs, h => by
    obtain ⟨v, r, rfl, h1, h2⟩ := h
    rw [List.reverse_cons, List.reverse_cons]
    exact (reps_rev h2).append (Reps.one h1)
theorem ev_revT {X : Cx} {W : XD} {fe : Bool} {e : Expr} {m : EM} {k : Nat} {p1 p2 p3 pos : Pos} (he : Ev X W fe e m) : Ev X W true (.Subscript e (.Slice none none (some (.UnaryOp .USub (.Constant (.int 1) k p1) p2)) p3) pos) (eRevT m) :=
  PE.anti (pe_revT he) fun σ H Q ⟨hid, ρ, env, st, R, P⟩ => cE_use R P fun ρ1 st1 H1 p v l R1 rp _ P1 => by
    split at P1
    · rename_i xs
      obtain ⟨a, vs, rfl, s, r⟩ := rp
      refine ⟨a, vs, rfl, s, fun q hq => ?_⟩
      exact P1 ρ1 _ (.new hq) (R1.s.new hq) (.ref q) ⟨q, vs.reverse, rfl, .inl (.inl upd_same), Reps.later (.new hq) _ _ (reps_rev r)⟩ fun _ b e => by cases e; exact l.back hq
    · exact False.elim P1
end Vm
namespace Vm
open PySem PySem.Spec L2
def eFld (k : Nat) (m : EM) : EM := fun env st => (m env st).bind fun p s => match p with
  | .vis fs => match fs[k]? with
    | some q => .ok q s
    | none => .bad
  | _ => .bad
theorem fld_zip {vs : List V} {k : Nat} {f : Str} {v : V} (hl : vs.length = 4) (hf : vNms[k]? = some f) (hv : vs[k]? = some v) : (vNms.zip vs).lookup f = some v := by
  match vs, hl with
  | [a, b, c, d], _ =>
    match k, hf, hv with
    | 0, hf, hv => cases hf; cases hv; rfl
    | 1, hf, hv => cases hf; cases hv; rfl
    | 2, hf, hv => cases hf; cases hv; rfl
    | 3, hf, hv => cases hf; cases hv; rfl
    | k + 4, hf, hv => cases hf
section
variable {X : Cx} {W : XD} {fe fr : Bool} {e : Expr} {m : EM} {pos : Pos}
theorem ev_fld (k : Nat) {f : Str} (he : Ev X W fe e m) (hf : vNms[k]? = some f := by rfl) (hb : attributeBase e f X.env (eval e X.env) = eval e X.env := by rfl) : Ev X W false (.Attribute e f pos) (eFld k m) :=
  PE.anti (pe_fld he hb) fun σ H Q ⟨hid, ρ, env, st, R, P⟩ => cE_use R P fun ρ1 st1 H1 p v l R1 rp _ P1 => by
    split at P1
    · rename_i fs
      split at P1
      · rename_i q eq
        obtain ⟨a, C, dx, vs, rfl, n, n2, c, hz, s, r⟩ := rp
        obtain ⟨w, hw, rw'⟩ := r.get eq
        exact ⟨a, C, dx, _, w, rfl, s, c.c, c.n f (List.mem_of_getElem? hf), fld_zip hz hf hw, P1.now R1.s w rw' fun z => nomatch z⟩
      · exact False.elim P1
    · exact False.elim P1
def eTruB (a : EM) : EM := fun env st => (a env st).bind fun x s => match deref s x with
  | .lst xs => .ok (.bl (!xs.isEmpty)) s
  | _ => .bad
theorem evt_truB (h : Ev X W fe e m) (he : ∀ whole, isTrue e X.env whole = (do let v ← whole; standAt e.pos; holding [v] (truthy v)) := by intro _; rfl) : EvT X W e (eTruB m) :=
  PT.anti (pt_truth h he) fun σ H Q ⟨hid, ρ, env, st, R, P⟩ => cE_use R P fun ρ1 st1 H1 x v l R1 rx _ P1 => by
    split at P1
    · rename_i xs ex
      obtain ⟨a, vs, rfl, ha, rv⟩ := rep_lst R1.s rx ex
      have e : vs.isEmpty = xs.isEmpty := by
        have hl := rv.length
        cases vs <;> cases xs <;> simp_all
      refine ⟨!vs.isEmpty, .inl ⟨vs, SqL.of ha, rfl⟩, ?_⟩
      rw [e]
      exact kT_iff P1 R1.s
    · exact False.elim P1
def ePop (m : EM) : EM := fun env st => (m env st).bind fun x s => match x with
  | .loc n => match deref s (.loc n) with
    | .lst xs => match xs.getLast? with
      | some y => .ok y (s.set n (.lst xs.dropLast))
      | none => .bad
    | _ => .bad
  | _ => .bad
theorem reps_dl {G : Gx} {ρ : List Addr} {H : Hp} {xs : List PV} {vs : List V} (h : Reps G ρ H xs vs) : Reps G ρ H xs.dropLast vs.dropLast := by
  rw [List.dropLast_eq_take, List.dropLast_eq_take, h.length]
  exact h.take _
theorem ev_pop {apos cpos : Pos} (he : Ev X W fe e m) (hbase : attributeBase e "pop" X.env (eval e X.env) = eval e X.env := by rfl) (hline : (apos.endLine == cpos.line) = true := by rfl) : Ev X W false (.Call (.Attribute e "pop" apos) [] [] cpos) (ePop m) :=
  PE.anti (pe_bm0 PySem.F.plainAttrs_list PySem.F.slot_list_pop PySem.F.type_list_pop mt_pop he hbase hline) fun σ H Q ⟨hid, ρ, env, st, R, P⟩ => cE_use R P fun ρ1 st1 H1 x v l R1 rx _ P1 => by
    split at P1
    · rename_i n
      split at P1
      · rename_i xs ex
        split at P1
        · rename_i y ey
          obtain ⟨a, rfl, hn, o, f⟩ := loc_obj R1.s rx
          rw [ex] at o f
          obtain ⟨vs, hv, rv⟩ := o
          have mu : Mut (H1 a) := by rw [hv]; trivial
          have hin : a ∈ ρ1 := List.mem_of_getElem? hn
          rw [List.getLast?_eq_getElem?] at ey
          obtain ⟨w, hw, ry⟩ := rv.get ey
          refine ⟨.inl ⟨rfl, _, SqL.of hv⟩, a, vs, w, rfl, rfl, hv, by rw [rv.length]; exact hw, ?_⟩
          exact P1 ρ1 _ (Later.wr hin mu) (srel_wrE hn mu R1.s ⟨vs.dropLast, upd_same, reps_wr (.inl hin) mu _ _ (reps_dl rv)⟩ (f.app fun z hz => .inl (List.dropLast_subset _ hz))) w (rep_wr (.inl hin) mu _ _ ry) fun z => nomatch z
        · exact False.elim P1
      · exact False.elim P1
    · exact False.elim P1
end
end Vm
namespace Vm
open PySem PySem.Spec L2
def HV (hid : HD) (ρ : List Addr) : Prop := hid.bb = none ∧ ∃ k, k ≤ ρ.length ∧ ∀ n, k ≤ n → hid.nst n = true
theorem HV.later {hid : HD} {ρ ρ' : List Addr} {H H' : Hp} (h : HV hid ρ) (l : Later ρ H ρ' H') : HV hid ρ' := by
  obtain ⟨h0, k, h1, h2⟩ := h
  obtain ⟨δ, rfl, _⟩ := l.ext
  exact ⟨h0, k, by rw [List.length_append]; omega, h2⟩
def cV (X : Cx) (W : XD) (fr : Bool) (m : SM) : TS := fun D σ H => ∃ hid ρ env st, HV hid ρ ∧ Rel (gx X W hid) ρ env st σ H ∧ PostS (gx X W hid) ρ H fr (m env st) D
def EvV (X : Cx) (W : XD) (fr : Bool) (st : Stmt) (m : SM) : Prop := PS X st (cV X W fr m)
def EvVs (X : Cx) (W : XD) (fr : Bool) (st : List Stmt) (m : SM) : Prop := PSs X st (cV X W fr m)
section
variable {X : Cx} {W : XD} {fr f : Bool} {st : Stmt} {rest sa sb : List Stmt} {e c : Expr} {m me mc : EM} {ms mr a b : SM} {pos : Pos}
theorem evv_of (h : EvS X W fr st ms) : EvV X W fr st ms := PS.anti h fun D σ H ⟨hid, ρ, env, st, _, R, P⟩ => ⟨hid, ρ, env, st, R, P⟩
theorem evvs_nil : EvVs X W fr [] sNil := PSs.anti pss_nil fun D σ H ⟨hid, ρ, env, st, _, R, P⟩ => P ρ H σ (Later.refl _ _) R
theorem evvs_cons (h1 : EvV X W fr st ms) (h2 : EvVs X W fr rest mr) : EvVs X W fr (st :: rest) (sCons ms mr) :=
  PSs.anti (pss_cons h1 h2) fun D σ H ⟨hid, ρ, env, st, hv, R, P⟩ => ⟨hid, ρ, env, st, hv, R, P.seq fun ρ1 env1 st1 σ1 H1 l R1 P1 => ⟨hid, ρ1, env1, st1, hv.later l, R1, P1⟩⟩
theorem evv_if (hc : EvT X W c mc) (ha : EvVs X W fr sa a) (hb : EvVs X W fr sb b) : EvV X W fr (.If c sa sb pos) (sIf mc a b) :=
  PS.anti (ps_if hc ha hb) fun D σ H ⟨hid, ρ, env, st, hv, R, P⟩ => sT_use R P fun ρ1 st1 H1 c l R1 P1 => by
    cases c with
    | true => exact ⟨hid, ρ1, env, st1, hv.later l, R1, P1⟩
    | false => exact ⟨hid, ρ1, env, st1, hv.later l, R1, P1⟩
theorem evv_while {body : List Stmt} {mb : SM} (hp : PassesOwn (model X.prog X.w) X.A X.env X.xe) (hc : EvT X W c mc) (hb : EvVs X W fr body mb) : EvV X W fr (.While c body [] pos) (sWhile mc mb) :=
  PS.anti (ps_while hp hc hb) fun D σ H ⟨hid, ρ, env, st, hv, R, P⟩ => by
    refine ⟨fun m σ' H' => ∃ ρ' env' st', Later ρ H ρ' H' ∧ Rel (gx X W hid) ρ' env' st' σ' H' ∧ PostS (gx X W hid) ρ' H' fr (whileP mc mb m env' st') D, ⟨10000000, ρ, env, st, Later.refl _ _, R, P⟩, ?_⟩
    rintro m σ' H' ⟨ρ', env', st', l, R', P'⟩
    cases m with
    | zero => exact False.elim P'
    | succ m =>
      unfold whileP at P'
      refine sT_use R' P' fun ρ1 st1 H1 k l1 R1 P1 => ?_
      cases k with
      | false => exact P1 ρ1 H1 σ' (Later.refl _ _) R1
      | true =>
        rw [if_pos rfl] at P1
        rw [if_pos rfl]
        refine ⟨fun σ2 H2 => ∃ ρ2 env2 st2, Later ρ H ρ2 H2 ∧ Rel (gx X W hid) ρ2 env2 st2 σ2 H2 ∧ PostS (gx X W hid) ρ2 H2 fr (whileP mc mb m env2 st2) D, fun σ2 H2 ⟨ρ2, env2, st2, l2, R2, P2⟩ => ⟨m, Nat.lt_succ_self _, ρ2, env2, st2, l2, R2, P2⟩, hid, ρ1, env', st1, hv.later (l.trans l1), R1, ?_⟩
        cases eb : mb env' st1 with
        | nx e s => rw [eb] at P1; exact fun ρ4 H4 σ4 l4 R4 => ⟨ρ4, e, s, (l.trans l1).trans l4, R4, PostS.move l4 P1⟩
        | ct e s => rw [eb] at P1; exact fun ρ4 H4 σ4 l4 R4 => ⟨ρ4, e, s, (l.trans l1).trans l4, R4, PostS.move l4 P1⟩
        | bk e s => rw [eb] at P1; exact P1
        | rt p s => rw [eb] at P1; exact P1
        | ex c fs s => rw [eb] at P1; exact P1
        | bad => rw [eb] at P1; exact P1
/-- visits.append(e) -/
def sAppV (l a : EM) : SM := fun env st => (l env st).s fun x s1 => match x with
  | .loc n => match deref s1 (.loc n) with
    | .lst _ => (a env s1).s fun y s2 => match deref s2 (.loc n) with
      | .lst xs => if xs.length < 1000000 ∧ nV y = true ∧ pures xs = false then .nx env (s2.set n (.lst (xs ++ [y]))) else .bad
      | _ => .bad
    | _ => .bad
  | _ => .bad
theorem evv_app {f1 f2 : Bool} {l : Expr} {ml : EM} {apos cpos : Pos} (hl : Ev X W f1 l ml) (he : Ev X W f2 e me)
    (hbase : attributeBase l "append" X.env (eval l X.env) = eval l X.env := by rfl)
    (hfew : ((backTo cpos (starEach [e] X.env)).all (fun x => !x.1) && (backToKw cpos (keywordEach [] X.env)).all (fun x => x.1.isSome)
      && decide (([e] : List Expr).length + ([] : List Keyword).length + (if ([] : List Keyword).isEmpty then 0 else 1) < 30)) = true := by rfl)
    (hline : (apos.endLine == cpos.line) = true := by rfl) (hse : starEach [e] X.env = (false, eval e X.env) :: starEach [] X.env := by rfl) (hplain : (backTo cpos (starEach [] X.env)).any (·.1) = false := by rfl)
    (hs : swapsWith (.Call (.Attribute l "append" apos) [e] [] cpos) none pos.line X.env = pure false := by rfl) : EvV X W fr (.Expr (.Call (.Attribute l "append" apos) [e] [] cpos) pos) (sAppV ml me) :=
  PS.anti (ps_expr (pe_bm PySem.F.plainAttrs_list PySem.F.slot_list_append PySem.F.type_list_append mt_append hl (pa_cons he pa_nil hse) hbase hfew hline hse hplain) hs) fun D σ H ⟨hid, ρ, env, st, hv, R, P⟩ => sE_use R P fun ρ1 st1 H1 x v l1 R1 rx _ P1 => by
    split at P1
    · rename_i n
      split at P1
      · rename_i zs ez
        obtain ⟨a, rfl, hn, o, _⟩ := loc_obj R1.s rx
        rw [ez] at o
        obtain ⟨ws, ho, _⟩ := o
        refine ⟨.inl ⟨rfl, _, SqL.of ho⟩, sE_use R1 P1 fun ρ2 st2 H2 y u l2 R2 ry _ P2 => ?_⟩
        split at P2
        · rename_i xs ex
          split at P2
          · rename_i hz
            obtain ⟨b, eb, hn2, o2, f2⟩ := loc_obj R2.s (Rep.later l2 _ _ rx)
            cases eb
            rw [ex] at o2 f2
            obtain ⟨vs, hv2, rv⟩ := o2
            have mu : Mut (H2 a) := by rw [hv2]; trivial
            have hin : a ∈ ρ2 := List.mem_of_getElem? hn2
            refine ⟨a, vs, u, rfl, rfl, hv2, by rw [rv.length]; exact szl _ (by omega), ?_⟩
            refine P2 ρ2 _ σ (Later.wr hin mu) ⟨srel_wrE hn2 mu R2.s ⟨vs ++ [u], upd_same, reps_wr (.inl hin) mu _ _ (rv.append (Reps.one ry))⟩ ?_, envR_wr (.inl hin) mu R2.e⟩
            rcases f2 with f2 | ⟨_, e, h1, h2, _⟩
            · rw [show pures xs = true from f2] at hz; exact absurd hz.2.2 (by decide)
            · cases e
              refine .inr ⟨xs ++ [y], rfl, h1, fun z hz' => ?_, fun b hb => by rw [show (gx X W hid).bb = hid.bb from rfl, hv.1] at hb; cases hb⟩
              rcases List.mem_append.mp hz' with hz' | hz'
              · exact h2 z hz'
              · rw [List.mem_singleton.mp hz']; exact hz.2.1
          · exact False.elim P2
        · exact False.elim P2
      · exact False.elim P1
    · exact False.elim P1
/-- a new list of visits -/
theorem srel_boxV {G : Gx} {ρ : List Addr} {st : VSt} {H : Hp} {xs : List PV} {vs : List V} {p : Addr} (s : SRel G ρ st H) (hp : H p = none) (f : okE G st.length (.lst xs)) (r : Reps G ρ H xs vs) : SRel G (ρ ++ [p]) (st ++ [.lst xs]) (upd H p (.lst vs)) := by
  have l : Later ρ H (ρ ++ [p]) (upd H p (.lst vs)) := (Later.box hp).mut hp
  have n := s.fresh hp
  have n2 := s.freshH hp
  refine ⟨?_, by rw [List.length_append, List.length_append, s.len]; rfl, fun i q b e1 e2 => ?_, fun d hd => ?_, fun b hb => ⟨by rw [List.length_append]; exact Nat.le_succ_of_le (s.ned b hb).1, (s.ned b hb).2⟩⟩
  · rw [List.nodup_append]
    exact ⟨s.nd, by simp, fun x hx y hy => by rw [List.mem_singleton] at hy; subst hy; intro e; subst e; exact n hx⟩
  · by_cases hi : i < st.length
    · rw [List.getElem?_append_left hi] at e1
      rw [List.getElem?_append_left (by rw [s.len]; exact hi)] at e2
      obtain ⟨h1, h2⟩ := s.obj i q b e1 e2
      have ne : b ≠ p := fun e => n (by rw [← e]; exact List.mem_of_getElem? e2)
      exact ⟨h1.later l (upd_ne ne), h2⟩
    · rw [List.getElem?_append_right (by omega)] at e1
      rw [List.getElem?_append_right (by rw [s.len]; omega), s.len] at e2
      have : i - st.length = 0 := by
        have := (List.getElem?_eq_some_iff.mp e1).1
        simp at this
        omega
      have hi' : i = st.length := by omega
      rw [this] at e1 e2
      simp at e1 e2
      subst e1 e2
      rw [hi']
      exact ⟨⟨vs, upd_same, Reps.later l _ _ r⟩, f⟩
  · obtain ⟨h1, u, e⟩ := s.hid d hd
    refine ⟨fun z => ?_, u, by rw [upd_ne (ne_of_none e hp)]; exact e⟩
    rcases List.mem_append.mp z with z | z
    · exact h1 z
    · rw [List.mem_singleton] at z; subst z; exact n2 hd
/-- visits = [..] -/
def sSetV (i : Nat) (a : AM) : SM := fun env st => (a env st).s fun ys s1 => if ys.length < 1000000 ∧ (ys.all nV) = true then .nx (env.set i (some (.loc s1.length))) (s1 ++ [.lst ys]) else .bad
theorem evv_setL {i : Nat} {x : Str} {es : List Expr} {mes : AM} {xp lp : Pos} (nd : X.N.Nodup) (hes : EvA X W es mes) (hx : Loc X.env.scope x := by first | exact Or.inl rfl | exact Or.inr rfl) (hi : X.N[i]? = some x := by rfl) (hsw : swapsWith (.List es lp) (some (.Name x xp)) pos.line X.env = pure false := by rfl)
    (hf : X.fn x = true ∨ X.env.scope.names.lookup x = some .local := by first | exact .inl rfl | exact .inr rfl | assumption) : EvV X W fr (.Assign [.Name x xp] (.List es lp) pos) (sSetV i mes) :=
  PS.anti (ps_set nd hi hx (pe_lst hes) hsw hf) fun D σ H ⟨hid, ρ, env, st, hv, R, P⟩ => cA_useS R P fun ρ1 st1 H1 ys vs l1 R1 rys P1 => by
    split at P1
    · rename_i hz
      refine ⟨by rw [rys.length]; exact sz _ (by omega), fun p hp => ?_⟩
      obtain ⟨h0, k, hk, h2⟩ := hv.later l1
      have l : Later ρ1 H1 (ρ1 ++ [p]) (upd H1 p (.lst vs)) := (Later.box hp).mut hp
      refine P1 (ρ1 ++ [p]) _ _ (l1.trans l) ⟨srel_boxV R1.s hp (.inr ⟨ys, rfl, h2 _ (by rw [← R1.s.len]; exact hk), fun y hy => List.all_eq_true.mp hz.2 y hy, fun b hb => ?_⟩) rys, (R1.e.later l).set (p := .loc st1.length) (v := .ref p) ⟨p, rfl, ?_⟩ i⟩
      · rw [show (gx X W hid).bb = hid.bb from rfl, h0] at hb; cases hb
      · rw [← R1.s.len, List.getElem?_append_right (Nat.le_refl _), Nat.sub_self]; rfl
    · exact False.elim P1
end
end Vm
namespace Vm
open PySem PySem.Spec L2
def gateR (r : SR) : SR := match r with
  | .rt (.loc n) st => if noLoc (st.getD n .non) = true then .rt (.loc n) st else .bad
  | _ => .bad
def gateF (b : SM) : SM := fun env st => if st.all noLoc = true then gateR (b env st) else .bad
section
variable {P : Program} {w : World} {K : PySem.W.Frag} {mg : Str → Option Value} {base : Heap}
theorem spI_runV {C : Nat → Addr} {np ns : Nat} {fr : Bool} {b : Tbl → SM} {T : Tbl} {N : List Str} {vs : List V} {H : Hp} {Q : VK} {E : XK} {X : Cx} (e1 : X.prog = P) (e2 : X.w = w) (e3 : X.K = K) (hns : ns = N.length) (h : spI P w K C fr (callI ⟨np, ns, fr, fun T => gateF (b T)⟩ T) vs H Q E) :
    cV X ⟨C, E⟩ fr (b T) { nx := fun _ H' => Q .non H', rt := Q } (start N vs) H := by
  subst e1 e2 e3
  obtain ⟨hid, ρ, st0, args, ⟨b0, hb0⟩, S0, r, P0⟩ := h
  have hl : args.length = np := by
    unfold callI at P0
    split at P0
    · assumption
    · exact False.elim P0
  unfold callI at P0
  rw [if_pos hl] at P0
  have hk : st0.length = ρ.length := S0.len.symm
  rw [hk] at P0
  replace P0 : Post (gk X.prog X.w X.K hid ⟨C, E⟩) ρ H (endI fr ρ.length (if st0.all noLoc = true then gateR (b T (args.map some ++ List.replicate (ns - np) none) st0) else .bad)) (kE (gk X.prog X.w X.K hid ⟨C, E⟩) H fr Q) := P0
  by_cases hg : st0.all noLoc = true
  · rw [if_pos hg] at P0
    let W1 : (Nat → Bool) × Option Nat := (fun n => decide (ρ.length ≤ n), none)
    have S1 : SRel ((gk X.prog X.w X.K hid ⟨C, E⟩).wn W1) ρ st0 H := ⟨S0.nd, S0.len, fun n p a f1 f2 => ⟨objR_wn (S0.obj n p a f1 f2).1, .inl (List.all_eq_true.mp hg p (List.mem_of_getElem? f1))⟩, S0.hid, fun b hb => (by cases hb)⟩
    have back : ∀ {ρ' : List Addr} {st' : VSt} {H' : Hp}, (∃ δ, ρ' = ρ ++ δ) → SRel ((gk X.prog X.w X.K hid ⟨C, E⟩).wn W1) ρ' st' H' → SRel (gk X.prog X.w X.K hid ⟨C, E⟩) ρ (st'.take ρ.length) H' := fun {ρ'} {st'} {H'} hδ S => by
      obtain ⟨δ, rfl⟩ := hδ
      refine ⟨(List.nodup_append.mp S.nd).1, ?_, fun n p a f1 f2 => ?_, fun d hd => ?_, S0.ned⟩
      · have := S.len
        rw [List.length_append] at this
        rw [List.length_take]; omega
      · have hn := (List.getElem?_eq_some_iff.mp f2).1
        rw [List.getElem?_take_of_lt hn] at f1
        obtain ⟨o, f⟩ := S.obj n p a f1 (by rw [List.getElem?_append_left hn]; exact f2)
        have f : noLoc p = true := by
          rcases f with f | ⟨_, _, hs, _⟩
          · exact f
          · have : ρ.length ≤ n := of_decide_eq_true hs
            omega
        have o := objR_wn (xd := (hid.nst, hid.bb)) o
        exact ⟨objR_pure (G := gk X.prog X.w X.K hid ⟨C, E⟩) f o, .inl f⟩
      · obtain ⟨h1, u, e⟩ := S.hid d hd
        exact ⟨fun z => h1 (List.mem_append_left _ z), u, e⟩
    refine ⟨⟨hid.l, W1.1, W1.2⟩, ρ, _, st0, ⟨rfl, ρ.length, Nat.le_refl _, fun n h => decide_eq_true h⟩, ⟨S1, envR_wn (G := gk X.prog X.w X.K hid ⟨C, E⟩) (xd := W1) (envR_start r hl hns)⟩, ?_⟩
    generalize b T (args.map some ++ List.replicate (ns - np) none) st0 = r0 at P0
    cases r0 with
    | bad => exact False.elim P0
    | bk _ _ => exact False.elim P0
    | ct _ _ => exact False.elim P0
    | ex c fs st' => exact False.elim P0
    | nx env' st' => exact False.elim P0
    | rt p st' =>
      cases p with
      | loc n =>
        replace P0 : Post (gk X.prog X.w X.K hid ⟨C, E⟩) ρ H (endI fr ρ.length (if noLoc (st'.getD n .non) = true then .rt (.loc n) st' else .bad)) (kE (gk X.prog X.w X.K hid ⟨C, E⟩) H fr Q) := P0
        split at P0
        · rename_i hnl
          replace P0 : Post (gk X.prog X.w X.K hid ⟨C, E⟩) ρ H (if (fr && wt ρ.length (.loc n)) = true then .bad else .ok (freeze st' ρ.length (.loc n)) (st'.take ρ.length)) (kE (gk X.prog X.w X.K hid ⟨C, E⟩) H fr Q) := P0
          intro ρ' H' v l S' rp f
          split at P0
          · exact False.elim P0
          · rename_i hz
            have hx := l.ext
            obtain ⟨δ, rfl, hδ⟩ := hx
            replace S' : SRel ((gk X.prog X.w X.K hid ⟨C, E⟩).wn W1) (ρ ++ δ) st' H' := S'
            obtain ⟨a, rfl, hn⟩ := rp
            refine P0 ρ H' l.cut (back ⟨δ, rfl⟩ S') (.ref a) ?_ fun hf a' ea => ?_
            · by_cases hlt : n < ρ.length
              · have : freeze st' ρ.length (.loc n) = .loc n := by unfold freeze; rw [if_pos hlt]
                rw [this]
                exact ⟨a, rfl, by rw [List.getElem?_append_left hlt] at hn; exact hn⟩
              · have : freeze st' ρ.length (.loc n) = st'.getD n .non := by unfold freeze; rw [if_neg hlt]
                rw [this]
                have h1 : n < st'.length := by rw [← S'.len]; exact (List.getElem?_eq_some_iff.mp hn).1
                have e : st'.getD n .non = st'[n] := by rw [List.getD_eq_getElem?_getD, List.getElem?_eq_getElem h1]; rfl
                rw [e] at hnl ⊢
                obtain ⟨o, _⟩ := S'.obj n st'[n] a (List.getElem?_eq_getElem h1) hn
                have o := objR_wn (xd := (hid.nst, hid.bb)) o
                refine objR_rep (G := gk X.prog X.w X.K hid ⟨C, E⟩) (ρ := ρ ++ δ) hnl o (fun z => ?_) fun z => (S'.hid a z).1 (List.mem_of_getElem? hn)
                obtain ⟨i, hi, ei⟩ := List.getElem_of_mem z
                have e2 : (ρ ++ δ)[i]? = some a := by rw [List.getElem?_append_left hi, List.getElem?_eq_getElem hi, ei]
                have := nodup_ix' S'.nd hn e2
                omega
            · cases ea
              rw [hf] at hz
              have hm : ¬ n < ρ.length := fun z => hz (by show (true && decide (n < ρ.length)) = true; simp [z])
              rw [List.getElem?_append_right (by omega)] at hn
              exact hδ _ (List.mem_of_getElem? hn)
        · exact False.elim P0
      | _ => exact False.elim P0
  · rw [if_neg hg] at P0
    exact False.elim P0
theorem fn_okV {x qual : Str} {st : Stmt} {f : Addr} {fd : FuncData} {N ps : List Str} {n np ns : Nat} {fr : Bool} {b : Tbl → SM} {T : Tbl} {C : Nat → Addr} (F : Fun K x qual st f fd) (S : FnScope N ps (defScope st)) (hnp : np = ps.length) (hns : ns = N.length)
    (hb : ∀ (cdv : Value) (A : Around) (outer : List Env) (s : Shared) (H : Hp) (E : XK), Room n (A.deeper (PyProof.Rows.envOfC qual (defScope st) s.heap.objs.size f cdv)) → EvVs (cxOf (L2N.CX P w) P w K mg base N qual (defScope st) f cdv A outer s H E) ⟨C, E⟩ fr (defBody st) (b T)) :
    FnOk P w K mg base (L2N.CX P w) (n + 1) f fd ps (spI P w K C fr (callI ⟨np, ns, fr, fun T => gateF (b T)⟩ T)) :=
  okN F S (fun vs H Q E h => by rw [spI_len h, ← hnp]) fun cdv A outer s H vs Q E hr h => ⟨_, hb cdv A outer s H E hr, spI_runV rfl rfl rfl hns h⟩
end
def cellsK (ps : List Str) (ns : List Int) : List (Key × V) := (ps.zip ns).foldl (fun kvs p => putK kvs (.inr p.1) (.int (p.2 % 1000003))) []
/-- what __init__ promises -/
def spVis (K : PySem.W.Frag) : Sp := fun vs H Q _ => ∃ (x C dx fa pa ra b : Addr) (nm rv tv : V) (ps : List Str) (rows : List V) (ns : List Int), vs = [.ref x, .ref fa, .ref b, tv] ∧ H x = some (.ins C dx []) ∧ VCl K C ∧
  SqT K H fa [nm, .ref pa, .ref ra, rv] ∧ SqT K H pa (ps.map V.str) ∧ SqT K H ra rows ∧ SqL K H b (ns.map V.int) ∧ ps.length ≤ 1000 ∧ rows.length ≤ 1000000 ∧
  ∀ (H' : Hp) (ca ha : Addr), (∀ c o, c ≠ x → H c = some o → H' c = some o) → H ca = none → H ha = none → ca ≠ ha → H' ca = some (.dK (cellsK ps ns)) → H' ha = some (.lst rows.reverse) → H' x = some (.ins C dx (vNms.zip [.ref ca, .ref ha, rv, tv])) → Q .non H'
theorem cellsK_len : ∀ (l : List (Str × Int)) (acc : List (Key × V)), (l.foldl (fun kvs p => putK kvs (.inr p.1) (.int (p.2 % 1000003))) acc).length ≤ acc.length + l.length
  | [], acc => Nat.le_refl _
  | p :: l, acc => by
    have := cellsK_len l (putK acc (.inr p.1) (.int (p.2 % 1000003)))
    have h2 : (putK acc (.inr p.1) (.int (p.2 % 1000003))).length ≤ acc.length + 1 := by
      unfold putK
      split
      · rw [List.length_map]; omega
      · rw [List.length_append]; exact Nat.le_refl _
    rw [List.foldl_cons, List.length_cons]; omega
/-- {name: number % 1000003 for name, number in zip(names, numbers)} -/
theorem dcz {K : PySem.W.Frag} {a b : Addr} {ps : List Str} {ns : List Int} {H1 : Hp} {D : Addr} (ha : SqT K H1 a (ps.map V.str)) (hb : SqL K H1 b (ns.map V.int)) (hD : H1 D = none) (hz : ps.length ≤ 1000) {Qd : Hp → Prop} {B : V → Hp → (Hp → Prop) → Prop}
    (hq : ∀ H', (∀ c o, H1 c = some o → H' c = some o) → H' D = some (.dK (cellsK ps ns)) → Qd H')
    (hs : ∀ (T : Addr) (H' : Hp) (p : Str) (n : Int) (kvs : List (Key × V)) (R : Hp → Prop), H' T = some (.tup [.str p, .int n]) → H' D = some (.dK kvs) → kvs.length < sizeLine → R (upd H' D (.dK (putK kvs (.inr p) (.int (n % 1000003))))) → B (.ref T) H' R) :
    ∃ W : Nat → Nat → Hp → Prop, (∃ m, W 0 m (upd H1 D (.dK []))) ∧ ∀ i m H, W i m H →
      ((ItzM K a b).stop i H ∧ Qd H) ∨ ((ItzM K a b).go i H ∧ ∃ Nx : Hp → Prop, (∀ H', Nx H' → ∃ m', m' < m ∧ W (i + 1) m' H') ∧ ∀ x H', (ItzM K a b).yld i H x H' → B x H' Nx) := by
  have szl := sizeLine_eq
  obtain ⟨M, hM⟩ : ∃ M, M = (ps.zip ns).length := ⟨_, rfl⟩
  have hM2 : M = min ps.length ns.length := by rw [hM, List.length_zip]
  have kept : ∀ {H : Hp}, (∀ c o, H1 c = some o → H c = some o) → SqT K H a (ps.map V.str) ∧ SqL K H b (ns.map V.int) := fun {H} k => by
    constructor
    · rcases ha with (h | ⟨o, h⟩) | h
      · exact .inl (.inl (k _ _ h))
      · exact .inl (.inr ⟨o, k _ _ h⟩)
      · exact .inr h
    · rcases hb with (h | ⟨o, h⟩) | h
      · exact .inl (.inl (k _ _ h))
      · exact .inl (.inr ⟨o, k _ _ h⟩)
      · exact .inr h
  let Pv : Nat → Hp → Prop := fun i H => (∀ c o, H1 c = some o → H c = some o) ∧ H D = some (.dK (((ps.zip ns).take i).foldl (fun kvs p => putK kvs (.inr p.1) (.int (p.2 % 1000003))) []))
  refine ⟨fun i m H => m = M - i ∧ i ≤ M ∧ Pv i H, ⟨M, by simp, Nat.zero_le _, fun c o e => by rw [upd_ne (ne_of_none e hD)]; exact e, upd_same⟩, ?_⟩
  rintro i m H ⟨rfl, hi, k, hDi⟩
  obtain ⟨ka, kb⟩ := kept k
  by_cases hlt : i < M
  · have hip : i < ps.length := by omega
    have hin : i < ns.length := by omega
    have ea : (ps.map V.str)[i]? = some (.str ps[i]) := by rw [List.getElem?_map, List.getElem?_eq_getElem hip]; rfl
    have eb : (ns.map V.int)[i]? = some (.int ns[i]) := by rw [List.getElem?_map, List.getElem?_eq_getElem hin]; rfl
    refine .inr ⟨⟨_, _, _, _, ka, kb, ea, eb⟩, fun H' => M - (i + 1) < M - i ∧ i + 1 ≤ M ∧ Pv (i + 1) H', fun H' h => ⟨M - (i + 1), by omega, rfl, h.2⟩, fun x H' hy => ?_⟩
    obtain ⟨T, x0, y0, rfl, hT, rfl, hx, hy⟩ := hy
    have ex := hx _ ka
    rw [ea] at ex
    obtain rfl := Option.some.inj ex
    have ey := hy _ kb
    rw [eb] at ey
    obtain rfl := Option.some.inj ey
    have nD : D ≠ T := ne_of_none hDi hT
    refine hs T _ ps[i] ns[i] (((ps.zip ns).take i).foldl (fun kvs p => putK kvs (.inr p.1) (.int (p.2 % 1000003))) []) _ upd_same (by rw [upd_ne nD]; exact hDi) ?_ ⟨by omega, by omega, fun c o e => ?_, ?_⟩
    · have := cellsK_len ((ps.zip ns).take i) []
      rw [List.length_take] at this
      simp at this
      omega
    · rw [upd_ne (ne_of_none e hD), upd_ne (ne_of_none (k c o e) hT)]; exact k c o e
    · have hiz : i < (ps.zip ns).length := by omega
      rw [upd_same, (List.take_append_getElem hiz).symm, List.foldl_append, List.getElem_zip]; rfl
  · obtain rfl : i = M := by omega
    refine .inl ⟨⟨_, _, ka, kb, ?_⟩, hq H k ?_⟩
    · rw [List.length_map, List.length_map]; omega
    · rw [hDi, hM, List.take_length]; rfl
end Vm
namespace Vm
open PySem PySem.Spec L2
def cellsE (ps : List Str) (ns : List Int) : List (Str × Int) := (ps.zip ns).foldl (fun l p => putE l p.1 (p.2 % 1000003)) []
theorem putE_K (l : List (Str × Int)) (x : Str) (v : Int) : (putE l x v).map (fun p => ((Sum.inr p.1 : Key), V.int p.2)) = putK (l.map fun p => ((Sum.inr p.1 : Key), V.int p.2)) (.inr x) (.int v) := by
  unfold putE putK
  have e : ((l.map fun p => ((Sum.inr p.1 : Key), V.int p.2)).any fun kv => decide (kv.1 = Sum.inr x)) = hasE l x := by
    rw [Bool.eq_iff_iff, hasE_iff, List.any_eq_true]
    constructor
    · rintro ⟨q, hq, h⟩
      obtain ⟨p, hp, rfl⟩ := List.mem_map.mp hq
      have h : (Sum.inr p.1 : Key) = Sum.inr x := of_decide_eq_true h
      rw [← Sum.inr.inj h]
      exact List.mem_map_of_mem hp
    · intro h
      obtain ⟨p, hp, rfl⟩ := List.mem_map.mp h
      exact ⟨_, List.mem_map_of_mem hp, decide_eq_true rfl⟩
  rw [e]
  by_cases h : hasE l x = true
  · rw [if_pos h, if_pos h, List.map_map, List.map_map]
    refine List.map_congr_left fun p _ => ?_
    show ((Sum.inr p.1 : Key), V.int (if p.1 = x then v else p.2)) = if (Sum.inr p.1 : Key) = Sum.inr x then ((Sum.inr p.1 : Key), V.int v) else ((Sum.inr p.1 : Key), V.int p.2)
    by_cases e : p.1 = x
    · rw [if_pos e, if_pos (by rw [e])]
    · rw [if_neg e, if_neg fun z => e (Sum.inr.inj z)]
  · rw [if_neg h, if_neg h, List.map_append]; rfl
theorem cells_K (ps : List Str) (ns : List Int) : cellsK ps ns = (cellsE ps ns).map fun p => ((Sum.inr p.1 : Key), V.int p.2) := by
  unfold cellsK cellsE
  have key : ∀ (l : List (Str × Int)) (acc : List (Str × Int)), l.foldl (fun kvs p => putK kvs (.inr p.1) (.int (p.2 % 1000003))) (acc.map fun p => ((Sum.inr p.1 : Key), V.int p.2)) = (l.foldl (fun l p => putE l p.1 (p.2 % 1000003)) acc).map fun p => ((Sum.inr p.1 : Key), V.int p.2) := fun l => by
    induction l with
    | nil => intro acc; rfl
    | cons p l ih => intro acc; rw [List.foldl_cons, List.foldl_cons, ← putE_K, ih]
  exact key _ []
def newV (xs : List PV) (st : VSt) : Res PV := match xs with
  | [.tup [_, .tup ps, .tup rows, res], q, tgt] => match strsOf ps, deref st q with
    | some ws, .lst ns => match intsP ns with
      | some is => if ws.length ≤ 1000 ∧ rows.length ≤ 1000000 ∧ pures rows = true ∧ pureP res = true ∧ pureP tgt = true then .ok (.vis [.loc st.length, .loc (st.length + 1), res, tgt]) (st ++ [dE PV.int (cellsE ws is)] ++ [.lst rows.reverse]) else .bad
      | none => .bad
    | _, _ => .bad
  | _ => .bad
theorem strs_is : ∀ {ps : List PV} {ws : List Str}, strsOf ps = some ws → ps = ws.map PV.str
  | [], ws, h => by cases h; rfl
  | .str x :: r, ws, h => by
    unfold strsOf at h
    obtain ⟨ys, hy, rfl⟩ := Option.map_eq_some_iff.mp h
    rw [strs_is hy]; rfl
  | .non :: _, _, h => by cases h
  | .bl _ :: _, _, h => by cases h
  | .int _ :: _, _, h => by cases h
  | .tup _ :: _, _, h => by cases h
  | .lst _ :: _, _, h => by cases h
  | .dct _ _ :: _, _, h => by cases h
  | .sset _ :: _, _, h => by cases h
  | .scr _ :: _, _, h => by cases h
  | .loc _ :: _, _, h => by cases h
  | .raw _ _ _ :: _, _, h => by cases h
  | .vis _ :: _, _, h => by cases h
theorem ints_is : ∀ {ps : List PV} {ws : List Int}, intsP ps = some ws → ps = ws.map PV.int
  | [], ws, h => by cases h; rfl
  | .int x :: r, ws, h => by
    unfold intsP at h
    obtain ⟨ys, hy, rfl⟩ := Option.map_eq_some_iff.mp h
    rw [ints_is hy]; rfl
  | .non :: _, _, h => by cases h
  | .bl _ :: _, _, h => by cases h
  | .str _ :: _, _, h => by cases h
  | .tup _ :: _, _, h => by cases h
  | .lst _ :: _, _, h => by cases h
  | .dct _ _ :: _, _, h => by cases h
  | .sset _ :: _, _, h => by cases h
  | .scr _ :: _, _, h => by cases h
  | .loc _ :: _, _, h => by cases h
  | .raw _ _ _ :: _, _, h => by cases h
  | .vis _ :: _, _, h => by cases h
theorem reps_strV {G : Gx} {ρ : List Addr} {H : Hp} : ∀ {ws : List Str} {vs : List V}, Reps G ρ H (ws.map PV.str) vs → vs = ws.map V.str
  | [], vs, h => h
  | w :: ws, vs, h => by
    obtain ⟨v, r, rfl, h1, h2⟩ := h
    rw [reps_strV h2, show v = .str w from h1]; rfl
theorem reps_intV {G : Gx} {ρ : List Addr} {H : Hp} : ∀ {ws : List Int} {vs : List V}, Reps G ρ H (ws.map PV.int) vs → vs = ws.map V.int
  | [], vs, h => h
  | w :: ws, vs, h => by
    obtain ⟨v, r, rfl, h1, h2⟩ := h
    rw [reps_intV h2, show v = .int w from h1]; rfl
theorem reps_intV' {G : Gx} {ρ : List Addr} {H : Hp} : ∀ l : List (Str × Int), Reps G ρ H (l.map fun p => PV.int p.2) (l.map fun p => V.int p.2)
  | [] => rfl
  | p :: l => ⟨_, _, rfl, rfl, reps_intV' l⟩
section
variable {X : Cx} {W : XD} {pr : Prg} {T : Tbl} {n : Nat} {bs : List Str} {cs : List (Str × Int)} {e : Expr} {es : List Expr} {m : AM} {p pos : Pos} {x : Str}
theorem ev_visit {C fI : Addr} {fd : FuncData} {fps : List Str} {k : Nat} (c : Cok X W pr T n bs cs) (M : Mk X.K C fI) (V0 : VCl X.K C) (F : FnOk X.prog X.w X.K X.mg X.base (L2N.CX X.prog X.w) k fI fd fps (spVis X.K)) (hk : k + 1 ≤ n + 2) (hm : X.mg x = some (.ref C)) (hb : Binds X.K fd fps [])
    (ha : EvA X W (e :: es) m) (hg : Gl X x := by rfl) (hdb : (x == ("__debug__" : Str)) = false := by decide)
    (he : starEach (e :: es) X.env = (false, eval e X.env) :: starEach es X.env := by rfl) (hpl : (backTo pos (starEach es X.env)).any (·.1) = false := by rfl) : Ev X W false (.Call (.Name x p) (e :: es) [] pos) (eApp newV m) := by
  refine PE.anti (pe_make M F (c.room.mono hk) hg hm hb .nil (L2N.passes_call c.tk fun _ _ _ _ h => h) ha hdb he hpl) fun σ H Q ⟨hid, ρ, env, st, R, P⟩ => cA_use R P fun ρ1 st1 H1 args vs l1 R1 ra P1 => ?_
  unfold newV at P1
  split at P1
  · rename_i nm ps rows res q tgt
    split at P1
    · rename_i ws ns ews eq
      split at P1
      · rename_i is eis
        split at P1
        · rename_i hz
          obtain ⟨h1, h2, h3, h4, h5⟩ := hz
          obtain rfl := strs_is ews
          obtain rfl := ints_is eis
          obtain ⟨vf, r1, rfl, rf, v2, r2, rfl, rq, vt, r3, rfl, rt, rfl⟩ := ra
          obtain ⟨fa, vfs, rfl, sf, vn, s1, rfl, rn, vp, s2, rfl, rp, vr, s3, rfl, rr, vres, s4, rfl, rres, rfl⟩ := rf
          obtain ⟨pa, vps, rfl, sp, rps⟩ := rp
          obtain rfl := reps_strV rps
          obtain ⟨ra', vrs, rfl, sr, rrs⟩ := rr
          obtain ⟨b, vns, rfl, hb2, rns⟩ := rep_lst R1.s rq eq
          obtain rfl := reps_intV rns
          intro y dx hy hdx hne
          obtain ⟨H2, hH2⟩ : ∃ H2, H2 = upd (upd H1 dx (.own y)) y (.ins C dx []) := ⟨_, rfl⟩
          have up : ∀ c o, H1 c = some o → H2 c = some o := fun c o e => by
            rw [hH2, upd_ne (ne_of_none e hy), upd_ne (ne_of_none e hdx)]; exact e
          have sT : ∀ {a : Addr} {xs : List V}, SqT X.K H1 a xs → SqT X.K H2 a xs := fun {a} {xs} h => by
            rcases h with (h | ⟨o, h⟩) | h
            · exact .inl (.inl (up _ _ h))
            · exact .inl (.inr ⟨o, up _ _ h⟩)
            · exact .inr h
          rw [← hH2]
          refine ⟨y, C, dx, fa, pa, ra', b, vn, vres, vt, ws, vrs, is, rfl, by rw [hH2]; exact upd_same, V0, sT sf, sT sp, sT sr, SqL.of (up _ _ hb2), h1, by rw [rrs.length]; exact h2, fun H' ca ha kp hca hha hcn eca eha ey => ⟨rfl, ?_⟩⟩
          have back : ∀ {a : Addr}, H2 a = none → H1 a = none := fun {a} h => by
            cases e : H1 a with
            | none => rfl
            | some o => rw [up _ _ e] at h; cases h
          have hca1 := back hca
          have hha1 := back hha
          have k1 : ∀ a o, H1 a = some o → H' a = some o := fun a o e => kp a o (ne_of_none e hy) (up _ _ e)
          have S2 : SRel (gx X W hid) ρ1 st1 H' := R1.s.ext0 k1
          have n1 := R1.s.fresh hca1
          have n2 := R1.s.freshH hca1
          have m1 := R1.s.fresh hha1
          have m2 := R1.s.freshH hha1
          have ca_y : y ≠ ca := fun e => by rw [e, eca] at ey; cases ey
          have ha_y : y ≠ ha := fun e => by rw [e, eha] at ey; cases ey
          have oc : ObjR (gx X W hid) ρ1 H' (dE PV.int (cellsE ws is)) ca := by
            refine ⟨(cellsE ws is).map fun p => V.int p.2, by rw [List.length_map, List.length_map], ?_, reps_intV' _⟩
            rw [eca, cells_K]
            congr 2
            generalize cellsE ws is = l
            induction l with
            | nil => rfl
            | cons p l ih => rw [List.map_cons, List.map_cons, List.map_cons, List.zip_cons_cons, ih]
          have S3 := srel_box S2 (dE_noLoc (fun _ => rfl) (cellsE ws is)) n1 n2 oc
          have oh : ObjR (gx X W hid) (ρ1 ++ [ca]) H' (.lst rows.reverse) ha := ⟨vrs.reverse, eha, reps_rev (reps_pure rfl _ _ h3 (Reps.later (Later.ext0 k1) _ _ rrs))⟩
          have pr2 : pures rows.reverse = true := by
            have pm : ∀ l : List PV, (∀ z ∈ l, pureP z = true) → pures l = true := fun l => by
              induction l with
              | nil => intro _; rfl
              | cons a l ih => intro h; rw [pures, h a List.mem_cons_self, ih fun z hz => h z (List.mem_cons_of_mem _ hz)]; rfl
            exact pm _ fun z hz => pures_mem h3 z (List.mem_reverse.mp hz)
          have S4 := srel_box S3 (show noLoc (.lst rows.reverse) = true from pr2) (fun z => by
            rcases List.mem_append.mp z with z | z
            · exact m1 z
            · exact hcn (List.mem_singleton.mp z).symm) m2 oh
          have ln := R1.s.len
          have l2 : Later ρ1 H1 (ρ1 ++ [ca] ++ [ha]) H' := ⟨⟨[ca, ha], by rw [List.append_assoc]; rfl, fun z hz => by
            rcases List.mem_cons.mp hz with rfl | hz
            · exact hca1
            · rw [List.mem_singleton.mp hz]; exact hha1⟩, fun a o e _ => k1 a o e, fun a o e => ⟨o, k1 a o e⟩, fun a u e => k1 a _ e, fun a o u e => k1 a _ e⟩
          refine P1 _ H' l2 S4 (.ref y) ⟨y, C, dx, [.ref ca, .ref ha, vres, vt], rfl, fun z => ?_, R1.s.freshH hy, V0, rfl, ey, ?_⟩ fun z => nomatch z
          · rcases List.mem_append.mp z with z | z
            · rcases List.mem_append.mp z with z | z
              · exact R1.s.fresh hy z
              · exact ca_y (List.mem_singleton.mp z)
            · exact ha_y (List.mem_singleton.mp z)
          · refine ⟨_, _, rfl, ⟨ca, rfl, ?_⟩, _, _, rfl, ⟨ha, rfl, ?_⟩, _, _, rfl, rep_pure rfl _ _ h4 (Rep.later (Later.ext0 k1) _ _ rres), _, _, rfl, rep_pure rfl _ _ h5 (Rep.later (Later.ext0 k1) _ _ rt), rfl⟩
            · rw [← ln, List.getElem?_append_left (by simp), List.getElem?_append_right (Nat.le_refl _), Nat.sub_self]; rfl
            · rw [← ln, List.getElem?_append_right (by simp)]
              simp
        · exact False.elim P1
      · exact False.elim P1
    · exact False.elim P1
  · exact False.elim P1
end
end Vm
namespace Lk
open PySem PySem.Spec PyProof.Rows L2 Vm
def topS (i : Nat) : Stmt := PySem.Challenge.pw_safeturn_k06_run.main.body.getD i (.Pass ⟨0, 0, 0, 0⟩)
def nm : Nat → Str
  | 0 => "worth"
  | 1 => "run"
  | 2 => "_end"
  | 3 => "_go_through"
  | 4 => "_law_cell"
  | 5 => "_law_mixed"
  | 6 => "_law_words"
  | 7 => "_law_term"
  | 8 => "_law_given"
  | 9 => "_law_call"
  | 10 => "_law_row"
  | 11 => "_law_rows"
  | 12 => "_law_work"
  | 13 => "_law_bounded"
  | 14 => "_law_looped"
  | 15 => "_law_function"
  | 16 => "_law_variables"
  | 17 => "_law_program"
  | 18 => "_law_worth"
  | 19 => "_law_gone"
  | 20 => "_law_called"
  | 21 => "_law_run"
  | 22 => "_law_inputs"
  | 23 => "_law_numbers"
  | 24 => "law"
  | _ => "?"
def frs : Nat → Bool
  | 1 => true
  | _ => false
def dfs : Nat → List Int

  | _ => []
abbrev pr : Prg := ⟨nm, frs, 25, [], dfs⟩
abbrev i_worth : Nat := 0
abbrev i_run : Nat := 1
abbrev i__end : Nat := 2
abbrev i__go_through : Nat := 3
abbrev i__law_cell : Nat := 4
abbrev i__law_mixed : Nat := 5
abbrev i__law_words : Nat := 6
abbrev i__law_term : Nat := 7
abbrev i__law_given : Nat := 8
abbrev i__law_call : Nat := 9
abbrev i__law_row : Nat := 10
abbrev i__law_rows : Nat := 11
abbrev i__law_work : Nat := 12
abbrev i__law_bounded : Nat := 13
abbrev i__law_looped : Nat := 14
abbrev i__law_function : Nat := 15
abbrev i__law_variables : Nat := 16
abbrev i__law_program : Nat := 17
abbrev i__law_worth : Nat := 18
abbrev i__law_gone : Nat := 19
abbrev i__law_called : Nat := 20
abbrev i__law_run : Nat := 21
abbrev i__law_inputs : Nat := 22
abbrev i__law_numbers : Nat := 23
abbrev bs : List Str := ["bool", "int", "isinstance", "len", "list", "max", "range", "tuple", "zip"]
abbrev cs : List (Str × Int) := [("RESTS_OF", 1000003)]
def s_vinit : Stmt := match topS 4 with
  | .ClassDef _ _ _ b _ _ _ _ _ _ _ => b.getD 0 (.Pass ⟨0, 0, 0, 0⟩)
  | s => s
abbrev N_vinit : List Str := ["self", "function", "numbers", "target", "parameters", "rows", "result", "name", "number"]
theorem sc_vinit : FnScope N_vinit ["self", "function", "numbers", "target"] (defScope s_vinit) := ⟨rfl, rfl, rfl, by decide +kernel, rfl, by decide +kernel, by decide +kernel⟩
theorem ok_vinit {P : Program} {w : World} {K : PySem.W.Frag} {mg : Str → Option Value} {base : Heap} {f : Addr} {fd : FuncData} {u : Value} (F : Fun K "__init__" "Visit.__init__" s_vinit f fd) (gz : mg "zip" = none) (gl : mg "list" = none) (gR : mg "RESTS_OF" = some u) (rR : RelV (.int 1000003) u) : FnOk P w K mg base (L2N.CX P w) 1 f fd ["self", "function", "numbers", "target"] (spVis K) :=
  okN F sc_vinit (fun vs H Q E h => by obtain ⟨x, C, dx, fa, pa, ra, b, nm, rv, tv, ps, rows, ns, e, _⟩ := h; rw [e]; rfl) fun cdv A outer s H vs Q E hr h => by
    have nd := sc_vinit.nd
    refine ⟨_, pss_cons (ps_asg (pe_slice sl_3 (pe_var (i := 1) rfl (Or.inl rfl)) (po_some pe_int) po_none) (pg_tup rfl (pgs_cons (pg_name (i := 4) nd rfl (Or.inl rfl)) (pgs_cons (pg_name (i := 5) nd rfl (Or.inl rfl)) (pgs_cons (pg_name (i := 6) nd rfl (Or.inl rfl)) pgs_nil)))))
      (pss_cons (ps_fld (pe_var (i := 0) rfl (Or.inl rfl)) (pe_dc (g := gTup K 2 (gCons (gName 7) (gCons (gName 8) gNil))) (tt := tYes) (tk := tVar 7) (tv := tOp (rI (fun _ j => 0 < j) fun i j => .int (i % j)) (tVar 8) (tC (.int 1000003))) (own := [("name", 7), ("number", 8)]) rfl nd (pi_zipM rfl gz (pa_cons (pe_var (i := 4) rfl (Or.inl rfl)) (pa_cons (pe_var (i := 2) rfl (Or.inl rfl)) pa_nil))) (blkOk_by (own := [("name", 7), ("number", 8)]) (N := N_vinit) (sc := defScope s_vinit) (by decide +kernel))
          (fun _ _ _ _ _ => by exact pg_tup rfl (pgs_cons (pg_name (i := 7) nd rfl (by first | exact Or.inl rfl | exact Or.inr rfl)) (pgs_cons (pg_name (i := 8) nd rfl (by first | exact Or.inl rfl | exact Or.inr rfl)) pgs_nil)))
          (fun _ _ _ _ _ => pts_nil)
          (fun _ _ _ _ _ => by exact pe_var (i := 7) rfl (by first | exact Or.inl rfl | exact Or.inr rfl))
          (fun _ _ _ _ _ => by exact pe_op op_mod (pe_var (i := 8) rfl (by first | exact Or.inl rfl | exact Or.inr rfl)) (pe_glob (v := .int 1000003) rfl gR rR))) rfl)
      (pss_cons (ps_fld (pe_var (i := 0) rfl (Or.inl rfl)) (pe_callTy call_list_of rfl gl boot_list (pa_cons (pe_revT (pe_var (i := 5) rfl (Or.inl rfl))) pa_nil)) rfl)
      (pss_cons (ps_fld (pe_var (i := 0) rfl (Or.inl rfl)) (pe_var (i := 6) rfl (Or.inl rfl)) rfl)
      (pss_cons (ps_fld (pe_var (i := 0) rfl (Or.inl rfl)) (pe_var (i := 3) rfl (Or.inl rfl)) rfl) pss_nil)))), ?_⟩
    obtain ⟨x, C, dx, fa, pa, ra, b, nm, rv, tv, ps, rows, ns, rfl, hx, V0, sf, sp, sr, sb, hl1, hl2, hq⟩ := h
    have keepT : ∀ {G G' : Hp} {a : Addr} {xs : List V}, (∀ c o, c ≠ x → G c = some o → G' c = some o) → G x = some (.ins C dx []) → SqT K G a xs → SqT K G' a xs := fun {G G' a xs} k gx h => by
      have n : ∀ {o}, G a = some o → (∀ C' dx' fs, o ≠ .ins C' dx' fs) → a ≠ x := fun {o} e ne z => by rw [z, gx] at e; exact ne _ _ _ (Option.some.inj e).symm
      rcases h with (h | ⟨o, h⟩) | h
      · exact .inl (.inl (k _ _ (n h fun _ _ _ z => nomatch z) h))
      · exact .inl (.inr ⟨o, k _ _ (n h fun _ _ _ z => nomatch z) h⟩)
      · exact .inr h
    have hc3 : ∀ a c d e : V, cutV [a, c, d, e] (some 1) none = [c, d, e] := fun _ _ _ _ => rfl
    refine ⟨.ref fa, rfl, 1, rfl, .inr (.inl ⟨fa, _, rfl, sf, fun z => absurd z.1 (by show ¬ HT.sIx 4 0 (some 1) = 0; decide), fun _ p1 hp1 => ?_⟩)⟩
    obtain ⟨H1, hH1⟩ : ∃ H1, H1 = upd H p1 (.tup (cutV [nm, .ref pa, .ref ra, rv] (some 1) none)) := ⟨_, rfl⟩
    have k1 : ∀ c o, H c = some o → H1 c = some o := fun c o e => by rw [hH1, upd_ne (ne_of_none e hp1)]; exact e
    rw [← hH1]
    have sp1 : SqT K H1 pa (ps.map V.str) := keepT (fun c o _ e => k1 c o e) hx sp
    have sr1 : SqT K H1 ra rows := keepT (fun c o _ e => k1 c o e) hx sr
    have sb1 : SqL K H1 b (ns.map V.int) := by
      rcases sb with (h | ⟨o, h⟩) | h
      · exact .inl (.inl (k1 _ _ h))
      · exact .inl (.inr ⟨o, k1 _ _ h⟩)
      · exact .inr h
    refine ⟨p1, [.ref pa, .ref ra, rv], rfl, by rw [hH1]; exact .inl (.inl upd_same), rfl, .ref pa, _, rfl, .ref ra, _, rfl, rv, _, rfl, rfl, ?_⟩
    refine ⟨.ref pa, rfl, .ref b, rfl, pa, b, _, _, rfl, sp1, sb1, fun D hD => dcz sp1 sb1 hD hl1 (fun H2 k2 eD => ?_) fun T H' p n kvs R hT hD' hlt hR => ?_⟩
    · have hx2 : H2 x = some (.ins C dx []) := k2 _ _ (k1 _ _ hx)
      have kk2 : ∀ c o, H c = some o → H2 c = some o := fun c o e => k2 _ _ (k1 _ _ e)
      have Dx : D ≠ x := fun e => by rw [e, hx2] at eD; cases eD
      have sr2 : SqT K H2 ra rows := keepT (fun c o _ e => k2 c o e) (k1 _ _ hx) sr1
      have nn : ∀ f ∈ vNms, NoAttr K C f := V0.n
      refine ⟨.ref x, rfl, x, C, dx, [], rfl, hx2, V0.c, nn _ (by decide), by decide, ?_⟩
      have sr3 : SqT K (upd H2 x (.ins C dx (putF "cells" (.ref D) []))) ra rows := keepT (fun c o n e => by rw [upd_ne n]; exact e) hx2 sr2
      refine ⟨.ref ra, rfl, ra, rows, rfl, sr3, fun p2 hp2 => ⟨p2, rows.reverse, rfl, .inr (.inl (.inl upd_same)), fun l hl => ?_⟩⟩
      have p2x : p2 ≠ x := fun e => by rw [e, upd_same] at hp2; cases hp2
      have lp2 : l ≠ p2 := fun e => by rw [e, upd_same] at hl; cases hl
      have lx : l ≠ x := fun e => by rw [e, upd_ne p2x.symm, upd_same] at hl; cases hl
      have lD : D ≠ l := fun e => by
        have hDp : D ≠ p2 := fun z => by rw [← z, upd_ne Dx] at hp2; rw [eD] at hp2; cases hp2
        rw [← e, upd_ne hDp, upd_ne Dx, eD] at hl; cases hl
      have hDp : D ≠ p2 := fun z => by rw [← z, upd_ne Dx] at hp2; rw [eD] at hp2; cases hp2
      have hl0 : H l = none := by
        cases e : H l with
        | none => rfl
        | some o => rw [upd_ne lp2, upd_ne lx, kk2 _ _ e] at hl; cases hl
      have hD0 : H D = none := by
        cases e : H D with
        | none => rfl
        | some o => rw [k1 _ _ e] at hD; cases hD
      refine ⟨.ref x, rfl, x, C, dx, _, rfl, by rw [upd_ne lx.symm, upd_ne p2x.symm, upd_same], V0.c, nn _ (by decide), by show 1 < 1000; decide, ?_⟩
      refine ⟨rv, rfl, .ref x, rfl, x, C, dx, _, rfl, upd_same, V0.c, nn _ (by decide), by show 2 < 1000; decide, ?_⟩
      refine ⟨tv, rfl, .ref x, rfl, x, C, dx, _, rfl, upd_same, V0.c, nn _ (by decide), by show 3 < 1000; decide, ?_⟩
      refine hq _ D l (fun c o n e => ?_) hD0 hl0 lD ?_ ?_ upd_same
      · have cl : c ≠ l := fun z => by rw [z, hl0] at e; cases e
        have cp : c ≠ p2 := fun z => by rw [← z, upd_ne n] at hp2; rw [kk2 _ _ e] at hp2; cases hp2
        rw [upd_ne n, upd_ne n, upd_ne n, upd_ne cl, upd_ne cp, upd_ne n]; exact kk2 _ _ e
      · rw [upd_ne Dx, upd_ne Dx, upd_ne Dx, upd_ne lD, upd_ne hDp, upd_ne Dx]; exact eD
      · rw [upd_ne lx, upd_ne lx, upd_ne lx, upd_same]
    · refine ⟨T, [.str p, .int n], rfl, .inl (.inl hT), rfl, .str p, _, rfl, .int n, _, rfl, rfl, rfl, ?_⟩
      unfold tYes
      simp only [↓reduceIte]
      exact ⟨.str p, rfl, .int n, rfl, n, 1000003, rfl, rfl, (by decide : (0 : Int) < 1000003), kvs, .inr p, rfl, hD', hlt, hR⟩
structure VsF (P : Program) (w : World) (K : PySem.W.Frag) (mg : Str → Option Value) (base : Heap) : Prop where
  ex : ∃ (C fI : Addr) (fd : FuncData), Mk K C fI ∧ VCl K C ∧ FnOk P w K mg base (L2N.CX P w) 1 fI fd ["self", "function", "numbers", "target"] (spVis K) ∧ mg "Visit" = some (.ref C) ∧ Binds K fd ["self", "function", "numbers", "target"] []
abbrev s_worth : Stmt := topS 2
abbrev N_worth : List Str := ["term", "cells", "kind", "one", "other"]
def b_worth (T : Tbl) : SM :=
      (sCons (sSet 2 (eBin vIx (eVar 0) (eC (.int 0))))
      (sCons (sIf (eBin (vEqF false) (eVar 2) (eC (.str "num")))
      (sCons (sRet (eBin vMod (eBin vIx (eVar 0) (eC (.int 1))) (eC (.int 1000003))))
      sNil)
      sNil)
      (sCons (sIf (eBin (vEqF false) (eVar 2) (eC (.str "name")))
      (sCons (sRet (eBin vMod (eGet (eVar 1) (eBin vIx (eVar 0) (eC (.int 1))) (eC (.int 0))) (eC (.int 1000003))))
      sNil)
      sNil)
      (sCons (sSet 3 (eApp (T i_worth) (aCons (eBin vIx (eVar 0) (eC (.int 1))) (aCons (eVar 1) aNil))))
      (sCons (sSet 4 (eApp (T i_worth) (aCons (eBin vIx (eVar 0) (eC (.int 2))) (aCons (eVar 1) aNil))))
      (sCons (sIf (eBin (vEqF false) (eVar 2) (eC (.str "sum")))
      (sCons (sRet (eBin vMod (eBin vAdd (eVar 3) (eVar 4)) (eC (.int 1000003))))
      sNil)
      sNil)
      (sCons (sIf (eBin (vEqF false) (eVar 2) (eC (.str "less")))
      (sCons (sRet (eBin vMod (eBin vSub (eVar 3) (eVar 4)) (eC (.int 1000003))))
      sNil)
      sNil)
      (sCons (sRet (eBin vMod (eBin vMul (eVar 3) (eVar 4)) (eC (.int 1000003))))
      sNil))))))))
def q_worth_0 (T : Tbl) : SM :=
      (sSet 2 (eBin vIx (eVar 0) (eC (.int 0))))
def q_worth_1 (T : Tbl) : SM :=
      (sIf (eBin (vEqF false) (eVar 2) (eC (.str "num")))
      (sCons (sRet (eBin vMod (eBin vIx (eVar 0) (eC (.int 1))) (eC (.int 1000003))))
      sNil)
      sNil)
def q_worth_2 (T : Tbl) : SM :=
      (sIf (eBin (vEqF false) (eVar 2) (eC (.str "name")))
      (sCons (sRet (eBin vMod (eGet (eVar 1) (eBin vIx (eVar 0) (eC (.int 1))) (eC (.int 0))) (eC (.int 1000003))))
      sNil)
      sNil)
def q_worth_3 (T : Tbl) : SM :=
      (sSet 3 (eApp (T i_worth) (aCons (eBin vIx (eVar 0) (eC (.int 1))) (aCons (eVar 1) aNil))))
def q_worth_4 (T : Tbl) : SM :=
      (sSet 4 (eApp (T i_worth) (aCons (eBin vIx (eVar 0) (eC (.int 2))) (aCons (eVar 1) aNil))))
def q_worth_5 (T : Tbl) : SM :=
      (sIf (eBin (vEqF false) (eVar 2) (eC (.str "sum")))
      (sCons (sRet (eBin vMod (eBin vAdd (eVar 3) (eVar 4)) (eC (.int 1000003))))
      sNil)
      sNil)
def q_worth_6 (T : Tbl) : SM :=
      (sIf (eBin (vEqF false) (eVar 2) (eC (.str "less")))
      (sCons (sRet (eBin vMod (eBin vSub (eVar 3) (eVar 4)) (eC (.int 1000003))))
      sNil)
      sNil)
def q_worth_7 (T : Tbl) : SM :=
      (sRet (eBin vMod (eBin vMul (eVar 3) (eVar 4)) (eC (.int 1000003))))
theorem b_worth_q (T : Tbl) : b_worth T = (sCons (q_worth_0 T) (sCons (q_worth_1 T) (sCons (q_worth_2 T) (sCons (q_worth_3 T) (sCons (q_worth_4 T) (sCons (q_worth_5 T) (sCons (q_worth_6 T) (sCons (q_worth_7 T) sNil)))))))) := rfl
abbrev d_worth : FnD := ⟨2, 5, false, b_worth⟩
theorem sc_worth : FnScope N_worth ["term", "cells"] (defScope s_worth) := ⟨rfl, rfl, rfl, by decide +kernel, rfl, by decide +kernel, by decide +kernel⟩
theorem ok_worth {P : Program} {w : World} {K : PySem.W.Frag} {mg : Str → Option Value} {base : Heap} {f : Addr} {fd : FuncData} {n : Nat} {T : Tbl} {C : Nat → Addr} (F : Fun K "worth" "worth" s_worth f fd) (hB : ∀ x ∈ bs, mg x = none) (hC : ∀ p ∈ cs, ∃ u, mg p.1 = some u ∧ RelV (.int p.2) u)
    (hX : ∀ p ∈ pr.xs, ExF K mg p.1 (C p.2)) (hF : FnAt P w K mg base C pr T n) : FnOk P w K mg base (L2N.CX P w) (n + 3) f fd ["term", "cells"] (spI P w K C (pr.fr 0) (callI d_worth T)) :=
  fn_ok F sc_worth rfl rfl fun cdv A outer s H E hr => by
    have c : Cok (cxOf (L2N.CX P w) P w K mg base N_worth "worth" (defScope s_worth) f cdv A outer s H E) ⟨C, E⟩ pr T n bs cs := ⟨rfl, sc_worth.nd, hr, hF, hB, hC, L2N.takes_of rfl rfl rfl rfl, L2.passes_of rfl, hX⟩
    show EvSs _ _ _ _ (b_worth T)
    unfold b_worth
    exact (evss_cons (evs_set c.nd (ev_ix (ix_4 c.u) os_ix (ev_var 0) ev_int))
      (evss_cons (evs_if (evt_cmp (op_eq3 c.u) (OpSem.weak os_eq) (ev_var 2) ev_str)
      (evss_cons (evs_ret (Ev.weak (ev_op op_mod os_mod (ev_ix (ix_4 c.u) os_ix (ev_var 0) ev_int) (ev_const c (List.mem_of_getElem? (i := 0) rfl)))))
      evss_nil)
      evss_nil)
      (evss_cons (evs_if (evt_cmp (op_eq3 c.u) (OpSem.weak os_eq) (ev_var 2) ev_str)
      (evss_cons (evs_ret (Ev.weak (ev_op op_mod os_mod (ev_get c.u (ev_var 1) (ev_ix (ix_4 c.u) os_ix (ev_var 0) ev_int) ev_int) (ev_const c (List.mem_of_getElem? (i := 0) rfl)))))
      evss_nil)
      evss_nil)
      (evss_cons (evs_set c.nd (ev_call c i_worth (eva_cons (ev_ix (ix_4 c.u) os_ix (ev_var 0) ev_int) (eva_cons (ev_var 1) eva_nil))))
      (evss_cons (evs_set c.nd (ev_call c i_worth (eva_cons (ev_ix (ix_4 c.u) os_ix (ev_var 0) ev_int) (eva_cons (ev_var 1) eva_nil))))
      (evss_cons (evs_if (evt_cmp (op_eq3 c.u) (OpSem.weak os_eq) (ev_var 2) ev_str)
      (evss_cons (evs_ret (Ev.weak (ev_op op_mod os_mod (ev_op op_add4 os_add (ev_var 3) (ev_var 4)) (ev_const c (List.mem_of_getElem? (i := 0) rfl)))))
      evss_nil)
      evss_nil)
      (evss_cons (evs_if (evt_cmp (op_eq3 c.u) (OpSem.weak os_eq) (ev_var 2) ev_str)
      (evss_cons (evs_ret (Ev.weak (ev_op op_mod os_mod (ev_op op_sub os_sub (ev_var 3) (ev_var 4)) (ev_const c (List.mem_of_getElem? (i := 0) rfl)))))
      evss_nil)
      evss_nil)
      (evss_cons (evs_ret (Ev.weak (ev_op op_mod os_mod (ev_op op_mul2 os_mul (ev_var 3) (ev_var 4)) (ev_const c (List.mem_of_getElem? (i := 0) rfl)))))
      evss_nil))))))))
abbrev s_run : Stmt := topS 5
abbrev N_run : List Str := ["program", "inputs", "functions", "told", "visits", "visit", "row", "function", "numbers", "term"]
def fb_run_0 (T : Tbl) : SM :=
      (sCons (sSet 5 (eBin vIx (eVar 4) (eUn vNeg (eC (.int 1)))))
      (sCons (sIf (eNot (eTruB (eFld 1 (eVar 5))))
      (sCons (sExpr (ePop (eVar 4)))
      (sCons (sExpr (eApp (T i__end) (aCons (eVar 5) (aCons (eVar 4) (aCons (eVar 3) aNil)))))
      (sCons sCont
      sNil)))
      sNil)
      (sCons (sSet 6 (ePop (eFld 1 (eVar 5))))
      (sCons (sIf (eBin (vEqF false) (eBin vIx (eVar 6) (eC (.int 0))) (eC (.str "call")))
      (sCons (sSet 8 (eComp (iSeq (eBin vIx (eVar 6) (eC (.int 3)))) (gName 9) tTrue (eApp (T i_worth) (aCons (eVar 9) (aCons (eFld 0 (eVar 5)) aNil))) [9]))
      (sCons (sAppV (eVar 4) (eApp newV (aCons (eBin vIx (eVar 2) (eBin vIx (eVar 6) (eC (.int 2)))) (aCons (eVar 8) (aCons (eBin vIx (eVar 6) (eC (.int 1))) aNil)))))
      sNil))
      (sCons (sExpr (eApp (T i__go_through) (aCons (eVar 6) (aCons (eVar 5) (aCons (eVar 3) aNil)))))
      sNil))
      sNil))))
def b_run (T : Tbl) : SM :=
      (sCons (sSet 2 (eDct (iSeq (eVar 0)) (gName 7) tTrue (eBin vIx (eVar 7) (eC (.int 0))) (eVar 7) [7]))
      (sCons (sSet 3 (eBox (eLst aNil)))
      (sCons (sSetV 4 (aCons (eApp newV (aCons (eBin vIx (eVar 0) (eUn vNeg (eC (.int 1)))) (aCons (eVar 1) (aCons (eC .non) aNil)))) aNil))
      (sCons (sWhile (eTruB (eVar 4)) (fb_run_0 T))
      (sCons (sRetB (eVar 3))
      sNil)))))
def q_run_0 (T : Tbl) : SM :=
      (sSet 2 (eDct (iSeq (eVar 0)) (gName 7) tTrue (eBin vIx (eVar 7) (eC (.int 0))) (eVar 7) [7]))
def q_run_1 (T : Tbl) : SM :=
      (sSet 3 (eBox (eLst aNil)))
def q_run_2 (T : Tbl) : SM :=
      (sSetV 4 (aCons (eApp newV (aCons (eBin vIx (eVar 0) (eUn vNeg (eC (.int 1)))) (aCons (eVar 1) (aCons (eC .non) aNil)))) aNil))
def q_run_3 (T : Tbl) : SM :=
      (sWhile (eTruB (eVar 4)) (fb_run_0 T))
def q_run_4 (T : Tbl) : SM :=
      (sRetB (eVar 3))
theorem b_run_q (T : Tbl) : b_run T = (sCons (q_run_0 T) (sCons (q_run_1 T) (sCons (q_run_2 T) (sCons (q_run_3 T) (sCons (q_run_4 T) sNil))))) := rfl
abbrev d_run : FnD := ⟨2, 10, true, fun T => gateF (b_run T)⟩
theorem sc_run : FnScope N_run ["program", "inputs"] (defScope s_run) := ⟨rfl, rfl, rfl, by decide +kernel, rfl, by decide +kernel, by decide +kernel⟩
theorem ok_run {P : Program} {w : World} {K : PySem.W.Frag} {mg : Str → Option Value} {base : Heap} {f : Addr} {fd : FuncData} {n : Nat} {T : Tbl} {C : Nat → Addr} (F : Fun K "run" "run" s_run f fd) (hB : ∀ x ∈ bs, mg x = none) (hC : ∀ p ∈ cs, ∃ u, mg p.1 = some u ∧ RelV (.int p.2) u)
    (hX : ∀ p ∈ pr.xs, ExF K mg p.1 (C p.2)) (hF : FnAt P w K mg base C pr T n) (hV : VsF P w K mg base) : FnOk P w K mg base (L2N.CX P w) (n + 3) f fd ["program", "inputs"] (spI P w K C (pr.fr 1) (callI d_run T)) :=
  fn_okV (b := b_run) F sc_run rfl rfl fun cdv A outer s H E hr => by
    have c : Cok (cxOf (L2N.CX P w) P w K mg base N_run "run" (defScope s_run) f cdv A outer s H E) ⟨C, E⟩ pr T n bs cs := ⟨rfl, sc_run.nd, hr, hF, hB, hC, L2N.takes_of rfl rfl rfl rfl, L2.passes_of rfl, hX⟩
    show EvVs _ _ _ _ (b_run T)
    obtain ⟨VC, fI, fdI, hM, hV0, hF1, hg1, hb1⟩ := hV.ex
    unfold b_run fb_run_0
    exact (evvs_cons (evv_of (evs_setDcC (f := true) [("function", 7)] c (evi_seq (ev_var 0)) (blkOk_by (own := [("function", 7)]) (N := N_run) (sc := defScope s_run) (by decide +kernel)) (fun _ _ _ _ _ c => (evg_name c.nd)) (fun _ _ _ _ _ c => evts_nil) (fun _ _ _ _ _ c => (ev_ix (ix_4 c.u) os_ix (ev_var 7) ev_int)) (fun _ _ _ _ _ c => (ev_var 7))))
      (evvs_cons (evv_of (evs_set c.nd (ev_box (ev_lst eva_nil))))
      (evvs_cons (evv_setL (i := 4) c.nd (eva_cons (ev_visit c hM hV0 hF1 (by omega) hg1 hb1 (eva_cons (ev_ix (ix_4 c.u) os_ix (ev_var 0) (ev_un un_neg us_neg ev_int)) (eva_cons (ev_var 1) (eva_cons ev_non eva_nil)))) eva_nil))
      (evvs_cons (evv_while c.po (evt_truB (ev_var 4))
      (evvs_cons (evv_of (evs_set c.nd (ev_ix (ix_4 c.u) os_ix (ev_var 4) (ev_un un_neg us_neg ev_int))))
      (evvs_cons (evv_if (evt_not (evt_truB (ev_fld 1 (ev_var 5))))
      (evvs_cons (evv_of (evs_expr (ev_pop (ev_var 4))))
      (evvs_cons (evv_of (evs_expr (ev_call c i__end (eva_cons (ev_var 5) (eva_cons (ev_var 4) (eva_cons (ev_var 3) eva_nil))))))
      (evvs_cons (evv_of evs_cont)
      evvs_nil)))
      evvs_nil)
      (evvs_cons (evv_of (evs_set c.nd (ev_pop (ev_fld 1 (ev_var 5)))))
      (evvs_cons (evv_if (evt_cmp (op_eq3 c.u) (OpSem.weak os_eq) (ev_ix (ix_4 c.u) os_ix (ev_var 6) ev_int) ev_str)
      (evvs_cons (evv_of (evs_setLcC [("term", 9)] c lc_plain (evi_seq (ev_ix (ix_4 c.u) os_ix (ev_var 6) ev_int)) (blkOk_by (own := [("term", 9)]) (N := N_run) (sc := defScope s_run) (by decide +kernel)) (fun _ _ _ _ _ c => (evg_name c.nd)) (fun _ _ _ _ _ c => evts_nil) (fun _ _ _ _ _ c => (ev_call c i_worth (eva_cons (ev_var 9) (eva_cons (ev_fld 0 (ev_var 5)) eva_nil))))))
      (evvs_cons (evv_app (ev_var 4) (ev_visit c hM hV0 hF1 (by omega) hg1 hb1 (eva_cons (ev_ix (ix_4 c.u) os_ix (ev_var 2) (ev_ix (ix_4 c.u) os_ix (ev_var 6) ev_int)) (eva_cons (ev_var 8) (eva_cons (ev_ix (ix_4 c.u) os_ix (ev_var 6) ev_int) eva_nil)))))
      evvs_nil))
      (evvs_cons (evv_of (evs_expr (ev_call c i__go_through (eva_cons (ev_var 6) (eva_cons (ev_var 5) (eva_cons (ev_var 3) eva_nil))))))
      evvs_nil))
      evvs_nil)))))
      (evvs_cons (evv_of (evs_retB (ev_var 3)))
      evvs_nil)))))
abbrev s__end : Stmt := topS 6
abbrev N__end : List Str := ["visit", "around", "told", "number", "caller"]
def b__end (T : Tbl) : SM :=
      (sCons (sSet 3 (eApp (T i_worth) (aCons (eFld 2 (eVar 0)) (aCons (eFld 0 (eVar 0)) aNil))))
      (sCons (sIf (eNot (eTruB (eVar 1)))
      (sCons (sApp (eVar 2) (eVar 3))
      sNil)
      (sCons (sIf (eBin (vIsN true) (eFld 3 (eVar 0)) (eC .non))
      (sCons (sSet 4 (eBin vIx (eVar 1) (eUn vNeg (eC (.int 1)))))
      (sCons (sPut (eFld 0 (eVar 4)) (eFld 3 (eVar 0)) (eVar 3))
      sNil))
      sNil)
      sNil))
      sNil))
def q__end_0 (T : Tbl) : SM :=
      (sSet 3 (eApp (T i_worth) (aCons (eFld 2 (eVar 0)) (aCons (eFld 0 (eVar 0)) aNil))))
def q__end_1 (T : Tbl) : SM :=
      (sIf (eNot (eTruB (eVar 1)))
      (sCons (sApp (eVar 2) (eVar 3))
      sNil)
      (sCons (sIf (eBin (vIsN true) (eFld 3 (eVar 0)) (eC .non))
      (sCons (sSet 4 (eBin vIx (eVar 1) (eUn vNeg (eC (.int 1)))))
      (sCons (sPut (eFld 0 (eVar 4)) (eFld 3 (eVar 0)) (eVar 3))
      sNil))
      sNil)
      sNil))
theorem b__end_q (T : Tbl) : b__end T = (sCons (q__end_0 T) (sCons (q__end_1 T) sNil)) := rfl
abbrev d__end : FnD := ⟨3, 5, false, b__end⟩
theorem sc__end : FnScope N__end ["visit", "around", "told"] (defScope s__end) := ⟨rfl, rfl, rfl, by decide +kernel, rfl, by decide +kernel, by decide +kernel⟩
theorem ok__end {P : Program} {w : World} {K : PySem.W.Frag} {mg : Str → Option Value} {base : Heap} {f : Addr} {fd : FuncData} {n : Nat} {T : Tbl} {C : Nat → Addr} (F : Fun K "_end" "_end" s__end f fd) (hB : ∀ x ∈ bs, mg x = none) (hC : ∀ p ∈ cs, ∃ u, mg p.1 = some u ∧ RelV (.int p.2) u)
    (hX : ∀ p ∈ pr.xs, ExF K mg p.1 (C p.2)) (hF : FnAt P w K mg base C pr T n) : FnOk P w K mg base (L2N.CX P w) (n + 3) f fd ["visit", "around", "told"] (spI P w K C (pr.fr 2) (callI d__end T)) :=
  fn_ok F sc__end rfl rfl fun cdv A outer s H E hr => by
    have c : Cok (cxOf (L2N.CX P w) P w K mg base N__end "_end" (defScope s__end) f cdv A outer s H E) ⟨C, E⟩ pr T n bs cs := ⟨rfl, sc__end.nd, hr, hF, hB, hC, L2N.takes_of rfl rfl rfl rfl, L2.passes_of rfl, hX⟩
    show EvSs _ _ _ _ (b__end T)
    unfold b__end
    exact (evss_cons (evs_set c.nd (ev_call c i_worth (eva_cons (ev_fld 2 (ev_var 0)) (eva_cons (ev_fld 0 (ev_var 0)) eva_nil))))
      (evss_cons (evs_if (evt_not (evt_truB (ev_var 1)))
      (evss_cons (evs_app (ev_var 2) (ev_var 3))
      evss_nil)
      (evss_cons (evs_if (evt_cmp op_notN (OpSem.weak os_notN) (ev_fld 3 (ev_var 0)) ev_non)
      (evss_cons (evs_set c.nd (ev_ix (ix_4 c.u) os_ix (ev_var 1) (ev_un un_neg us_neg ev_int)))
      (evss_cons (evs_put c.u (ev_fld 0 (ev_var 4)) (ev_fld 3 (ev_var 0)) (ev_var 3))
      evss_nil))
      evss_nil)
      evss_nil))
      evss_nil))
abbrev s__go_through : Stmt := topS 7
abbrev N__go_through : List Str := ["row", "visit", "told", "kind"]
def b__go_through (T : Tbl) : SM :=
      (sCons (sSet 3 (eBin vIx (eVar 0) (eC (.int 0))))
      (sCons (sIf (eBin (vEqF false) (eVar 3) (eC (.str "set")))
      (sCons (sPut (eFld 0 (eVar 1)) (eBin vIx (eVar 0) (eC (.int 1))) (eApp (T i_worth) (aCons (eBin vIx (eVar 0) (eC (.int 2))) (aCons (eFld 0 (eVar 1)) aNil))))
      sNil)
      (sCons (sIf (eBin (vEqF false) (eVar 3) (eC (.str "tell")))
      (sCons (sApp (eVar 2) (eApp (T i_worth) (aCons (eBin vIx (eVar 0) (eC (.int 1))) (aCons (eFld 0 (eVar 1)) aNil))))
      sNil)
      (sCons (sIf (eBin (vEqF false) (eVar 3) (eC (.str "when")))
      (sCons (sIf (eBin (vEqF true) (eApp (T i_worth) (aCons (eBin vIx (eVar 0) (eC (.int 1))) (aCons (eFld 0 (eVar 1)) aNil))) (eC (.int 0)))
      (sCons (sExtT (eFld 1 (eVar 1)) (eRevT (eBin vIx (eVar 0) (eC (.int 2)))))
      sNil)
      sNil)
      sNil)
      (sCons (sIf (eBin vGt (eBin vIx (eVar 0) (eC (.int 1))) (eC (.int 0)))
      (sCons (sApp (eFld 1 (eVar 1)) (eTup (aCons (eC (.str "again")) (aCons (eBin vSub (eBin vIx (eVar 0) (eC (.int 1))) (eC (.int 1))) (aCons (eBin vIx (eVar 0) (eC (.int 2))) aNil)))))
      (sCons (sExtT (eFld 1 (eVar 1)) (eRevT (eBin vIx (eVar 0) (eC (.int 2)))))
      sNil))
      sNil)
      sNil))
      sNil))
      sNil))
      sNil))
def q__go_through_0 (T : Tbl) : SM :=
      (sSet 3 (eBin vIx (eVar 0) (eC (.int 0))))
def q__go_through_1 (T : Tbl) : SM :=
      (sIf (eBin (vEqF false) (eVar 3) (eC (.str "set")))
      (sCons (sPut (eFld 0 (eVar 1)) (eBin vIx (eVar 0) (eC (.int 1))) (eApp (T i_worth) (aCons (eBin vIx (eVar 0) (eC (.int 2))) (aCons (eFld 0 (eVar 1)) aNil))))
      sNil)
      (sCons (sIf (eBin (vEqF false) (eVar 3) (eC (.str "tell")))
      (sCons (sApp (eVar 2) (eApp (T i_worth) (aCons (eBin vIx (eVar 0) (eC (.int 1))) (aCons (eFld 0 (eVar 1)) aNil))))
      sNil)
      (sCons (sIf (eBin (vEqF false) (eVar 3) (eC (.str "when")))
      (sCons (sIf (eBin (vEqF true) (eApp (T i_worth) (aCons (eBin vIx (eVar 0) (eC (.int 1))) (aCons (eFld 0 (eVar 1)) aNil))) (eC (.int 0)))
      (sCons (sExtT (eFld 1 (eVar 1)) (eRevT (eBin vIx (eVar 0) (eC (.int 2)))))
      sNil)
      sNil)
      sNil)
      (sCons (sIf (eBin vGt (eBin vIx (eVar 0) (eC (.int 1))) (eC (.int 0)))
      (sCons (sApp (eFld 1 (eVar 1)) (eTup (aCons (eC (.str "again")) (aCons (eBin vSub (eBin vIx (eVar 0) (eC (.int 1))) (eC (.int 1))) (aCons (eBin vIx (eVar 0) (eC (.int 2))) aNil)))))
      (sCons (sExtT (eFld 1 (eVar 1)) (eRevT (eBin vIx (eVar 0) (eC (.int 2)))))
      sNil))
      sNil)
      sNil))
      sNil))
      sNil))
theorem b__go_through_q (T : Tbl) : b__go_through T = (sCons (q__go_through_0 T) (sCons (q__go_through_1 T) sNil)) := rfl
abbrev d__go_through : FnD := ⟨3, 4, false, b__go_through⟩
theorem sc__go_through : FnScope N__go_through ["row", "visit", "told"] (defScope s__go_through) := ⟨rfl, rfl, rfl, by decide +kernel, rfl, by decide +kernel, by decide +kernel⟩
theorem ok__go_through {P : Program} {w : World} {K : PySem.W.Frag} {mg : Str → Option Value} {base : Heap} {f : Addr} {fd : FuncData} {n : Nat} {T : Tbl} {C : Nat → Addr} (F : Fun K "_go_through" "_go_through" s__go_through f fd) (hB : ∀ x ∈ bs, mg x = none) (hC : ∀ p ∈ cs, ∃ u, mg p.1 = some u ∧ RelV (.int p.2) u)
    (hX : ∀ p ∈ pr.xs, ExF K mg p.1 (C p.2)) (hF : FnAt P w K mg base C pr T n) : FnOk P w K mg base (L2N.CX P w) (n + 3) f fd ["row", "visit", "told"] (spI P w K C (pr.fr 3) (callI d__go_through T)) :=
  fn_ok F sc__go_through rfl rfl fun cdv A outer s H E hr => by
    have c : Cok (cxOf (L2N.CX P w) P w K mg base N__go_through "_go_through" (defScope s__go_through) f cdv A outer s H E) ⟨C, E⟩ pr T n bs cs := ⟨rfl, sc__go_through.nd, hr, hF, hB, hC, L2N.takes_of rfl rfl rfl rfl, L2.passes_of rfl, hX⟩
    show EvSs _ _ _ _ (b__go_through T)
    unfold b__go_through
    exact (evss_cons (evs_set c.nd (ev_ix (ix_4 c.u) os_ix (ev_var 0) ev_int))
      (evss_cons (evs_if (evt_cmp (op_eq3 c.u) (OpSem.weak os_eq) (ev_var 3) ev_str)
      (evss_cons (evs_put c.u (ev_fld 0 (ev_var 1)) (ev_ix (ix_4 c.u) os_ix (ev_var 0) ev_int) (ev_call c i_worth (eva_cons (ev_ix (ix_4 c.u) os_ix (ev_var 0) ev_int) (eva_cons (ev_fld 0 (ev_var 1)) eva_nil))))
      evss_nil)
      (evss_cons (evs_if (evt_cmp (op_eq3 c.u) (OpSem.weak os_eq) (ev_var 3) ev_str)
      (evss_cons (evs_app (ev_var 2) (ev_call c i_worth (eva_cons (ev_ix (ix_4 c.u) os_ix (ev_var 0) ev_int) (eva_cons (ev_fld 0 (ev_var 1)) eva_nil))))
      evss_nil)
      (evss_cons (evs_if (evt_cmp (op_eq3 c.u) (OpSem.weak os_eq) (ev_var 3) ev_str)
      (evss_cons (evs_if (evt_cmp (op_ne3 c.u) (OpSem.weak os_eq) (ev_call c i_worth (eva_cons (ev_ix (ix_4 c.u) os_ix (ev_var 0) ev_int) (eva_cons (ev_fld 0 (ev_var 1)) eva_nil))) ev_int)
      (evss_cons (evs_extT (ev_fld 1 (ev_var 1)) (ev_revT (ev_ix (ix_4 c.u) os_ix (ev_var 0) ev_int)))
      evss_nil)
      evss_nil)
      evss_nil)
      (evss_cons (evs_if (evt_cmp op_gt (OpSem.weak os_cmp) (ev_ix (ix_4 c.u) os_ix (ev_var 0) ev_int) ev_int)
      (evss_cons (evs_app (ev_fld 1 (ev_var 1)) (ev_tup (eva_cons ev_str (eva_cons (ev_op op_sub os_sub (ev_ix (ix_4 c.u) os_ix (ev_var 0) ev_int) ev_int) (eva_cons (ev_ix (ix_4 c.u) os_ix (ev_var 0) ev_int) eva_nil)))))
      (evss_cons (evs_extT (ev_fld 1 (ev_var 1)) (ev_revT (ev_ix (ix_4 c.u) os_ix (ev_var 0) ev_int)))
      evss_nil))
      evss_nil)
      evss_nil))
      evss_nil))
      evss_nil))
      evss_nil))
abbrev s__law_cell : Stmt := topS 9
abbrev N__law_cell : List Str := ["_law_script", "_law_k", "_law_cell_here", "_law_mark"]
def b__law_cell (T : Tbl) : SM :=
      (sCons (sSet 2 (eIf (eBin vLt (eVar 1) (eApp vLen (aCons (eVar 0) aNil))) (eBin vIx (eVar 0) (eVar 1)) (eC (.int 0))))
      (sCons (sSet 3 (eBin vMod (eBin vMul (eBin vAdd (eBin vMod (eVar 2) (eC (.int 2147483629))) (eBin vMul (eC (.int 7919)) (eBin vAdd (eVar 1) (eC (.int 1))))) (eC (.int 48271))) (eC (.int 2147483647))))
      (sCons (sSet 3 (eBin vMod (eBin vMul (eBin vMod (eBin vMul (eVar 3) (eVar 3)) (eC (.int 2147483629))) (eC (.int 69621))) (eC (.int 2147483647))))
      (sCons (sRet (eBin vAdd (eBin vMul (eBin vAdd (eBin vMul (eBin vFdv (eVar 2) (eC (.int 2147483629))) (eC (.int 2147483647))) (eVar 3)) (eC (.int 2147483629))) (eBin vMod (eBin vMul (eVar 3) (eVar 3)) (eC (.int 2147483629)))))
      sNil))))
abbrev d__law_cell : FnD := ⟨2, 4, false, b__law_cell⟩
theorem sc__law_cell : FnScope N__law_cell ["_law_script", "_law_k"] (defScope s__law_cell) := ⟨rfl, rfl, rfl, by decide +kernel, rfl, by decide +kernel, by decide +kernel⟩
theorem ok__law_cell {P : Program} {w : World} {K : PySem.W.Frag} {mg : Str → Option Value} {base : Heap} {f : Addr} {fd : FuncData} {n : Nat} {T : Tbl} {C : Nat → Addr} (F : Fun K "_law_cell" "_law_cell" s__law_cell f fd) (hB : ∀ x ∈ bs, mg x = none) (hC : ∀ p ∈ cs, ∃ u, mg p.1 = some u ∧ RelV (.int p.2) u)
    (hX : ∀ p ∈ pr.xs, ExF K mg p.1 (C p.2)) (hF : FnAt P w K mg base C pr T n) : FnOk P w K mg base (L2N.CX P w) (n + 3) f fd ["_law_script", "_law_k"] (spI P w K C (pr.fr 4) (callI d__law_cell T)) :=
  fn_ok F sc__law_cell rfl rfl fun cdv A outer s H E hr => by
    have c : Cok (cxOf (L2N.CX P w) P w K mg base N__law_cell "_law_cell" (defScope s__law_cell) f cdv A outer s H E) ⟨C, E⟩ pr T n bs cs := ⟨rfl, sc__law_cell.nd, hr, hF, hB, hC, L2N.takes_of rfl rfl rfl rfl, L2.passes_of rfl, hX⟩
    show EvSs _ _ _ _ (b__law_cell T)
    unfold b__law_cell
    exact (evss_cons (evs_set c.nd (ev_if (evt_cmp op_lt (OpSem.weak os_cmp) (ev_var 1) (ev_callB call_len2 cs_len (c.blt "len" (List.mem_of_getElem? (i := 3) rfl)) PySem.boot_len (eva_cons (ev_var 0) eva_nil))) (Ev.weak (ev_ix (ix_4 c.u) os_ix (ev_var 0) (ev_var 1))) (Ev.weak ev_int)))
      (evss_cons (evs_set c.nd (ev_op op_mod os_mod (ev_op op_mul2 os_mul (ev_op op_add4 os_add (ev_op op_mod os_mod (ev_var 2) ev_int) (ev_op op_mul2 os_mul ev_int (ev_op op_add4 os_add (ev_var 1) ev_int))) ev_int) ev_int))
      (evss_cons (evs_set c.nd (ev_op op_mod os_mod (ev_op op_mul2 os_mul (ev_op op_mod os_mod (ev_op op_mul2 os_mul (ev_var 3) (ev_var 3)) ev_int) ev_int) ev_int))
      (evss_cons (evs_ret (Ev.weak (ev_op op_add4 os_add (ev_op op_mul2 os_mul (ev_op op_add4 os_add (ev_op op_mul2 os_mul (ev_op op_fdivW os_fdv (ev_var 2) ev_int) ev_int) (ev_var 3)) ev_int) (ev_op op_mod os_mod (ev_op op_mul2 os_mul (ev_var 3) (ev_var 3)) ev_int))))
      evss_nil))))
abbrev s__law_mixed : Stmt := topS 10
abbrev N__law_mixed : List Str := ["_law_cell_here", "_law_k", "_law_mark"]
def b__law_mixed (T : Tbl) : SM :=
      (sCons (sSet 2 (eBin vMod (eBin vAdd (eBin vMul (eVar 0) (eC (.int 48271))) (eBin vMul (eBin vAdd (eVar 1) (eC (.int 1))) (eC (.int 1299721)))) (eC (.int 2147483647))))
      (sCons (sRet (eBin vMod (eBin vMul (eVar 2) (eBin vAdd (eBin vMod (eBin vFdv (eVar 2) (eC (.int 7))) (eC (.int 65536))) (eC (.int 3)))) (eC (.int 2147483647))))
      sNil))
abbrev d__law_mixed : FnD := ⟨2, 3, false, b__law_mixed⟩
theorem sc__law_mixed : FnScope N__law_mixed ["_law_cell_here", "_law_k"] (defScope s__law_mixed) := ⟨rfl, rfl, rfl, by decide +kernel, rfl, by decide +kernel, by decide +kernel⟩
theorem ok__law_mixed {P : Program} {w : World} {K : PySem.W.Frag} {mg : Str → Option Value} {base : Heap} {f : Addr} {fd : FuncData} {n : Nat} {T : Tbl} {C : Nat → Addr} (F : Fun K "_law_mixed" "_law_mixed" s__law_mixed f fd) (hB : ∀ x ∈ bs, mg x = none) (hC : ∀ p ∈ cs, ∃ u, mg p.1 = some u ∧ RelV (.int p.2) u)
    (hX : ∀ p ∈ pr.xs, ExF K mg p.1 (C p.2)) (hF : FnAt P w K mg base C pr T n) : FnOk P w K mg base (L2N.CX P w) (n + 3) f fd ["_law_cell_here", "_law_k"] (spI P w K C (pr.fr 5) (callI d__law_mixed T)) :=
  fn_ok F sc__law_mixed rfl rfl fun cdv A outer s H E hr => by
    have c : Cok (cxOf (L2N.CX P w) P w K mg base N__law_mixed "_law_mixed" (defScope s__law_mixed) f cdv A outer s H E) ⟨C, E⟩ pr T n bs cs := ⟨rfl, sc__law_mixed.nd, hr, hF, hB, hC, L2N.takes_of rfl rfl rfl rfl, L2.passes_of rfl, hX⟩
    show EvSs _ _ _ _ (b__law_mixed T)
    unfold b__law_mixed
    exact (evss_cons (evs_set c.nd (ev_op op_mod os_mod (ev_op op_add4 os_add (ev_op op_mul2 os_mul (ev_var 0) ev_int) (ev_op op_mul2 os_mul (ev_op op_add4 os_add (ev_var 1) ev_int) ev_int)) ev_int))
      (evss_cons (evs_ret (Ev.weak (ev_op op_mod os_mod (ev_op op_mul2 os_mul (ev_var 2) (ev_op op_add4 os_add (ev_op op_mod os_mod (ev_op op_fdivW os_fdv (ev_var 2) ev_int) ev_int) ev_int)) ev_int)))
      evss_nil))
abbrev s__law_words : Stmt := topS 11
abbrev N__law_words : List Str := ["_law_cell_here", "_law_many", "_law_letters", "_law_base", "_law_at", "_law_k"]
def b__law_words (T : Tbl) : SM :=
      (sCons (sSet 2 (eC (.str "abcdefghijklmnopqrstuvwxyz")))
      (sCons (sSet 3 (eBin vMul (eBin vIx (eVar 2) (eBin vMod (eVar 0) (eC (.int 26)))) (eBin vAdd (eC (.int 1)) (eBin vMod (eBin vFdv (eVar 0) (eC (.int 26))) (eC (.int 8))))))
      (sCons (sSet 4 (eBin vMod (eBin vFdv (eVar 0) (eC (.int 208))) (eApp vLen (aCons (eVar 3) aNil))))
      (sCons (sIf (eBin (vEqF false) (eBin vMod (eBin vFdv (eVar 0) (eC (.int 1664))) (eC (.int 3))) (eC (.int 1)))
      (sCons (sRet (eComp (iRng1' (eVar 1)) (gName 5) tTrue (eBin vMul (eBin vIx (eVar 2) (eBin vMod (eVar 0) (eC (.int 26)))) (eBin vAdd (eC (.int 1)) (eVar 5))) [5]))
      sNil)
      sNil)
      (sCons (sRet (eComp (iRng1' (eVar 1)) (gName 5) tTrue (eBin vAdd (eBin vAdd (eSl (eVar 3) oNone (oSome (eVar 4))) (eBin vIx (eVar 2) (eBin vMod (eBin vAdd (eBin vFdv (eVar 0) (eC (.int 4992))) (eBin vMul (eC (.int 5)) (eVar 5))) (eC (.int 26))))) (eSl (eVar 3) (oSome (eBin vAdd (eVar 4) (eC (.int 1)))) oNone)) [5]))
      sNil)))))
abbrev d__law_words : FnD := ⟨2, 6, false, b__law_words⟩
theorem sc__law_words : FnScope N__law_words ["_law_cell_here", "_law_many"] (defScope s__law_words) := ⟨rfl, rfl, rfl, by decide +kernel, rfl, by decide +kernel, by decide +kernel⟩
theorem ok__law_words {P : Program} {w : World} {K : PySem.W.Frag} {mg : Str → Option Value} {base : Heap} {f : Addr} {fd : FuncData} {n : Nat} {T : Tbl} {C : Nat → Addr} (F : Fun K "_law_words" "_law_words" s__law_words f fd) (hB : ∀ x ∈ bs, mg x = none) (hC : ∀ p ∈ cs, ∃ u, mg p.1 = some u ∧ RelV (.int p.2) u)
    (hX : ∀ p ∈ pr.xs, ExF K mg p.1 (C p.2)) (hF : FnAt P w K mg base C pr T n) : FnOk P w K mg base (L2N.CX P w) (n + 3) f fd ["_law_cell_here", "_law_many"] (spI P w K C (pr.fr 6) (callI d__law_words T)) :=
  fn_ok F sc__law_words rfl rfl fun cdv A outer s H E hr => by
    have c : Cok (cxOf (L2N.CX P w) P w K mg base N__law_words "_law_words" (defScope s__law_words) f cdv A outer s H E) ⟨C, E⟩ pr T n bs cs := ⟨rfl, sc__law_words.nd, hr, hF, hB, hC, L2N.takes_of rfl rfl rfl rfl, L2.passes_of rfl, hX⟩
    show EvSs _ _ _ _ (b__law_words T)
    unfold b__law_words
    exact (evss_cons (evs_set c.nd ev_str)
      (evss_cons (evs_set c.nd (ev_op op_mul2 os_mul (ev_ix (ix_4 c.u) os_ix (ev_var 2) (ev_op op_mod os_mod (ev_var 0) ev_int)) (ev_op op_add4 os_add ev_int (ev_op op_mod os_mod (ev_op op_fdivW os_fdv (ev_var 0) ev_int) ev_int))))
      (evss_cons (evs_set c.nd (ev_op op_mod os_mod (ev_op op_fdivW os_fdv (ev_var 0) ev_int) (ev_callB call_len2 cs_len (c.blt "len" (List.mem_of_getElem? (i := 3) rfl)) PySem.boot_len (eva_cons (ev_var 3) eva_nil))))
      (evss_cons (evs_if (evt_cmp (op_eq3 c.u) (OpSem.weak os_eq) (ev_op op_mod os_mod (ev_op op_fdivW os_fdv (ev_var 0) ev_int) ev_int) ev_int)
      (evss_cons (evs_ret (Ev.weak (ev_compC [("_law_k", 5)] c (evi_rng1 (ev_var 1) (c.blt "range" (List.mem_of_getElem? (i := 6) rfl))) (blkOk_by (own := [("_law_k", 5)]) (N := N__law_words) (sc := defScope s__law_words) (by decide +kernel)) (fun _ _ _ _ _ c => (evg_name c.nd)) (fun _ _ _ _ _ c => evts_nil) (fun _ _ _ _ _ c => (ev_op op_mul2 os_mul (ev_ix (ix_4 c.u) os_ix (ev_var 2) (ev_op op_mod os_mod (ev_var 0) ev_int)) (ev_op op_add4 os_add ev_int (ev_var 5)))))))
      evss_nil)
      evss_nil)
      (evss_cons (evs_ret (Ev.weak (ev_compC [("_law_k", 5)] c (evi_rng1 (ev_var 1) (c.blt "range" (List.mem_of_getElem? (i := 6) rfl))) (blkOk_by (own := [("_law_k", 5)]) (N := N__law_words) (sc := defScope s__law_words) (by decide +kernel)) (fun _ _ _ _ _ c => (evg_name c.nd)) (fun _ _ _ _ _ c => evts_nil) (fun _ _ _ _ _ c => (ev_op op_add4 os_add (ev_op op_add4 os_add (ev_sl (ev_var 3) evo_none (evo_some (ev_var 4))) (ev_ix (ix_4 c.u) os_ix (ev_var 2) (ev_op op_mod os_mod (ev_op op_add4 os_add (ev_op op_fdivW os_fdv (ev_var 0) ev_int) (ev_op op_mul2 os_mul ev_int (ev_var 5))) ev_int))) (ev_sl (ev_var 3) (evo_some (ev_op op_add4 os_add (ev_var 4) ev_int)) evo_none))))))
      evss_nil)))))
abbrev s__law_term : Stmt := topS 12
abbrev N__law_term : List Str := ["_law_cell_here", "_law_words_here", "_law_deep", "_law_kind", "_law_word"]
def b__law_term (T : Tbl) : SM :=
      (sCons (sSet 3 (eBin vMod (eVar 0) (eC (.int 6))))
      (sCons (sIf (eBin (vEqF false) (eVar 3) (eC (.int 0)))
      (sCons (sRet (eTup (aCons (eC (.str "num")) (aCons (eBin vMod (eBin vFdv (eVar 0) (eC (.int 6))) (eC (.int 3))) aNil))))
      sNil)
      sNil)
      (sCons (sIf (eBin (vEqF false) (eVar 3) (eC (.int 1)))
      (sCons (sRet (eTup (aCons (eC (.str "num")) (aCons (eBin vMod (eBin vFdv (eVar 0) (eC (.int 6))) (eC (.int 1000003))) aNil))))
      sNil)
      sNil)
      (sCons (sIf (eOr (eBin vLt (eVar 3) (eC (.int 4))) (eBin (vEqF false) (eVar 2) (eC (.int 0))))
      (sCons (sRet (eTup (aCons (eC (.str "name")) (aCons (eBin vIx (eVar 1) (eBin vMod (eBin vFdv (eVar 0) (eC (.int 6))) (eApp vLen (aCons (eVar 1) aNil)))) aNil))))
      sNil)
      sNil)
      (sCons (sSet 4 (eBin vIx (eLst (aCons (eC (.str "sum")) (aCons (eC (.str "less")) (aCons (eC (.str "times")) aNil)))) (eBin vMod (eBin vFdv (eVar 0) (eC (.int 6))) (eC (.int 3)))))
      (sCons (sRet (eTup (aCons (eVar 4) (aCons (eApp (T i__law_term) (aCons (eApp (T i__law_mixed) (aCons (eVar 0) (aCons (eC (.int 1)) aNil))) (aCons (eVar 1) (aCons (eBin vSub (eVar 2) (eC (.int 1))) aNil)))) (aCons (eApp (T i__law_term) (aCons (eApp (T i__law_mixed) (aCons (eVar 0) (aCons (eC (.int 2)) aNil))) (aCons (eVar 1) (aCons (eBin vSub (eVar 2) (eC (.int 1))) aNil)))) aNil)))))
      sNil))))))
abbrev d__law_term : FnD := ⟨3, 5, false, b__law_term⟩
theorem sc__law_term : FnScope N__law_term ["_law_cell_here", "_law_words_here", "_law_deep"] (defScope s__law_term) := ⟨rfl, rfl, rfl, by decide +kernel, rfl, by decide +kernel, by decide +kernel⟩
theorem ok__law_term {P : Program} {w : World} {K : PySem.W.Frag} {mg : Str → Option Value} {base : Heap} {f : Addr} {fd : FuncData} {n : Nat} {T : Tbl} {C : Nat → Addr} (F : Fun K "_law_term" "_law_term" s__law_term f fd) (hB : ∀ x ∈ bs, mg x = none) (hC : ∀ p ∈ cs, ∃ u, mg p.1 = some u ∧ RelV (.int p.2) u)
    (hX : ∀ p ∈ pr.xs, ExF K mg p.1 (C p.2)) (hF : FnAt P w K mg base C pr T n) : FnOk P w K mg base (L2N.CX P w) (n + 3) f fd ["_law_cell_here", "_law_words_here", "_law_deep"] (spI P w K C (pr.fr 7) (callI d__law_term T)) :=
  fn_ok F sc__law_term rfl rfl fun cdv A outer s H E hr => by
    have c : Cok (cxOf (L2N.CX P w) P w K mg base N__law_term "_law_term" (defScope s__law_term) f cdv A outer s H E) ⟨C, E⟩ pr T n bs cs := ⟨rfl, sc__law_term.nd, hr, hF, hB, hC, L2N.takes_of rfl rfl rfl rfl, L2.passes_of rfl, hX⟩
    show EvSs _ _ _ _ (b__law_term T)
    unfold b__law_term
    exact (evss_cons (evs_set c.nd (ev_op op_mod os_mod (ev_var 0) ev_int))
      (evss_cons (evs_if (evt_cmp (op_eq3 c.u) (OpSem.weak os_eq) (ev_var 3) ev_int)
      (evss_cons (evs_ret (Ev.weak (ev_tup (eva_cons ev_str (eva_cons (ev_op op_mod os_mod (ev_op op_fdivW os_fdv (ev_var 0) ev_int) ev_int) eva_nil)))))
      evss_nil)
      evss_nil)
      (evss_cons (evs_if (evt_cmp (op_eq3 c.u) (OpSem.weak os_eq) (ev_var 3) ev_int)
      (evss_cons (evs_ret (Ev.weak (ev_tup (eva_cons ev_str (eva_cons (ev_op op_mod os_mod (ev_op op_fdivW os_fdv (ev_var 0) ev_int) ev_int) eva_nil)))))
      evss_nil)
      evss_nil)
      (evss_cons (evs_if (evw_pt (evw_or (evt_cmp op_lt (OpSem.weak os_cmp) (ev_var 3) ev_int) (evw_or1 (evt_cmp (op_eq3 c.u) (OpSem.weak os_eq) (ev_var 2) ev_int))))
      (evss_cons (evs_ret (Ev.weak (ev_tup (eva_cons ev_str (eva_cons (ev_ix (ix_4 c.u) os_ix (ev_var 1) (ev_op op_mod os_mod (ev_op op_fdivW os_fdv (ev_var 0) ev_int) (ev_callB call_len2 cs_len (c.blt "len" (List.mem_of_getElem? (i := 3) rfl)) PySem.boot_len (eva_cons (ev_var 1) eva_nil)))) eva_nil)))))
      evss_nil)
      evss_nil)
      (evss_cons (evs_set c.nd (ev_ix (ix_4 c.u) os_ix (ev_lst (eva_cons ev_str (eva_cons ev_str (eva_cons ev_str eva_nil)))) (ev_op op_mod os_mod (ev_op op_fdivW os_fdv (ev_var 0) ev_int) ev_int)))
      (evss_cons (evs_ret (Ev.weak (ev_tup (eva_cons (ev_var 4) (eva_cons (ev_call c i__law_term (eva_cons (ev_call c i__law_mixed (eva_cons (ev_var 0) (eva_cons ev_int eva_nil))) (eva_cons (ev_var 1) (eva_cons (ev_op op_sub os_sub (ev_var 2) ev_int) eva_nil)))) (eva_cons (ev_call c i__law_term (eva_cons (ev_call c i__law_mixed (eva_cons (ev_var 0) (eva_cons ev_int eva_nil))) (eva_cons (ev_var 1) (eva_cons (ev_op op_sub os_sub (ev_var 2) ev_int) eva_nil)))) eva_nil))))))
      evss_nil))))))
abbrev s__law_given : Stmt := topS 13
abbrev N__law_given : List Str := ["_law_cell_here", "_law_words_here", "_law_name"]
def b__law_given (T : Tbl) : SM :=
      (sCons (sIf (eBin (vEqF false) (eBin vMod (eVar 0) (eC (.int 2))) (eC (.int 0)))
      (sCons (sRet (eTup (aCons (eC (.str "name")) (aCons (eVar 2) aNil))))
      sNil)
      sNil)
      (sCons (sRet (eApp (T i__law_term) (aCons (eBin vFdv (eVar 0) (eC (.int 2))) (aCons (eVar 1) (aCons (eC (.int 1)) aNil)))))
      sNil))
abbrev d__law_given : FnD := ⟨3, 3, false, b__law_given⟩
theorem sc__law_given : FnScope N__law_given ["_law_cell_here", "_law_words_here", "_law_name"] (defScope s__law_given) := ⟨rfl, rfl, rfl, by decide +kernel, rfl, by decide +kernel, by decide +kernel⟩
theorem ok__law_given {P : Program} {w : World} {K : PySem.W.Frag} {mg : Str → Option Value} {base : Heap} {f : Addr} {fd : FuncData} {n : Nat} {T : Tbl} {C : Nat → Addr} (F : Fun K "_law_given" "_law_given" s__law_given f fd) (hB : ∀ x ∈ bs, mg x = none) (hC : ∀ p ∈ cs, ∃ u, mg p.1 = some u ∧ RelV (.int p.2) u)
    (hX : ∀ p ∈ pr.xs, ExF K mg p.1 (C p.2)) (hF : FnAt P w K mg base C pr T n) : FnOk P w K mg base (L2N.CX P w) (n + 3) f fd ["_law_cell_here", "_law_words_here", "_law_name"] (spI P w K C (pr.fr 8) (callI d__law_given T)) :=
  fn_ok F sc__law_given rfl rfl fun cdv A outer s H E hr => by
    have c : Cok (cxOf (L2N.CX P w) P w K mg base N__law_given "_law_given" (defScope s__law_given) f cdv A outer s H E) ⟨C, E⟩ pr T n bs cs := ⟨rfl, sc__law_given.nd, hr, hF, hB, hC, L2N.takes_of rfl rfl rfl rfl, L2.passes_of rfl, hX⟩
    show EvSs _ _ _ _ (b__law_given T)
    unfold b__law_given
    exact (evss_cons (evs_if (evt_cmp (op_eq3 c.u) (OpSem.weak os_eq) (ev_op op_mod os_mod (ev_var 0) ev_int) ev_int)
      (evss_cons (evs_ret (Ev.weak (ev_tup (eva_cons ev_str (eva_cons (ev_var 2) eva_nil)))))
      evss_nil)
      evss_nil)
      (evss_cons (evs_ret (Ev.weak (ev_call c i__law_term (eva_cons (ev_op op_fdivW os_fdv (ev_var 0) ev_int) (eva_cons (ev_var 1) (eva_cons ev_int eva_nil))))))
      evss_nil))
abbrev s__law_call : Stmt := topS 14
abbrev N__law_call : List Str := ["_law_cell_here", "_law_words_here", "_law_heads", "_law_head", "_law_terms", "_law_target_here", "_law_k"]
def b__law_call (T : Tbl) : SM :=
      (sCons (sSet 3 (eBin vIx (eVar 2) (eBin vMod (eBin vFdv (eVar 0) (eC (.int 7))) (eApp vLen (aCons (eVar 2) aNil)))))
      (sCons (sSet 4 (eComp (iRng1' (eApp vLen (aCons (eBin vIx (eVar 3) (eC (.int 1))) aNil))) (gName 6) tTrue (eApp (T i__law_given) (aCons (eApp (T i__law_mixed) (aCons (eVar 0) (aCons (eBin vAdd (eC (.int 10)) (eVar 6)) aNil))) (aCons (eVar 1) (aCons (eBin vIx (eBin vIx (eVar 3) (eC (.int 1))) (eVar 6)) aNil)))) [6]))
      (sCons (sSet 5 (eBin vIx (eVar 1) (eBin vMod (eBin vFdv (eVar 0) (eC (.int 49))) (eApp vLen (aCons (eVar 1) aNil)))))
      (sCons (sIf (eBin (vEqF false) (eBin vMod (eVar 0) (eC (.int 3))) (eC (.int 0)))
      (sCons (sSet 5 (eC .non))
      sNil)
      sNil)
      (sCons (sRet (eTup (aCons (eC (.str "call")) (aCons (eVar 5) (aCons (eBin vIx (eVar 3) (eC (.int 0))) (aCons (eApp vTuple (aCons (eVar 4) aNil)) aNil))))))
      sNil)))))
abbrev d__law_call : FnD := ⟨3, 7, false, b__law_call⟩
theorem sc__law_call : FnScope N__law_call ["_law_cell_here", "_law_words_here", "_law_heads"] (defScope s__law_call) := ⟨rfl, rfl, rfl, by decide +kernel, rfl, by decide +kernel, by decide +kernel⟩
theorem ok__law_call {P : Program} {w : World} {K : PySem.W.Frag} {mg : Str → Option Value} {base : Heap} {f : Addr} {fd : FuncData} {n : Nat} {T : Tbl} {C : Nat → Addr} (F : Fun K "_law_call" "_law_call" s__law_call f fd) (hB : ∀ x ∈ bs, mg x = none) (hC : ∀ p ∈ cs, ∃ u, mg p.1 = some u ∧ RelV (.int p.2) u)
    (hX : ∀ p ∈ pr.xs, ExF K mg p.1 (C p.2)) (hF : FnAt P w K mg base C pr T n) : FnOk P w K mg base (L2N.CX P w) (n + 3) f fd ["_law_cell_here", "_law_words_here", "_law_heads"] (spI P w K C (pr.fr 9) (callI d__law_call T)) :=
  fn_ok F sc__law_call rfl rfl fun cdv A outer s H E hr => by
    have c : Cok (cxOf (L2N.CX P w) P w K mg base N__law_call "_law_call" (defScope s__law_call) f cdv A outer s H E) ⟨C, E⟩ pr T n bs cs := ⟨rfl, sc__law_call.nd, hr, hF, hB, hC, L2N.takes_of rfl rfl rfl rfl, L2.passes_of rfl, hX⟩
    show EvSs _ _ _ _ (b__law_call T)
    unfold b__law_call
    exact (evss_cons (evs_set c.nd (ev_ix (ix_4 c.u) os_ix (ev_var 2) (ev_op op_mod os_mod (ev_op op_fdivW os_fdv (ev_var 0) ev_int) (ev_callB call_len2 cs_len (c.blt "len" (List.mem_of_getElem? (i := 3) rfl)) PySem.boot_len (eva_cons (ev_var 2) eva_nil)))))
      (evss_cons (evs_setLcC [("_law_k", 6)] c lc_plain (evi_rng1 (ev_callB call_len2 cs_len (c.blt "len" (List.mem_of_getElem? (i := 3) rfl)) PySem.boot_len (eva_cons (ev_ix (ix_4 c.u) os_ix (ev_var 3) ev_int) eva_nil)) (c.blt "range" (List.mem_of_getElem? (i := 6) rfl))) (blkOk_by (own := [("_law_k", 6)]) (N := N__law_call) (sc := defScope s__law_call) (by decide +kernel)) (fun _ _ _ _ _ c => (evg_name c.nd)) (fun _ _ _ _ _ c => evts_nil) (fun _ _ _ _ _ c => (ev_call c i__law_given (eva_cons (ev_call c i__law_mixed (eva_cons (ev_var 0) (eva_cons (ev_op op_add4 os_add ev_int (ev_var 6)) eva_nil))) (eva_cons (ev_var 1) (eva_cons (ev_ix (ix_4 c.u) os_ix (ev_ix (ix_4 c.u) os_ix (ev_var 3) ev_int) (ev_var 6)) eva_nil))))))
      (evss_cons (evs_set c.nd (ev_ix (ix_4 c.u) os_ix (ev_var 1) (ev_op op_mod os_mod (ev_op op_fdivW os_fdv (ev_var 0) ev_int) (ev_callB call_len2 cs_len (c.blt "len" (List.mem_of_getElem? (i := 3) rfl)) PySem.boot_len (eva_cons (ev_var 1) eva_nil)))))
      (evss_cons (evs_if (evt_cmp (op_eq3 c.u) (OpSem.weak os_eq) (ev_op op_mod os_mod (ev_var 0) ev_int) ev_int)
      (evss_cons (evs_set c.nd ev_non)
      evss_nil)
      evss_nil)
      (evss_cons (evs_ret (Ev.weak (ev_tup (eva_cons ev_str (eva_cons (ev_var 5) (eva_cons (ev_ix (ix_4 c.u) os_ix (ev_var 3) ev_int) (eva_cons (ev_callTy call_tuple_of cs_tuple (c.blt "tuple" (List.mem_of_getElem? (i := 7) rfl)) boot_tuple (eva_cons (ev_var 4) eva_nil)) eva_nil)))))))
      evss_nil)))))
abbrev s__law_row : Stmt := topS 15
abbrev N__law_row : List Str := ["_law_cell_here", "_law_words_here", "_law_heads", "_law_deep", "_law_kind", "_law_rest", "_law_word", "_law_few", "_law_rows_here", "_law_count"]
def b__law_row (T : Tbl) : SM :=
      (sCons (sSet 4 (eBin vMod (eVar 0) (eC (.int 9))))
      (sCons (sSet 5 (eApp (T i__law_mixed) (aCons (eVar 0) (aCons (eC (.int 3)) aNil))))
      (sCons (sSet 6 (eBin vIx (eVar 1) (eBin vMod (eBin vFdv (eVar 0) (eC (.int 9))) (eApp vLen (aCons (eVar 1) aNil)))))
      (sCons (sSet 7 (eSl (eVar 2) oNone (oSome (eBin vAdd (eC (.int 1)) (eApp vInt (aCons (eBin (vEqF false) (eBin vMod (eBin vFdv (eVar 0) (eC (.int 3645))) (eC (.int 8))) (eC (.int 1))) aNil))))))
      (sCons (sIf (eOr (eBin (vEqF false) (eVar 4) (eC (.int 2))) (eBin (vEqF false) (eVar 4) (eC (.int 8))))
      (sCons (sRet (eTup (aCons (eC (.str "tell")) (aCons (eApp (T i__law_term) (aCons (eVar 5) (aCons (eVar 1) (aCons (eC (.int 2)) aNil)))) aNil))))
      sNil)
      sNil)
      (sCons (sIf (eAnd (eBin vLt (eC (.int 2)) (eVar 4)) (eAnd (eBin vLt (eVar 4) (eC (.int 6))) (eBin (vEqF true) (eVar 2) (eLst aNil))))
      (sCons (sRet (eApp (T i__law_call) (aCons (eVar 5) (aCons (eVar 1) (aCons (eVar 2) aNil)))))
      sNil)
      sNil)
      (sCons (sIf (eAnd (eBin (vEqF false) (eVar 4) (eC (.int 6))) (eBin vGt (eVar 3) (eC (.int 0))))
      (sCons (sSet 8 (eApp (T i__law_rows) (aCons (eVar 5) (aCons (eVar 1) (aCons (eVar 7) (aCons (eBin vSub (eVar 3) (eC (.int 1))) (aCons (eBin vAdd (eC (.int 1)) (eBin vMod (eBin vFdv (eVar 0) (eC (.int 9))) (eC (.int 3)))) aNil)))))))
      (sCons (sRet (eTup (aCons (eC (.str "when")) (aCons (eApp (T i__law_term) (aCons (eApp (T i__law_mixed) (aCons (eVar 0) (aCons (eC (.int 4)) aNil))) (aCons (eVar 1) (aCons (eC (.int 1)) aNil)))) (aCons (eVar 8) aNil)))))
      sNil))
      sNil)
      (sCons (sIf (eAnd (eBin (vEqF false) (eVar 4) (eC (.int 7))) (eBin vGt (eVar 3) (eC (.int 0))))
      (sCons (sSet 9 (eBin vIx (eLst (aCons (eC (.int 2)) (aCons (eC (.int 1)) (aCons (eC (.int 2)) (aCons (eC (.int 0)) aNil))))) (eBin vMod (eBin vFdv (eVar 0) (eC (.int 27))) (eC (.int 4)))))
      (sCons (sIf (eAnd (eBin (vEqF false) (eVar 2) (eLst aNil)) (eBin (vEqF false) (eVar 3) (eC (.int 2))))
      (sCons (sSet 9 (eBin vIx (eLst (aCons (eC (.int 2)) (aCons (eC (.int 3)) (aCons (eC (.int 1)) (aCons (eBin vMod (eBin vFdv (eVar 0) (eC (.int 135))) (eC (.int 10))) (aCons (eC (.int 0)) aNil)))))) (eBin vMod (eBin vFdv (eVar 0) (eC (.int 27))) (eC (.int 5)))))
      sNil)
      sNil)
      (sCons (sRet (eTup (aCons (eC (.str "again")) (aCons (eVar 9) (aCons (eApp (T i__law_rows) (aCons (eVar 5) (aCons (eVar 1) (aCons (eVar 7) (aCons (eBin vSub (eVar 3) (eC (.int 1))) (aCons (eBin vAdd (eC (.int 1)) (eBin vMod (eBin vFdv (eVar 0) (eC (.int 9))) (eC (.int 3)))) aNil)))))) aNil)))))
      sNil)))
      sNil)
      (sCons (sRet (eTup (aCons (eC (.str "set")) (aCons (eVar 6) (aCons (eApp (T i__law_term) (aCons (eVar 5) (aCons (eVar 1) (aCons (eBin vAdd (eC (.int 1)) (eBin vMod (eVar 4) (eC (.int 2)))) aNil)))) aNil)))))
      sNil)))))))))
abbrev d__law_row : FnD := ⟨4, 10, false, b__law_row⟩
theorem sc__law_row : FnScope N__law_row ["_law_cell_here", "_law_words_here", "_law_heads", "_law_deep"] (defScope s__law_row) := ⟨rfl, rfl, rfl, by decide +kernel, rfl, by decide +kernel, by decide +kernel⟩
theorem ok__law_row {P : Program} {w : World} {K : PySem.W.Frag} {mg : Str → Option Value} {base : Heap} {f : Addr} {fd : FuncData} {n : Nat} {T : Tbl} {C : Nat → Addr} (F : Fun K "_law_row" "_law_row" s__law_row f fd) (hB : ∀ x ∈ bs, mg x = none) (hC : ∀ p ∈ cs, ∃ u, mg p.1 = some u ∧ RelV (.int p.2) u)
    (hX : ∀ p ∈ pr.xs, ExF K mg p.1 (C p.2)) (hF : FnAt P w K mg base C pr T n) : FnOk P w K mg base (L2N.CX P w) (n + 3) f fd ["_law_cell_here", "_law_words_here", "_law_heads", "_law_deep"] (spI P w K C (pr.fr 10) (callI d__law_row T)) :=
  fn_ok F sc__law_row rfl rfl fun cdv A outer s H E hr => by
    have c : Cok (cxOf (L2N.CX P w) P w K mg base N__law_row "_law_row" (defScope s__law_row) f cdv A outer s H E) ⟨C, E⟩ pr T n bs cs := ⟨rfl, sc__law_row.nd, hr, hF, hB, hC, L2N.takes_of rfl rfl rfl rfl, L2.passes_of rfl, hX⟩
    show EvSs _ _ _ _ (b__law_row T)
    unfold b__law_row
    exact (evss_cons (evs_set c.nd (ev_op op_mod os_mod (ev_var 0) ev_int))
      (evss_cons (evs_set c.nd (ev_call c i__law_mixed (eva_cons (ev_var 0) (eva_cons ev_int eva_nil))))
      (evss_cons (evs_set c.nd (ev_ix (ix_4 c.u) os_ix (ev_var 1) (ev_op op_mod os_mod (ev_op op_fdivW os_fdv (ev_var 0) ev_int) (ev_callB call_len2 cs_len (c.blt "len" (List.mem_of_getElem? (i := 3) rfl)) PySem.boot_len (eva_cons (ev_var 1) eva_nil)))))
      (evss_cons (evs_set c.nd (ev_sl (ev_var 2) evo_none (evo_some (ev_op op_add4 os_add ev_int (ev_callTy call_int1 cs_int (c.blt "int" (List.mem_of_getElem? (i := 1) rfl)) boot_int (eva_cons (ev_cmp (op_eq3 c.u) os_eq (ev_op op_mod os_mod (ev_op op_fdivW os_fdv (ev_var 0) ev_int) ev_int) ev_int) eva_nil))))))
      (evss_cons (evs_if (evw_pt (evw_or (evt_cmp (op_eq3 c.u) (OpSem.weak os_eq) (ev_var 4) ev_int) (evw_or1 (evt_cmp (op_eq3 c.u) (OpSem.weak os_eq) (ev_var 4) ev_int))))
      (evss_cons (evs_ret (Ev.weak (ev_tup (eva_cons ev_str (eva_cons (ev_call c i__law_term (eva_cons (ev_var 5) (eva_cons (ev_var 1) (eva_cons ev_int eva_nil)))) eva_nil)))))
      evss_nil)
      evss_nil)
      (evss_cons (evs_if (evw_pt (evw_and (evt_cmp op_lt (OpSem.weak os_cmp) ev_int (ev_var 4)) (evw_and (evt_cmp op_lt (OpSem.weak os_cmp) (ev_var 4) ev_int) (evw_and1 (evt_cmp (op_ne3 c.u) (OpSem.weak os_eq) (ev_var 2) (ev_lst eva_nil))))))
      (evss_cons (evs_ret (Ev.weak (ev_call c i__law_call (eva_cons (ev_var 5) (eva_cons (ev_var 1) (eva_cons (ev_var 2) eva_nil))))))
      evss_nil)
      evss_nil)
      (evss_cons (evs_if (evw_pt (evw_and (evt_cmp (op_eq3 c.u) (OpSem.weak os_eq) (ev_var 4) ev_int) (evw_and1 (evt_cmp op_gt (OpSem.weak os_cmp) (ev_var 3) ev_int))))
      (evss_cons (evs_set c.nd (ev_call c i__law_rows (eva_cons (ev_var 5) (eva_cons (ev_var 1) (eva_cons (ev_var 7) (eva_cons (ev_op op_sub os_sub (ev_var 3) ev_int) (eva_cons (ev_op op_add4 os_add ev_int (ev_op op_mod os_mod (ev_op op_fdivW os_fdv (ev_var 0) ev_int) ev_int)) eva_nil)))))))
      (evss_cons (evs_ret (Ev.weak (ev_tup (eva_cons ev_str (eva_cons (ev_call c i__law_term (eva_cons (ev_call c i__law_mixed (eva_cons (ev_var 0) (eva_cons ev_int eva_nil))) (eva_cons (ev_var 1) (eva_cons ev_int eva_nil)))) (eva_cons (ev_var 8) eva_nil))))))
      evss_nil))
      evss_nil)
      (evss_cons (evs_if (evw_pt (evw_and (evt_cmp (op_eq3 c.u) (OpSem.weak os_eq) (ev_var 4) ev_int) (evw_and1 (evt_cmp op_gt (OpSem.weak os_cmp) (ev_var 3) ev_int))))
      (evss_cons (evs_set c.nd (ev_ix (ix_4 c.u) os_ix (ev_lst (eva_cons ev_int (eva_cons ev_int (eva_cons ev_int (eva_cons ev_int eva_nil))))) (ev_op op_mod os_mod (ev_op op_fdivW os_fdv (ev_var 0) ev_int) ev_int)))
      (evss_cons (evs_if (evw_pt (evw_and (evt_cmp (op_eq3 c.u) (OpSem.weak os_eq) (ev_var 2) (ev_lst eva_nil)) (evw_and1 (evt_cmp (op_eq3 c.u) (OpSem.weak os_eq) (ev_var 3) ev_int))))
      (evss_cons (evs_set c.nd (ev_ix (ix_4 c.u) os_ix (ev_lst (eva_cons ev_int (eva_cons ev_int (eva_cons ev_int (eva_cons (ev_op op_mod os_mod (ev_op op_fdivW os_fdv (ev_var 0) ev_int) ev_int) (eva_cons ev_int eva_nil)))))) (ev_op op_mod os_mod (ev_op op_fdivW os_fdv (ev_var 0) ev_int) ev_int)))
      evss_nil)
      evss_nil)
      (evss_cons (evs_ret (Ev.weak (ev_tup (eva_cons ev_str (eva_cons (ev_var 9) (eva_cons (ev_call c i__law_rows (eva_cons (ev_var 5) (eva_cons (ev_var 1) (eva_cons (ev_var 7) (eva_cons (ev_op op_sub os_sub (ev_var 3) ev_int) (eva_cons (ev_op op_add4 os_add ev_int (ev_op op_mod os_mod (ev_op op_fdivW os_fdv (ev_var 0) ev_int) ev_int)) eva_nil)))))) eva_nil))))))
      evss_nil)))
      evss_nil)
      (evss_cons (evs_ret (Ev.weak (ev_tup (eva_cons ev_str (eva_cons (ev_var 6) (eva_cons (ev_call c i__law_term (eva_cons (ev_var 5) (eva_cons (ev_var 1) (eva_cons (ev_op op_add4 os_add ev_int (ev_op op_mod os_mod (ev_var 4) ev_int)) eva_nil)))) eva_nil))))))
      evss_nil)))))))))
abbrev s__law_rows : Stmt := topS 16
abbrev N__law_rows : List Str := ["_law_cell_here", "_law_words_here", "_law_heads", "_law_deep", "_law_many", "_law_k"]
def b__law_rows (T : Tbl) : SM :=
      (sCons (sRet (eApp vTuple (aCons (eComp (iRng1' (eVar 4)) (gName 5) tTrue (eApp (T i__law_row) (aCons (eApp (T i__law_mixed) (aCons (eVar 0) (aCons (eBin vAdd (eC (.int 20)) (eVar 5)) aNil))) (aCons (eVar 1) (aCons (eVar 2) (aCons (eVar 3) aNil))))) [5]) aNil)))
      sNil)
abbrev d__law_rows : FnD := ⟨5, 6, false, b__law_rows⟩
theorem sc__law_rows : FnScope N__law_rows ["_law_cell_here", "_law_words_here", "_law_heads", "_law_deep", "_law_many"] (defScope s__law_rows) := ⟨rfl, rfl, rfl, by decide +kernel, rfl, by decide +kernel, by decide +kernel⟩
theorem ok__law_rows {P : Program} {w : World} {K : PySem.W.Frag} {mg : Str → Option Value} {base : Heap} {f : Addr} {fd : FuncData} {n : Nat} {T : Tbl} {C : Nat → Addr} (F : Fun K "_law_rows" "_law_rows" s__law_rows f fd) (hB : ∀ x ∈ bs, mg x = none) (hC : ∀ p ∈ cs, ∃ u, mg p.1 = some u ∧ RelV (.int p.2) u)
    (hX : ∀ p ∈ pr.xs, ExF K mg p.1 (C p.2)) (hF : FnAt P w K mg base C pr T n) : FnOk P w K mg base (L2N.CX P w) (n + 3) f fd ["_law_cell_here", "_law_words_here", "_law_heads", "_law_deep", "_law_many"] (spI P w K C (pr.fr 11) (callI d__law_rows T)) :=
  fn_ok F sc__law_rows rfl rfl fun cdv A outer s H E hr => by
    have c : Cok (cxOf (L2N.CX P w) P w K mg base N__law_rows "_law_rows" (defScope s__law_rows) f cdv A outer s H E) ⟨C, E⟩ pr T n bs cs := ⟨rfl, sc__law_rows.nd, hr, hF, hB, hC, L2N.takes_of rfl rfl rfl rfl, L2.passes_of rfl, hX⟩
    show EvSs _ _ _ _ (b__law_rows T)
    unfold b__law_rows
    exact (evss_cons (evs_ret (Ev.weak (ev_callTy call_tuple_of cs_tuple (c.blt "tuple" (List.mem_of_getElem? (i := 7) rfl)) boot_tuple (eva_cons (ev_compC [("_law_k", 5)] c (evi_rng1 (ev_var 4) (c.blt "range" (List.mem_of_getElem? (i := 6) rfl))) (blkOk_by (own := [("_law_k", 5)]) (N := N__law_rows) (sc := defScope s__law_rows) (by decide +kernel)) (fun _ _ _ _ _ c => (evg_name c.nd)) (fun _ _ _ _ _ c => evts_nil) (fun _ _ _ _ _ c => (ev_call c i__law_row (eva_cons (ev_call c i__law_mixed (eva_cons (ev_var 0) (eva_cons (ev_op op_add4 os_add ev_int (ev_var 5)) eva_nil))) (eva_cons (ev_var 1) (eva_cons (ev_var 2) (eva_cons (ev_var 3) eva_nil))))))) eva_nil))))
      evss_nil)
abbrev s__law_work : Stmt := topS 17
abbrev N__law_work : List Str := ["_law_rows_here", "_law_works", "_law_found", "_law_row_here"]
def fb__law_work_0 (T : Tbl) : SM :=
      (sCons (sAug 2 vAddI (eC (.int 1)))
      (sCons (sIf (eBin (vEqF false) (eBin vIx (eVar 3) (eC (.int 0))) (eC (.str "call")))
      (sCons (sAug 2 vAddI (eBin vIx (eVar 1) (eBin vIx (eVar 3) (eC (.int 2)))))
      sNil)
      sNil)
      (sCons (sIf (eBin (vEqF false) (eBin vIx (eVar 3) (eC (.int 0))) (eC (.str "when")))
      (sCons (sAug 2 vAddI (eApp (T i__law_work) (aCons (eBin vIx (eVar 3) (eC (.int 2))) (aCons (eVar 1) aNil))))
      sNil)
      sNil)
      (sCons (sIf (eBin (vEqF false) (eBin vIx (eVar 3) (eC (.int 0))) (eC (.str "again")))
      (sCons (sAug 2 vAddI (eBin vMul (eApp vMax (aCons (eC (.int 1)) (aCons (eBin vIx (eVar 3) (eC (.int 1))) aNil))) (eApp (T i__law_work) (aCons (eBin vIx (eVar 3) (eC (.int 2))) (aCons (eVar 1) aNil)))))
      sNil)
      sNil)
      sNil))))
def b__law_work (T : Tbl) : SM :=
      (sCons (sSet 2 (eC (.int 0)))
      (sCons (sFor (iSeq (eVar 0)) (gName 3) (fb__law_work_0 T))
      (sCons (sRet (eVar 2))
      sNil)))
def q__law_work_0 (T : Tbl) : SM :=
      (sSet 2 (eC (.int 0)))
def q__law_work_1 (T : Tbl) : SM :=
      (sFor (iSeq (eVar 0)) (gName 3) (fb__law_work_0 T))
def q__law_work_2 (T : Tbl) : SM :=
      (sRet (eVar 2))
theorem b__law_work_q (T : Tbl) : b__law_work T = (sCons (q__law_work_0 T) (sCons (q__law_work_1 T) (sCons (q__law_work_2 T) sNil))) := rfl
abbrev d__law_work : FnD := ⟨2, 4, false, b__law_work⟩
theorem sc__law_work : FnScope N__law_work ["_law_rows_here", "_law_works"] (defScope s__law_work) := ⟨rfl, rfl, rfl, by decide +kernel, rfl, by decide +kernel, by decide +kernel⟩
theorem ok__law_work {P : Program} {w : World} {K : PySem.W.Frag} {mg : Str → Option Value} {base : Heap} {f : Addr} {fd : FuncData} {n : Nat} {T : Tbl} {C : Nat → Addr} (F : Fun K "_law_work" "_law_work" s__law_work f fd) (hB : ∀ x ∈ bs, mg x = none) (hC : ∀ p ∈ cs, ∃ u, mg p.1 = some u ∧ RelV (.int p.2) u)
    (hX : ∀ p ∈ pr.xs, ExF K mg p.1 (C p.2)) (hF : FnAt P w K mg base C pr T n) : FnOk P w K mg base (L2N.CX P w) (n + 3) f fd ["_law_rows_here", "_law_works"] (spI P w K C (pr.fr 12) (callI d__law_work T)) :=
  fn_ok F sc__law_work rfl rfl fun cdv A outer s H E hr => by
    have c : Cok (cxOf (L2N.CX P w) P w K mg base N__law_work "_law_work" (defScope s__law_work) f cdv A outer s H E) ⟨C, E⟩ pr T n bs cs := ⟨rfl, sc__law_work.nd, hr, hF, hB, hC, L2N.takes_of rfl rfl rfl rfl, L2.passes_of rfl, hX⟩
    show EvSs _ _ _ _ (b__law_work T)
    unfold b__law_work fb__law_work_0
    exact (evss_cons (evs_set c.nd ev_int)
      (evss_cons (evs_for (vs := [3]) c.po c.calm (evi_seq (ev_var 0)) (evg_name c.nd)
      (evss_cons (evs_augI (i := 2) c.nd ev_int)
      (evss_cons (evs_if (evt_cmp (op_eq3 c.u) (OpSem.weak os_eq) (ev_ix (ix_4 c.u) os_ix (ev_var 3) ev_int) ev_str)
      (evss_cons (evs_augI (i := 2) c.nd (ev_ix (ix_4 c.u) os_ix (ev_var 1) (ev_ix (ix_4 c.u) os_ix (ev_var 3) ev_int)))
      evss_nil)
      evss_nil)
      (evss_cons (evs_if (evt_cmp (op_eq3 c.u) (OpSem.weak os_eq) (ev_ix (ix_4 c.u) os_ix (ev_var 3) ev_int) ev_str)
      (evss_cons (evs_augI (i := 2) c.nd (ev_call c i__law_work (eva_cons (ev_ix (ix_4 c.u) os_ix (ev_var 3) ev_int) (eva_cons (ev_var 1) eva_nil))))
      evss_nil)
      evss_nil)
      (evss_cons (evs_if (evt_cmp (op_eq3 c.u) (OpSem.weak os_eq) (ev_ix (ix_4 c.u) os_ix (ev_var 3) ev_int) ev_str)
      (evss_cons (evs_augI (i := 2) c.nd (ev_op op_mul2 os_mul (ev_callB (call_max2 c.calm) cs_max (c.blt "max" (List.mem_of_getElem? (i := 5) rfl)) PyProof.Rows.boot_max (eva_cons ev_int (eva_cons (ev_ix (ix_4 c.u) os_ix (ev_var 3) ev_int) eva_nil))) (ev_call c i__law_work (eva_cons (ev_ix (ix_4 c.u) os_ix (ev_var 3) ev_int) (eva_cons (ev_var 1) eva_nil)))))
      evss_nil)
      evss_nil)
      evss_nil)))))
      (evss_cons (evs_ret (Ev.weak (ev_var 2)))
      evss_nil)))
abbrev s__law_bounded : Stmt := topS 18
abbrev N__law_bounded : List Str := ["_law_cell_here", "_law_name", "_law_words_here", "_law_heads", "_law_works", "_law_function_here"]
def b__law_bounded (T : Tbl) : SM :=
      (sCons (sSet 5 (eApp (T i__law_function) (aCons (eVar 0) (aCons (eVar 1) (aCons (eVar 2) (aCons (eVar 3) aNil))))))
      (sCons (sIf (eBin vGt (eApp (T i__law_work) (aCons (eBin vIx (eVar 5) (eC (.int 2))) (aCons (eVar 4) aNil))) (eC (.int 500)))
      (sCons (sSet 5 (eApp (T i__law_function) (aCons (eVar 0) (aCons (eVar 1) (aCons (eVar 2) (aCons (eLst aNil) aNil))))))
      sNil)
      sNil)
      (sCons (sIf (eBin vGt (eApp (T i__law_work) (aCons (eBin vIx (eVar 5) (eC (.int 2))) (aCons (eVar 4) aNil))) (eC (.int 500)))
      (sCons (sSet 5 (eBin vAdd (eBin vAdd (eSl (eVar 5) oNone (oSome (eC (.int 2)))) (eTup (aCons (eSl (eBin vIx (eVar 5) (eC (.int 2))) oNone (oSome (eC (.int 2)))) aNil))) (eSl (eVar 5) (oSome (eC (.int 3))) oNone)))
      sNil)
      sNil)
      (sCons (sPut (eVar 4) (eVar 1) (eApp (T i__law_work) (aCons (eBin vIx (eVar 5) (eC (.int 2))) (aCons (eVar 4) aNil))))
      (sCons (sRet (eVar 5))
      sNil)))))
def q__law_bounded_0 (T : Tbl) : SM :=
      (sSet 5 (eApp (T i__law_function) (aCons (eVar 0) (aCons (eVar 1) (aCons (eVar 2) (aCons (eVar 3) aNil))))))
def q__law_bounded_1 (T : Tbl) : SM :=
      (sIf (eBin vGt (eApp (T i__law_work) (aCons (eBin vIx (eVar 5) (eC (.int 2))) (aCons (eVar 4) aNil))) (eC (.int 500)))
      (sCons (sSet 5 (eApp (T i__law_function) (aCons (eVar 0) (aCons (eVar 1) (aCons (eVar 2) (aCons (eLst aNil) aNil))))))
      sNil)
      sNil)
def q__law_bounded_2 (T : Tbl) : SM :=
      (sIf (eBin vGt (eApp (T i__law_work) (aCons (eBin vIx (eVar 5) (eC (.int 2))) (aCons (eVar 4) aNil))) (eC (.int 500)))
      (sCons (sSet 5 (eBin vAdd (eBin vAdd (eSl (eVar 5) oNone (oSome (eC (.int 2)))) (eTup (aCons (eSl (eBin vIx (eVar 5) (eC (.int 2))) oNone (oSome (eC (.int 2)))) aNil))) (eSl (eVar 5) (oSome (eC (.int 3))) oNone)))
      sNil)
      sNil)
def q__law_bounded_3 (T : Tbl) : SM :=
      (sPut (eVar 4) (eVar 1) (eApp (T i__law_work) (aCons (eBin vIx (eVar 5) (eC (.int 2))) (aCons (eVar 4) aNil))))
def q__law_bounded_4 (T : Tbl) : SM :=
      (sRet (eVar 5))
theorem b__law_bounded_q (T : Tbl) : b__law_bounded T = (sCons (q__law_bounded_0 T) (sCons (q__law_bounded_1 T) (sCons (q__law_bounded_2 T) (sCons (q__law_bounded_3 T) (sCons (q__law_bounded_4 T) sNil))))) := rfl
abbrev d__law_bounded : FnD := ⟨5, 6, false, b__law_bounded⟩
theorem sc__law_bounded : FnScope N__law_bounded ["_law_cell_here", "_law_name", "_law_words_here", "_law_heads", "_law_works"] (defScope s__law_bounded) := ⟨rfl, rfl, rfl, by decide +kernel, rfl, by decide +kernel, by decide +kernel⟩
theorem ok__law_bounded {P : Program} {w : World} {K : PySem.W.Frag} {mg : Str → Option Value} {base : Heap} {f : Addr} {fd : FuncData} {n : Nat} {T : Tbl} {C : Nat → Addr} (F : Fun K "_law_bounded" "_law_bounded" s__law_bounded f fd) (hB : ∀ x ∈ bs, mg x = none) (hC : ∀ p ∈ cs, ∃ u, mg p.1 = some u ∧ RelV (.int p.2) u)
    (hX : ∀ p ∈ pr.xs, ExF K mg p.1 (C p.2)) (hF : FnAt P w K mg base C pr T n) : FnOk P w K mg base (L2N.CX P w) (n + 3) f fd ["_law_cell_here", "_law_name", "_law_words_here", "_law_heads", "_law_works"] (spI P w K C (pr.fr 13) (callI d__law_bounded T)) :=
  fn_ok F sc__law_bounded rfl rfl fun cdv A outer s H E hr => by
    have c : Cok (cxOf (L2N.CX P w) P w K mg base N__law_bounded "_law_bounded" (defScope s__law_bounded) f cdv A outer s H E) ⟨C, E⟩ pr T n bs cs := ⟨rfl, sc__law_bounded.nd, hr, hF, hB, hC, L2N.takes_of rfl rfl rfl rfl, L2.passes_of rfl, hX⟩
    show EvSs _ _ _ _ (b__law_bounded T)
    unfold b__law_bounded
    exact (evss_cons (evs_set c.nd (ev_call c i__law_function (eva_cons (ev_var 0) (eva_cons (ev_var 1) (eva_cons (ev_var 2) (eva_cons (ev_var 3) eva_nil))))))
      (evss_cons (evs_if (evt_cmp op_gt (OpSem.weak os_cmp) (ev_call c i__law_work (eva_cons (ev_ix (ix_4 c.u) os_ix (ev_var 5) ev_int) (eva_cons (ev_var 4) eva_nil))) ev_int)
      (evss_cons (evs_set c.nd (ev_call c i__law_function (eva_cons (ev_var 0) (eva_cons (ev_var 1) (eva_cons (ev_var 2) (eva_cons (ev_lst eva_nil) eva_nil))))))
      evss_nil)
      evss_nil)
      (evss_cons (evs_if (evt_cmp op_gt (OpSem.weak os_cmp) (ev_call c i__law_work (eva_cons (ev_ix (ix_4 c.u) os_ix (ev_var 5) ev_int) (eva_cons (ev_var 4) eva_nil))) ev_int)
      (evss_cons (evs_set c.nd (ev_op op_add4 os_add (ev_op op_add4 os_add (ev_sl (ev_var 5) evo_none (evo_some ev_int)) (ev_tup (eva_cons (ev_sl (ev_ix (ix_4 c.u) os_ix (ev_var 5) ev_int) evo_none (evo_some ev_int)) eva_nil))) (ev_sl (ev_var 5) (evo_some ev_int) evo_none)))
      evss_nil)
      evss_nil)
      (evss_cons (evs_put c.u (ev_var 4) (ev_var 1) (ev_call c i__law_work (eva_cons (ev_ix (ix_4 c.u) os_ix (ev_var 5) ev_int) (eva_cons (ev_var 4) eva_nil))))
      (evss_cons (evs_ret (Ev.weak (ev_var 5)))
      evss_nil)))))
abbrev s__law_looped : Stmt := topS 19
abbrev N__law_looped : List Str := ["_law_program_here", "_law_cell_here", "_law_name", "_law_names_here", "_law_rows_here", "_law_result", "_law_k"]
def fb__law_looped_0 (T : Tbl) : SM :=
      (sCons (sSet 4 (eTup (aCons (eTup (aCons (eC (.str "when")) (aCons (eTup (aCons (eC (.str "num")) (aCons (eBin vAdd (eC (.int 1)) (eVar 6)) aNil))) (aCons (eVar 4) aNil)))) aNil)))
      sNil)
def b__law_looped (T : Tbl) : SM :=
      (sCons (sIf (eOr (eBin (vEqF false) (eBin vMod (eVar 1) (eC (.int 2))) (eC (.int 0))) (eBin (vEqF false) (eBin vIx (eBin vIx (eVar 0) (eUn vNeg (eC (.int 1)))) (eC (.int 2))) (eTup aNil)))
      (sCons (sRet (eVar 0))
      sNil)
      sNil)
      (sCons (sAsg (gTup 4 (gsCons (gName 2) (gsCons (gName 3) (gsCons (gName 4) (gsCons (gName 5) gsNil))))) (eBin vIx (eVar 0) (eUn vNeg (eC (.int 1)))))
      (sCons (sIf (eBin (vEqF false) (eBin vMod (eBin vFdv (eVar 1) (eC (.int 4))) (eC (.int 4))) (eC (.int 1)))
      (sCons (sFor (iRng1' (eC (.int 6))) (gName 6) (fb__law_looped_0 T))
      sNil)
      sNil)
      (sCons (sRet (eBin vAdd (eSl (eVar 0) oNone (oSome (eUn vNeg (eC (.int 1))))) (eTup (aCons (eTup (aCons (eVar 2) (aCons (eVar 3) (aCons (eTup (aCons (eTup (aCons (eC (.str "again")) (aCons (eBin vAdd (eC (.int 2)) (eBin vMod (eBin vFdv (eVar 1) (eC (.int 2))) (eC (.int 2)))) (aCons (eVar 4) aNil)))) aNil)) (aCons (eVar 5) aNil))))) aNil))))
      sNil))))
def q__law_looped_0 (T : Tbl) : SM :=
      (sIf (eOr (eBin (vEqF false) (eBin vMod (eVar 1) (eC (.int 2))) (eC (.int 0))) (eBin (vEqF false) (eBin vIx (eBin vIx (eVar 0) (eUn vNeg (eC (.int 1)))) (eC (.int 2))) (eTup aNil)))
      (sCons (sRet (eVar 0))
      sNil)
      sNil)
def q__law_looped_1 (T : Tbl) : SM :=
      (sAsg (gTup 4 (gsCons (gName 2) (gsCons (gName 3) (gsCons (gName 4) (gsCons (gName 5) gsNil))))) (eBin vIx (eVar 0) (eUn vNeg (eC (.int 1)))))
def q__law_looped_2 (T : Tbl) : SM :=
      (sIf (eBin (vEqF false) (eBin vMod (eBin vFdv (eVar 1) (eC (.int 4))) (eC (.int 4))) (eC (.int 1)))
      (sCons (sFor (iRng1' (eC (.int 6))) (gName 6) (fb__law_looped_0 T))
      sNil)
      sNil)
def q__law_looped_3 (T : Tbl) : SM :=
      (sRet (eBin vAdd (eSl (eVar 0) oNone (oSome (eUn vNeg (eC (.int 1))))) (eTup (aCons (eTup (aCons (eVar 2) (aCons (eVar 3) (aCons (eTup (aCons (eTup (aCons (eC (.str "again")) (aCons (eBin vAdd (eC (.int 2)) (eBin vMod (eBin vFdv (eVar 1) (eC (.int 2))) (eC (.int 2)))) (aCons (eVar 4) aNil)))) aNil)) (aCons (eVar 5) aNil))))) aNil))))
theorem b__law_looped_q (T : Tbl) : b__law_looped T = (sCons (q__law_looped_0 T) (sCons (q__law_looped_1 T) (sCons (q__law_looped_2 T) (sCons (q__law_looped_3 T) sNil)))) := rfl
abbrev d__law_looped : FnD := ⟨2, 7, false, b__law_looped⟩
theorem sc__law_looped : FnScope N__law_looped ["_law_program_here", "_law_cell_here"] (defScope s__law_looped) := ⟨rfl, rfl, rfl, by decide +kernel, rfl, by decide +kernel, by decide +kernel⟩
theorem ok__law_looped {P : Program} {w : World} {K : PySem.W.Frag} {mg : Str → Option Value} {base : Heap} {f : Addr} {fd : FuncData} {n : Nat} {T : Tbl} {C : Nat → Addr} (F : Fun K "_law_looped" "_law_looped" s__law_looped f fd) (hB : ∀ x ∈ bs, mg x = none) (hC : ∀ p ∈ cs, ∃ u, mg p.1 = some u ∧ RelV (.int p.2) u)
    (hX : ∀ p ∈ pr.xs, ExF K mg p.1 (C p.2)) (hF : FnAt P w K mg base C pr T n) : FnOk P w K mg base (L2N.CX P w) (n + 3) f fd ["_law_program_here", "_law_cell_here"] (spI P w K C (pr.fr 14) (callI d__law_looped T)) :=
  fn_ok F sc__law_looped rfl rfl fun cdv A outer s H E hr => by
    have c : Cok (cxOf (L2N.CX P w) P w K mg base N__law_looped "_law_looped" (defScope s__law_looped) f cdv A outer s H E) ⟨C, E⟩ pr T n bs cs := ⟨rfl, sc__law_looped.nd, hr, hF, hB, hC, L2N.takes_of rfl rfl rfl rfl, L2.passes_of rfl, hX⟩
    show EvSs _ _ _ _ (b__law_looped T)
    unfold b__law_looped fb__law_looped_0
    exact (evss_cons (evs_if (evw_pt (evw_or (evt_cmp (op_eq3 c.u) (OpSem.weak os_eq) (ev_op op_mod os_mod (ev_var 1) ev_int) ev_int) (evw_or1 (evt_cmp (op_eq3 c.u) (OpSem.weak os_eq) (ev_ix (ix_4 c.u) os_ix (ev_ix (ix_4 c.u) os_ix (ev_var 0) (ev_un un_neg us_neg ev_int)) ev_int) (ev_tup eva_nil)))))
      (evss_cons (evs_ret (Ev.weak (ev_var 0)))
      evss_nil)
      evss_nil)
      (evss_cons (evs_asg (vs := [2, 3, 4, 5]) (ev_ix (ix_4 c.u) os_ix (ev_var 0) (ev_un un_neg us_neg ev_int)) (evg_tup c.calm (evgs_cons (evg_name c.nd) (evgs_cons (evg_name c.nd) (evgs_cons (evg_name c.nd) (evgs_cons (evg_name c.nd) evgs_nil))))))
      (evss_cons (evs_if (evt_cmp (op_eq3 c.u) (OpSem.weak os_eq) (ev_op op_mod os_mod (ev_op op_fdivW os_fdv (ev_var 1) ev_int) ev_int) ev_int)
      (evss_cons (evs_for (vs := [6]) c.po c.calm (evi_rng1 ev_int (c.blt "range" (List.mem_of_getElem? (i := 6) rfl))) (evg_name c.nd)
      (evss_cons (evs_set c.nd (ev_tup (eva_cons (ev_tup (eva_cons ev_str (eva_cons (ev_tup (eva_cons ev_str (eva_cons (ev_op op_add4 os_add ev_int (ev_var 6)) eva_nil))) (eva_cons (ev_var 4) eva_nil)))) eva_nil)))
      evss_nil))
      evss_nil)
      evss_nil)
      (evss_cons (evs_ret (Ev.weak (ev_op op_add4 os_add (ev_sl (ev_var 0) evo_none (evo_some (ev_un un_neg us_neg ev_int))) (ev_tup (eva_cons (ev_tup (eva_cons (ev_var 2) (eva_cons (ev_var 3) (eva_cons (ev_tup (eva_cons (ev_tup (eva_cons ev_str (eva_cons (ev_op op_add4 os_add ev_int (ev_op op_mod os_mod (ev_op op_fdivW os_fdv (ev_var 1) ev_int) ev_int)) (eva_cons (ev_var 4) eva_nil)))) eva_nil)) (eva_cons (ev_var 5) eva_nil))))) eva_nil)))))
      evss_nil))))
abbrev s__law_function : Stmt := topS 20
abbrev N__law_function : List Str := ["_law_cell_here", "_law_name", "_law_words_here", "_law_heads", "_law_first", "_law_names_here", "_law_many", "_law_rows_here", "_law_k"]
def b__law_function (T : Tbl) : SM :=
      (sCons (sSet 4 (eBin vMod (eBin vFdv (eVar 0) (eC (.int 6))) (eApp vLen (aCons (eVar 2) aNil))))
      (sCons (sSet 5 (eApp vTuple (aCons (eComp (iRng1' (eBin vIx (eLst (aCons (eC (.int 0)) (aCons (eC (.int 1)) (aCons (eC (.int 2)) (aCons (eC (.int 2)) (aCons (eC (.int 3)) (aCons (eC (.int 4)) aNil))))))) (eBin vMod (eVar 0) (eC (.int 6))))) (gName 8) tTrue (eBin vIx (eVar 2) (eBin vMod (eBin vAdd (eVar 4) (eBin vMul (eC (.int 2)) (eVar 8))) (eApp vLen (aCons (eVar 2) aNil)))) [8]) aNil)))
      (sCons (sSet 6 (eBin vIx (eLst (aCons (eC (.int 3)) (aCons (eC (.int 4)) (aCons (eC (.int 2)) (aCons (eC (.int 5)) (aCons (eC (.int 0)) (aCons (eC (.int 6)) aNil))))))) (eBin vMod (eBin vFdv (eVar 0) (eC (.int 30))) (eC (.int 6)))))
      (sCons (sIf (eBin (vEqF false) (eBin vMod (eBin vFdv (eVar 0) (eC (.int 180))) (eC (.int 12))) (eC (.int 1)))
      (sCons (sSet 6 (eBin vMod (eBin vFdv (eVar 0) (eC (.int 2160))) (eC (.int 30))))
      sNil)
      sNil)
      (sCons (sIf (eBin vGt (eVar 6) (eC (.int 6)))
      (sCons (sSet 3 (eLst aNil))
      sNil)
      sNil)
      (sCons (sSet 7 (eApp (T i__law_rows) (aCons (eApp (T i__law_mixed) (aCons (eVar 0) (aCons (eC (.int 5)) aNil))) (aCons (eVar 2) (aCons (eVar 3) (aCons (eBin vSub (eC (.int 2)) (eApp vInt (aCons (eBin vGt (eVar 6) (eC (.int 6))) aNil))) (aCons (eVar 6) aNil)))))))
      (sCons (sRet (eTup (aCons (eVar 1) (aCons (eVar 5) (aCons (eVar 7) (aCons (eApp (T i__law_term) (aCons (eApp (T i__law_mixed) (aCons (eVar 0) (aCons (eC (.int 6)) aNil))) (aCons (eVar 2) (aCons (eC (.int 1)) aNil)))) aNil))))))
      sNil)))))))
abbrev d__law_function : FnD := ⟨4, 9, false, b__law_function⟩
theorem sc__law_function : FnScope N__law_function ["_law_cell_here", "_law_name", "_law_words_here", "_law_heads"] (defScope s__law_function) := ⟨rfl, rfl, rfl, by decide +kernel, rfl, by decide +kernel, by decide +kernel⟩
theorem ok__law_function {P : Program} {w : World} {K : PySem.W.Frag} {mg : Str → Option Value} {base : Heap} {f : Addr} {fd : FuncData} {n : Nat} {T : Tbl} {C : Nat → Addr} (F : Fun K "_law_function" "_law_function" s__law_function f fd) (hB : ∀ x ∈ bs, mg x = none) (hC : ∀ p ∈ cs, ∃ u, mg p.1 = some u ∧ RelV (.int p.2) u)
    (hX : ∀ p ∈ pr.xs, ExF K mg p.1 (C p.2)) (hF : FnAt P w K mg base C pr T n) : FnOk P w K mg base (L2N.CX P w) (n + 3) f fd ["_law_cell_here", "_law_name", "_law_words_here", "_law_heads"] (spI P w K C (pr.fr 15) (callI d__law_function T)) :=
  fn_ok F sc__law_function rfl rfl fun cdv A outer s H E hr => by
    have c : Cok (cxOf (L2N.CX P w) P w K mg base N__law_function "_law_function" (defScope s__law_function) f cdv A outer s H E) ⟨C, E⟩ pr T n bs cs := ⟨rfl, sc__law_function.nd, hr, hF, hB, hC, L2N.takes_of rfl rfl rfl rfl, L2.passes_of rfl, hX⟩
    show EvSs _ _ _ _ (b__law_function T)
    unfold b__law_function
    exact (evss_cons (evs_set c.nd (ev_op op_mod os_mod (ev_op op_fdivW os_fdv (ev_var 0) ev_int) (ev_callB call_len2 cs_len (c.blt "len" (List.mem_of_getElem? (i := 3) rfl)) PySem.boot_len (eva_cons (ev_var 2) eva_nil))))
      (evss_cons (evs_set c.nd (ev_callTy call_tuple_of cs_tuple (c.blt "tuple" (List.mem_of_getElem? (i := 7) rfl)) boot_tuple (eva_cons (ev_compC [("_law_k", 8)] c (evi_rng1 (ev_ix (ix_4 c.u) os_ix (ev_lst (eva_cons ev_int (eva_cons ev_int (eva_cons ev_int (eva_cons ev_int (eva_cons ev_int (eva_cons ev_int eva_nil))))))) (ev_op op_mod os_mod (ev_var 0) ev_int)) (c.blt "range" (List.mem_of_getElem? (i := 6) rfl))) (blkOk_by (own := [("_law_k", 8)]) (N := N__law_function) (sc := defScope s__law_function) (by decide +kernel)) (fun _ _ _ _ _ c => (evg_name c.nd)) (fun _ _ _ _ _ c => evts_nil) (fun _ _ _ _ _ c => (ev_ix (ix_4 c.u) os_ix (ev_var 2) (ev_op op_mod os_mod (ev_op op_add4 os_add (ev_var 4) (ev_op op_mul2 os_mul ev_int (ev_var 8))) (ev_callB call_len2 cs_len (c.blt "len" (List.mem_of_getElem? (i := 3) rfl)) PySem.boot_len (eva_cons (ev_var 2) eva_nil)))))) eva_nil)))
      (evss_cons (evs_set c.nd (ev_ix (ix_4 c.u) os_ix (ev_lst (eva_cons ev_int (eva_cons ev_int (eva_cons ev_int (eva_cons ev_int (eva_cons ev_int (eva_cons ev_int eva_nil))))))) (ev_op op_mod os_mod (ev_op op_fdivW os_fdv (ev_var 0) ev_int) ev_int)))
      (evss_cons (evs_if (evt_cmp (op_eq3 c.u) (OpSem.weak os_eq) (ev_op op_mod os_mod (ev_op op_fdivW os_fdv (ev_var 0) ev_int) ev_int) ev_int)
      (evss_cons (evs_set c.nd (ev_op op_mod os_mod (ev_op op_fdivW os_fdv (ev_var 0) ev_int) ev_int))
      evss_nil)
      evss_nil)
      (evss_cons (evs_if (evt_cmp op_gt (OpSem.weak os_cmp) (ev_var 6) ev_int)
      (evss_cons (evs_set c.nd (ev_lst eva_nil))
      evss_nil)
      evss_nil)
      (evss_cons (evs_set c.nd (ev_call c i__law_rows (eva_cons (ev_call c i__law_mixed (eva_cons (ev_var 0) (eva_cons ev_int eva_nil))) (eva_cons (ev_var 2) (eva_cons (ev_var 3) (eva_cons (ev_op op_sub os_sub ev_int (ev_callTy call_int1 cs_int (c.blt "int" (List.mem_of_getElem? (i := 1) rfl)) boot_int (eva_cons (ev_cmp op_gt os_cmp (ev_var 6) ev_int) eva_nil))) (eva_cons (ev_var 6) eva_nil)))))))
      (evss_cons (evs_ret (Ev.weak (ev_tup (eva_cons (ev_var 1) (eva_cons (ev_var 5) (eva_cons (ev_var 7) (eva_cons (ev_call c i__law_term (eva_cons (ev_call c i__law_mixed (eva_cons (ev_var 0) (eva_cons ev_int eva_nil))) (eva_cons (ev_var 2) (eva_cons ev_int eva_nil)))) eva_nil)))))))
      evss_nil)))))))
abbrev s__law_variables : Stmt := topS 21
abbrev N__law_variables : List Str := ["_law_script", "_law_at"]
def b__law_variables (T : Tbl) : SM :=
      (sCons (sRet (eApp (T i__law_words) (aCons (eApp (T i__law_cell) (aCons (eVar 0) (aCons (eVar 1) aNil))) (aCons (eBin vAdd (eC (.int 5)) (eBin vMul (eC (.int 2)) (eApp vInt (aCons (eBin (vEqF false) (eBin vMod (eBin vFdv (eApp (T i__law_cell) (aCons (eVar 0) (aCons (eBin vAdd (eVar 1) (eC (.int 2))) aNil))) (eC (.int 512))) (eC (.int 8))) (eC (.int 1))) aNil)))) aNil))))
      sNil)
abbrev d__law_variables : FnD := ⟨2, 2, false, b__law_variables⟩
theorem sc__law_variables : FnScope N__law_variables ["_law_script", "_law_at"] (defScope s__law_variables) := ⟨rfl, rfl, rfl, by decide +kernel, rfl, by decide +kernel, by decide +kernel⟩
theorem ok__law_variables {P : Program} {w : World} {K : PySem.W.Frag} {mg : Str → Option Value} {base : Heap} {f : Addr} {fd : FuncData} {n : Nat} {T : Tbl} {C : Nat → Addr} (F : Fun K "_law_variables" "_law_variables" s__law_variables f fd) (hB : ∀ x ∈ bs, mg x = none) (hC : ∀ p ∈ cs, ∃ u, mg p.1 = some u ∧ RelV (.int p.2) u)
    (hX : ∀ p ∈ pr.xs, ExF K mg p.1 (C p.2)) (hF : FnAt P w K mg base C pr T n) : FnOk P w K mg base (L2N.CX P w) (n + 3) f fd ["_law_script", "_law_at"] (spI P w K C (pr.fr 16) (callI d__law_variables T)) :=
  fn_ok F sc__law_variables rfl rfl fun cdv A outer s H E hr => by
    have c : Cok (cxOf (L2N.CX P w) P w K mg base N__law_variables "_law_variables" (defScope s__law_variables) f cdv A outer s H E) ⟨C, E⟩ pr T n bs cs := ⟨rfl, sc__law_variables.nd, hr, hF, hB, hC, L2N.takes_of rfl rfl rfl rfl, L2.passes_of rfl, hX⟩
    show EvSs _ _ _ _ (b__law_variables T)
    unfold b__law_variables
    exact (evss_cons (evs_ret (Ev.weak (ev_call c i__law_words (eva_cons (ev_call c i__law_cell (eva_cons (ev_var 0) (eva_cons (ev_var 1) eva_nil))) (eva_cons (ev_op op_add4 os_add ev_int (ev_op op_mul2 os_mul ev_int (ev_callTy call_int1 cs_int (c.blt "int" (List.mem_of_getElem? (i := 1) rfl)) boot_int (eva_cons (ev_cmp (op_eq3 c.u) os_eq (ev_op op_mod os_mod (ev_op op_fdivW os_fdv (ev_call c i__law_cell (eva_cons (ev_var 0) (eva_cons (ev_op op_add4 os_add (ev_var 1) ev_int) eva_nil))) ev_int) ev_int) ev_int) eva_nil)))) eva_nil)))))
      evss_nil)
abbrev s__law_program : Stmt := topS 22
abbrev N__law_program : List Str := ["_law_script", "_law_at", "_law_words_here", "_law_names_here", "_law_program_here", "_law_works", "_law_count", "_law_k", "_law_function_here"]
def fb__law_program_0 (T : Tbl) : SM :=
      (sCons (sSet 8 (eApp (T i__law_bounded) (aCons (eApp (T i__law_cell) (aCons (eVar 0) (aCons (eBin vAdd (eBin vAdd (eVar 1) (eC (.int 3))) (eVar 7)) aNil))) (aCons (eBin vIx (eVar 3) (eVar 7)) (aCons (eVar 2) (aCons (eApp vListA (aCons (eSl (eVar 4) oNone (oSome (eC (.int 3)))) aNil)) (aCons (eVar 5) aNil)))))))
      (sCons (sIf (eAnd (eBin (vEqF false) (eVar 7) (eC (.int 0))) (eBin (vEqF false) (eBin vMod (eBin vFdv (eApp (T i__law_cell) (aCons (eVar 0) (aCons (eBin vAdd (eVar 1) (eC (.int 2))) aNil))) (eC (.int 4096))) (eC (.int 8))) (eC (.int 1))))
      (sCons (sSet 8 (eTup (aCons (eBin vIx (eVar 3) (eC (.int 0))) (aCons (eTup aNil) (aCons (eTup aNil) (aCons (eBin vIx (eVar 8) (eC (.int 3))) aNil))))))
      (sCons (sPut (eVar 5) (eBin vIx (eVar 3) (eC (.int 0))) (eC (.int 0)))
      sNil))
      sNil)
      (sCons (sSet 4 (eBin vAdd (eVar 4) (eTup (aCons (eVar 8) aNil))))
      sNil)))
def b__law_program (T : Tbl) : SM :=
      (sCons (sSet 2 (eApp (T i__law_variables) (aCons (eVar 0) (aCons (eVar 1) aNil))))
      (sCons (sSet 3 (eApp (T i__law_words) (aCons (eApp (T i__law_cell) (aCons (eVar 0) (aCons (eBin vSub (eBin vAdd (eVar 1) (eC (.int 1))) (eApp vInt (aCons (eBin (vEqF false) (eBin vMod (eApp (T i__law_cell) (aCons (eVar 0) (aCons (eBin vAdd (eVar 1) (eC (.int 1))) aNil))) (eC (.int 8))) (eC (.int 3))) aNil))) aNil))) (aCons (eC (.int 8)) aNil))))
      (sCons (sSet 4 (eTup aNil))
      (sCons (sSet 5 (eBox (fun _ st => .ok (.dct [] []) st)))
      (sCons (sSet 6 (eBin vAdd (eC (.int 1)) (eBin vMod (eBin vAdd (eApp (T i__law_cell) (aCons (eVar 0) (aCons (eBin vAdd (eVar 1) (eC (.int 2))) aNil))) (eC (.int 2))) (eC (.int 4)))))
      (sCons (sIf (eBin (vEqF false) (eBin vMod (eBin vFdv (eApp (T i__law_cell) (aCons (eVar 0) (aCons (eBin vAdd (eVar 1) (eC (.int 2))) aNil))) (eC (.int 64))) (eC (.int 8))) (eC (.int 1)))
      (sCons (sSet 6 (eBin vAdd (eVar 6) (eC (.int 4))))
      sNil)
      sNil)
      (sCons (sFor (iRng1' (eVar 6)) (gName 7) (fb__law_program_0 T))
      (sCons (sRet (eApp (T i__law_looped) (aCons (eVar 4) (aCons (eBin vFdv (eApp (T i__law_cell) (aCons (eVar 0) (aCons (eBin vAdd (eVar 1) (eC (.int 2))) aNil))) (eC (.int 4))) aNil))))
      sNil))))))))
def q__law_program_0 (T : Tbl) : SM :=
      (sSet 2 (eApp (T i__law_variables) (aCons (eVar 0) (aCons (eVar 1) aNil))))
def q__law_program_1 (T : Tbl) : SM :=
      (sSet 3 (eApp (T i__law_words) (aCons (eApp (T i__law_cell) (aCons (eVar 0) (aCons (eBin vSub (eBin vAdd (eVar 1) (eC (.int 1))) (eApp vInt (aCons (eBin (vEqF false) (eBin vMod (eApp (T i__law_cell) (aCons (eVar 0) (aCons (eBin vAdd (eVar 1) (eC (.int 1))) aNil))) (eC (.int 8))) (eC (.int 3))) aNil))) aNil))) (aCons (eC (.int 8)) aNil))))
def q__law_program_2 (T : Tbl) : SM :=
      (sSet 4 (eTup aNil))
def q__law_program_3 (T : Tbl) : SM :=
      (sSet 5 (eBox (fun _ st => .ok (.dct [] []) st)))
def q__law_program_4 (T : Tbl) : SM :=
      (sSet 6 (eBin vAdd (eC (.int 1)) (eBin vMod (eBin vAdd (eApp (T i__law_cell) (aCons (eVar 0) (aCons (eBin vAdd (eVar 1) (eC (.int 2))) aNil))) (eC (.int 2))) (eC (.int 4)))))
def q__law_program_5 (T : Tbl) : SM :=
      (sIf (eBin (vEqF false) (eBin vMod (eBin vFdv (eApp (T i__law_cell) (aCons (eVar 0) (aCons (eBin vAdd (eVar 1) (eC (.int 2))) aNil))) (eC (.int 64))) (eC (.int 8))) (eC (.int 1)))
      (sCons (sSet 6 (eBin vAdd (eVar 6) (eC (.int 4))))
      sNil)
      sNil)
def q__law_program_6 (T : Tbl) : SM :=
      (sFor (iRng1' (eVar 6)) (gName 7) (fb__law_program_0 T))
def q__law_program_7 (T : Tbl) : SM :=
      (sRet (eApp (T i__law_looped) (aCons (eVar 4) (aCons (eBin vFdv (eApp (T i__law_cell) (aCons (eVar 0) (aCons (eBin vAdd (eVar 1) (eC (.int 2))) aNil))) (eC (.int 4))) aNil))))
theorem b__law_program_q (T : Tbl) : b__law_program T = (sCons (q__law_program_0 T) (sCons (q__law_program_1 T) (sCons (q__law_program_2 T) (sCons (q__law_program_3 T) (sCons (q__law_program_4 T) (sCons (q__law_program_5 T) (sCons (q__law_program_6 T) (sCons (q__law_program_7 T) sNil)))))))) := rfl
abbrev d__law_program : FnD := ⟨2, 9, false, b__law_program⟩
theorem sc__law_program : FnScope N__law_program ["_law_script", "_law_at"] (defScope s__law_program) := ⟨rfl, rfl, rfl, by decide +kernel, rfl, by decide +kernel, by decide +kernel⟩
theorem ok__law_program {P : Program} {w : World} {K : PySem.W.Frag} {mg : Str → Option Value} {base : Heap} {f : Addr} {fd : FuncData} {n : Nat} {T : Tbl} {C : Nat → Addr} (F : Fun K "_law_program" "_law_program" s__law_program f fd) (hB : ∀ x ∈ bs, mg x = none) (hC : ∀ p ∈ cs, ∃ u, mg p.1 = some u ∧ RelV (.int p.2) u)
    (hX : ∀ p ∈ pr.xs, ExF K mg p.1 (C p.2)) (hF : FnAt P w K mg base C pr T n) : FnOk P w K mg base (L2N.CX P w) (n + 3) f fd ["_law_script", "_law_at"] (spI P w K C (pr.fr 17) (callI d__law_program T)) :=
  fn_ok F sc__law_program rfl rfl fun cdv A outer s H E hr => by
    have c : Cok (cxOf (L2N.CX P w) P w K mg base N__law_program "_law_program" (defScope s__law_program) f cdv A outer s H E) ⟨C, E⟩ pr T n bs cs := ⟨rfl, sc__law_program.nd, hr, hF, hB, hC, L2N.takes_of rfl rfl rfl rfl, L2.passes_of rfl, hX⟩
    show EvSs _ _ _ _ (b__law_program T)
    unfold b__law_program fb__law_program_0
    exact (evss_cons (evs_set c.nd (ev_call c i__law_variables (eva_cons (ev_var 0) (eva_cons (ev_var 1) eva_nil))))
      (evss_cons (evs_set c.nd (ev_call c i__law_words (eva_cons (ev_call c i__law_cell (eva_cons (ev_var 0) (eva_cons (ev_op op_sub os_sub (ev_op op_add4 os_add (ev_var 1) ev_int) (ev_callTy call_int1 cs_int (c.blt "int" (List.mem_of_getElem? (i := 1) rfl)) boot_int (eva_cons (ev_cmp (op_eq3 c.u) os_eq (ev_op op_mod os_mod (ev_call c i__law_cell (eva_cons (ev_var 0) (eva_cons (ev_op op_add4 os_add (ev_var 1) ev_int) eva_nil))) ev_int) ev_int) eva_nil))) eva_nil))) (eva_cons ev_int eva_nil))))
      (evss_cons (evs_set c.nd (ev_tup eva_nil))
      (evss_cons (evs_set c.nd (ev_box ev_dnew))
      (evss_cons (evs_set c.nd (ev_op op_add4 os_add ev_int (ev_op op_mod os_mod (ev_op op_add4 os_add (ev_call c i__law_cell (eva_cons (ev_var 0) (eva_cons (ev_op op_add4 os_add (ev_var 1) ev_int) eva_nil))) ev_int) ev_int)))
      (evss_cons (evs_if (evt_cmp (op_eq3 c.u) (OpSem.weak os_eq) (ev_op op_mod os_mod (ev_op op_fdivW os_fdv (ev_call c i__law_cell (eva_cons (ev_var 0) (eva_cons (ev_op op_add4 os_add (ev_var 1) ev_int) eva_nil))) ev_int) ev_int) ev_int)
      (evss_cons (evs_set c.nd (ev_op op_add4 os_add (ev_var 6) ev_int))
      evss_nil)
      evss_nil)
      (evss_cons (evs_for (vs := [7]) c.po c.calm (evi_rng1 (ev_var 6) (c.blt "range" (List.mem_of_getElem? (i := 6) rfl))) (evg_name c.nd)
      (evss_cons (evs_set c.nd (ev_call c i__law_bounded (eva_cons (ev_call c i__law_cell (eva_cons (ev_var 0) (eva_cons (ev_op op_add4 os_add (ev_op op_add4 os_add (ev_var 1) ev_int) (ev_var 7)) eva_nil))) (eva_cons (ev_ix (ix_4 c.u) os_ix (ev_var 3) (ev_var 7)) (eva_cons (ev_var 2) (eva_cons (ev_callTy (call_listA c.calm) cs_listA (c.blt "list" (List.mem_of_getElem? (i := 4) rfl)) boot_list (eva_cons (ev_sl (ev_var 4) evo_none (evo_some ev_int)) eva_nil)) (eva_cons (ev_var 5) eva_nil)))))))
      (evss_cons (evs_if (evw_pt (evw_and (evt_cmp (op_eq3 c.u) (OpSem.weak os_eq) (ev_var 7) ev_int) (evw_and1 (evt_cmp (op_eq3 c.u) (OpSem.weak os_eq) (ev_op op_mod os_mod (ev_op op_fdivW os_fdv (ev_call c i__law_cell (eva_cons (ev_var 0) (eva_cons (ev_op op_add4 os_add (ev_var 1) ev_int) eva_nil))) ev_int) ev_int) ev_int))))
      (evss_cons (evs_set c.nd (ev_tup (eva_cons (ev_ix (ix_4 c.u) os_ix (ev_var 3) ev_int) (eva_cons (ev_tup eva_nil) (eva_cons (ev_tup eva_nil) (eva_cons (ev_ix (ix_4 c.u) os_ix (ev_var 8) ev_int) eva_nil))))))
      (evss_cons (evs_put c.u (ev_var 5) (ev_ix (ix_4 c.u) os_ix (ev_var 3) ev_int) ev_int)
      evss_nil))
      evss_nil)
      (evss_cons (evs_set c.nd (ev_op op_add4 os_add (ev_var 4) (ev_tup (eva_cons (ev_var 8) eva_nil))))
      evss_nil))))
      (evss_cons (evs_ret (Ev.weak (ev_call c i__law_looped (eva_cons (ev_var 4) (eva_cons (ev_op op_fdivW os_fdv (ev_call c i__law_cell (eva_cons (ev_var 0) (eva_cons (ev_op op_add4 os_add (ev_var 1) ev_int) eva_nil))) ev_int) eva_nil)))))
      evss_nil))))))))
abbrev s__law_worth : Stmt := topS 28
abbrev N__law_worth : List Str := ["_law_term_here", "_law_cells", "_law_one", "_law_other"]
def b__law_worth (T : Tbl) : SM :=
      (sCons (sIf (eBin (vEqF false) (eBin vIx (eVar 0) (eC (.int 0))) (eC (.str "num")))
      (sCons (sRet (eBin vIx (eVar 0) (eC (.int 1))))
      sNil)
      sNil)
      (sCons (sIf (eBin (vEqF false) (eBin vIx (eVar 0) (eC (.int 0))) (eC (.str "name")))
      (sCons (sRet (eGet (eVar 1) (eBin vIx (eVar 0) (eC (.int 1))) (eC (.int 0))))
      sNil)
      sNil)
      (sCons (sSet 2 (eApp (T i__law_worth) (aCons (eBin vIx (eVar 0) (eC (.int 1))) (aCons (eVar 1) aNil))))
      (sCons (sSet 3 (eApp (T i__law_worth) (aCons (eBin vIx (eVar 0) (eC (.int 2))) (aCons (eVar 1) aNil))))
      (sCons (sIf (eBin (vEqF false) (eBin vIx (eVar 0) (eC (.int 0))) (eC (.str "less")))
      (sCons (sSet 3 (eUn vNeg (eVar 3)))
      sNil)
      sNil)
      (sCons (sIf (eBin (vEqF false) (eBin vIx (eVar 0) (eC (.int 0))) (eC (.str "times")))
      (sCons (sRet (eBin vMod (eBin vMul (eVar 2) (eVar 3)) (eC (.int 1000003))))
      sNil)
      sNil)
      (sCons (sRet (eBin vMod (eBin vAdd (eVar 2) (eVar 3)) (eC (.int 1000003))))
      sNil)))))))
def q__law_worth_0 (T : Tbl) : SM :=
      (sIf (eBin (vEqF false) (eBin vIx (eVar 0) (eC (.int 0))) (eC (.str "num")))
      (sCons (sRet (eBin vIx (eVar 0) (eC (.int 1))))
      sNil)
      sNil)
def q__law_worth_1 (T : Tbl) : SM :=
      (sIf (eBin (vEqF false) (eBin vIx (eVar 0) (eC (.int 0))) (eC (.str "name")))
      (sCons (sRet (eGet (eVar 1) (eBin vIx (eVar 0) (eC (.int 1))) (eC (.int 0))))
      sNil)
      sNil)
def q__law_worth_2 (T : Tbl) : SM :=
      (sSet 2 (eApp (T i__law_worth) (aCons (eBin vIx (eVar 0) (eC (.int 1))) (aCons (eVar 1) aNil))))
def q__law_worth_3 (T : Tbl) : SM :=
      (sSet 3 (eApp (T i__law_worth) (aCons (eBin vIx (eVar 0) (eC (.int 2))) (aCons (eVar 1) aNil))))
def q__law_worth_4 (T : Tbl) : SM :=
      (sIf (eBin (vEqF false) (eBin vIx (eVar 0) (eC (.int 0))) (eC (.str "less")))
      (sCons (sSet 3 (eUn vNeg (eVar 3)))
      sNil)
      sNil)
def q__law_worth_5 (T : Tbl) : SM :=
      (sIf (eBin (vEqF false) (eBin vIx (eVar 0) (eC (.int 0))) (eC (.str "times")))
      (sCons (sRet (eBin vMod (eBin vMul (eVar 2) (eVar 3)) (eC (.int 1000003))))
      sNil)
      sNil)
def q__law_worth_6 (T : Tbl) : SM :=
      (sRet (eBin vMod (eBin vAdd (eVar 2) (eVar 3)) (eC (.int 1000003))))
theorem b__law_worth_q (T : Tbl) : b__law_worth T = (sCons (q__law_worth_0 T) (sCons (q__law_worth_1 T) (sCons (q__law_worth_2 T) (sCons (q__law_worth_3 T) (sCons (q__law_worth_4 T) (sCons (q__law_worth_5 T) (sCons (q__law_worth_6 T) sNil))))))) := rfl
abbrev d__law_worth : FnD := ⟨2, 4, false, b__law_worth⟩
theorem sc__law_worth : FnScope N__law_worth ["_law_term_here", "_law_cells"] (defScope s__law_worth) := ⟨rfl, rfl, rfl, by decide +kernel, rfl, by decide +kernel, by decide +kernel⟩
theorem ok__law_worth {P : Program} {w : World} {K : PySem.W.Frag} {mg : Str → Option Value} {base : Heap} {f : Addr} {fd : FuncData} {n : Nat} {T : Tbl} {C : Nat → Addr} (F : Fun K "_law_worth" "_law_worth" s__law_worth f fd) (hB : ∀ x ∈ bs, mg x = none) (hC : ∀ p ∈ cs, ∃ u, mg p.1 = some u ∧ RelV (.int p.2) u)
    (hX : ∀ p ∈ pr.xs, ExF K mg p.1 (C p.2)) (hF : FnAt P w K mg base C pr T n) : FnOk P w K mg base (L2N.CX P w) (n + 3) f fd ["_law_term_here", "_law_cells"] (spI P w K C (pr.fr 18) (callI d__law_worth T)) :=
  fn_ok F sc__law_worth rfl rfl fun cdv A outer s H E hr => by
    have c : Cok (cxOf (L2N.CX P w) P w K mg base N__law_worth "_law_worth" (defScope s__law_worth) f cdv A outer s H E) ⟨C, E⟩ pr T n bs cs := ⟨rfl, sc__law_worth.nd, hr, hF, hB, hC, L2N.takes_of rfl rfl rfl rfl, L2.passes_of rfl, hX⟩
    show EvSs _ _ _ _ (b__law_worth T)
    unfold b__law_worth
    exact (evss_cons (evs_if (evt_cmp (op_eq3 c.u) (OpSem.weak os_eq) (ev_ix (ix_4 c.u) os_ix (ev_var 0) ev_int) ev_str)
      (evss_cons (evs_ret (Ev.weak (ev_ix (ix_4 c.u) os_ix (ev_var 0) ev_int)))
      evss_nil)
      evss_nil)
      (evss_cons (evs_if (evt_cmp (op_eq3 c.u) (OpSem.weak os_eq) (ev_ix (ix_4 c.u) os_ix (ev_var 0) ev_int) ev_str)
      (evss_cons (evs_ret (Ev.weak (ev_get c.u (ev_var 1) (ev_ix (ix_4 c.u) os_ix (ev_var 0) ev_int) ev_int)))
      evss_nil)
      evss_nil)
      (evss_cons (evs_set c.nd (ev_call c i__law_worth (eva_cons (ev_ix (ix_4 c.u) os_ix (ev_var 0) ev_int) (eva_cons (ev_var 1) eva_nil))))
      (evss_cons (evs_set c.nd (ev_call c i__law_worth (eva_cons (ev_ix (ix_4 c.u) os_ix (ev_var 0) ev_int) (eva_cons (ev_var 1) eva_nil))))
      (evss_cons (evs_if (evt_cmp (op_eq3 c.u) (OpSem.weak os_eq) (ev_ix (ix_4 c.u) os_ix (ev_var 0) ev_int) ev_str)
      (evss_cons (evs_set c.nd (ev_un un_neg us_neg (ev_var 3)))
      evss_nil)
      evss_nil)
      (evss_cons (evs_if (evt_cmp (op_eq3 c.u) (OpSem.weak os_eq) (ev_ix (ix_4 c.u) os_ix (ev_var 0) ev_int) ev_str)
      (evss_cons (evs_ret (Ev.weak (ev_op op_mod os_mod (ev_op op_mul2 os_mul (ev_var 2) (ev_var 3)) ev_int)))
      evss_nil)
      evss_nil)
      (evss_cons (evs_ret (Ev.weak (ev_op op_mod os_mod (ev_op op_add4 os_add (ev_var 2) (ev_var 3)) ev_int)))
      evss_nil)))))))
abbrev s__law_gone : Stmt := topS 29
abbrev N__law_gone : List Str := ["_law_program_here", "_law_rows_here", "_law_cells", "_law_told", "_law_row_here", "_law_numbers_here", "_law_function_here", "_law_number", "_law_turn", "_law_term_here", "_law_one"]
def fb__law_gone_1 (T : Tbl) : SM :=
      (sCons (sExpr (eApp (T i__law_gone) (aCons (eVar 0) (aCons (eBin vIx (eVar 4) (eC (.int 2))) (aCons (eVar 2) (aCons (eVar 3) aNil))))))
      sNil)
def fb__law_gone_0 (T : Tbl) : SM :=
      (sCons (sIf (eBin (vEqF false) (eBin vIx (eVar 4) (eC (.int 0))) (eC (.str "set")))
      (sCons (sPut (eVar 2) (eBin vIx (eVar 4) (eC (.int 1))) (eApp (T i__law_worth) (aCons (eBin vIx (eVar 4) (eC (.int 2))) (aCons (eVar 2) aNil))))
      sNil)
      (sCons (sIf (eBin (vEqF false) (eBin vIx (eVar 4) (eC (.int 0))) (eC (.str "tell")))
      (sCons (sApp (eVar 3) (eApp (T i__law_worth) (aCons (eBin vIx (eVar 4) (eC (.int 1))) (aCons (eVar 2) aNil))))
      sNil)
      (sCons (sIf (eBin (vEqF false) (eBin vIx (eVar 4) (eC (.int 0))) (eC (.str "call")))
      (sCons (sSet 5 (eComp (iSeq (eBin vIx (eVar 4) (eC (.int 3)))) (gName 9) tTrue (eApp (T i__law_worth) (aCons (eVar 9) (aCons (eVar 2) aNil))) [9]))
      (sCons (sSet 6 (eBin vIx (eComp (iSeq (eVar 0)) (gName 10) (eBin (vEqF false) (eBin vIx (eVar 10) (eC (.int 0))) (eBin vIx (eVar 4) (eC (.int 2)))) (eVar 10) [10]) (eC (.int 0))))
      (sCons (sSet 7 (eApp (T i__law_called) (aCons (eVar 0) (aCons (eVar 6) (aCons (eVar 5) (aCons (eVar 3) aNil))))))
      (sCons (sIf (eBin (vIsN true) (eBin vIx (eVar 4) (eC (.int 1))) (eC .non))
      (sCons (sPut (eVar 2) (eBin vIx (eVar 4) (eC (.int 1))) (eVar 7))
      sNil)
      sNil)
      sNil))))
      (sCons (sIf (eBin (vEqF false) (eBin vIx (eVar 4) (eC (.int 0))) (eC (.str "again")))
      (sCons (sFor (iRng1' (eBin vIx (eVar 4) (eC (.int 1)))) (gName 8) (fb__law_gone_1 T))
      sNil)
      (sCons (sIf (eBin (vEqF true) (eApp (T i__law_worth) (aCons (eBin vIx (eVar 4) (eC (.int 1))) (aCons (eVar 2) aNil))) (eC (.int 0)))
      (sCons (sExpr (eApp (T i__law_gone) (aCons (eVar 0) (aCons (eBin vIx (eVar 4) (eC (.int 2))) (aCons (eVar 2) (aCons (eVar 3) aNil))))))
      sNil)
      sNil)
      sNil))
      sNil))
      sNil))
      sNil))
      sNil)
def b__law_gone (T : Tbl) : SM :=
      (sCons (sFor (iSeq (eVar 1)) (gName 4) (fb__law_gone_0 T))
      sNil)
def q__law_gone_0 (T : Tbl) : SM :=
      (sFor (iSeq (eVar 1)) (gName 4) (fb__law_gone_0 T))
theorem b__law_gone_q (T : Tbl) : b__law_gone T = (sCons (q__law_gone_0 T) sNil) := rfl
abbrev d__law_gone : FnD := ⟨4, 11, false, b__law_gone⟩
theorem sc__law_gone : FnScope N__law_gone ["_law_program_here", "_law_rows_here", "_law_cells", "_law_told"] (defScope s__law_gone) := ⟨rfl, rfl, rfl, by decide +kernel, rfl, by decide +kernel, by decide +kernel⟩
theorem ok__law_gone {P : Program} {w : World} {K : PySem.W.Frag} {mg : Str → Option Value} {base : Heap} {f : Addr} {fd : FuncData} {n : Nat} {T : Tbl} {C : Nat → Addr} (F : Fun K "_law_gone" "_law_gone" s__law_gone f fd) (hB : ∀ x ∈ bs, mg x = none) (hC : ∀ p ∈ cs, ∃ u, mg p.1 = some u ∧ RelV (.int p.2) u)
    (hX : ∀ p ∈ pr.xs, ExF K mg p.1 (C p.2)) (hF : FnAt P w K mg base C pr T n) : FnOk P w K mg base (L2N.CX P w) (n + 3) f fd ["_law_program_here", "_law_rows_here", "_law_cells", "_law_told"] (spI P w K C (pr.fr 19) (callI d__law_gone T)) :=
  fn_ok F sc__law_gone rfl rfl fun cdv A outer s H E hr => by
    have c : Cok (cxOf (L2N.CX P w) P w K mg base N__law_gone "_law_gone" (defScope s__law_gone) f cdv A outer s H E) ⟨C, E⟩ pr T n bs cs := ⟨rfl, sc__law_gone.nd, hr, hF, hB, hC, L2N.takes_of rfl rfl rfl rfl, L2.passes_of rfl, hX⟩
    show EvSs _ _ _ _ (b__law_gone T)
    unfold b__law_gone fb__law_gone_0 fb__law_gone_1
    exact (evss_cons (evs_for (vs := [4]) c.po c.calm (evi_seq (ev_var 1)) (evg_name c.nd)
      (evss_cons (evs_if (evt_cmp (op_eq3 c.u) (OpSem.weak os_eq) (ev_ix (ix_4 c.u) os_ix (ev_var 4) ev_int) ev_str)
      (evss_cons (evs_put c.u (ev_var 2) (ev_ix (ix_4 c.u) os_ix (ev_var 4) ev_int) (ev_call c i__law_worth (eva_cons (ev_ix (ix_4 c.u) os_ix (ev_var 4) ev_int) (eva_cons (ev_var 2) eva_nil))))
      evss_nil)
      (evss_cons (evs_if (evt_cmp (op_eq3 c.u) (OpSem.weak os_eq) (ev_ix (ix_4 c.u) os_ix (ev_var 4) ev_int) ev_str)
      (evss_cons (evs_app (ev_var 3) (ev_call c i__law_worth (eva_cons (ev_ix (ix_4 c.u) os_ix (ev_var 4) ev_int) (eva_cons (ev_var 2) eva_nil))))
      evss_nil)
      (evss_cons (evs_if (evt_cmp (op_eq3 c.u) (OpSem.weak os_eq) (ev_ix (ix_4 c.u) os_ix (ev_var 4) ev_int) ev_str)
      (evss_cons (evs_setLcC [("_law_term_here", 9)] c lc_plain (evi_seq (ev_ix (ix_4 c.u) os_ix (ev_var 4) ev_int)) (blkOk_by (own := [("_law_term_here", 9)]) (N := N__law_gone) (sc := defScope s__law_gone) (by decide +kernel)) (fun _ _ _ _ _ c => (evg_name c.nd)) (fun _ _ _ _ _ c => evts_nil) (fun _ _ _ _ _ c => (ev_call c i__law_worth (eva_cons (ev_var 9) (eva_cons (ev_var 2) eva_nil)))))
      (evss_cons (evs_set c.nd (ev_ix (ix_4 c.u) os_ix (ev_compC [("_law_one", 10)] c (evi_seq (ev_var 0)) (blkOk_by (own := [("_law_one", 10)]) (N := N__law_gone) (sc := defScope s__law_gone) (by decide +kernel)) (fun _ _ _ _ _ c => (evg_name c.nd)) (fun _ _ _ _ _ c => (evts_one (evt_cmp (op_eq3 c.u) (OpSem.weak os_eq) (ev_ix (ix_4 c.u) os_ix (ev_var 10) ev_int) (ev_ix (ix_4 c.u) os_ix (ev_var 4) ev_int)))) (fun _ _ _ _ _ c => (ev_var 10))) ev_int))
      (evss_cons (evs_set c.nd (ev_call c i__law_called (eva_cons (ev_var 0) (eva_cons (ev_var 6) (eva_cons (ev_var 5) (eva_cons (ev_var 3) eva_nil))))))
      (evss_cons (evs_if (evt_cmp op_notN (OpSem.weak os_notN) (ev_ix (ix_4 c.u) os_ix (ev_var 4) ev_int) ev_non)
      (evss_cons (evs_put c.u (ev_var 2) (ev_ix (ix_4 c.u) os_ix (ev_var 4) ev_int) (ev_var 7))
      evss_nil)
      evss_nil)
      evss_nil))))
      (evss_cons (evs_if (evt_cmp (op_eq3 c.u) (OpSem.weak os_eq) (ev_ix (ix_4 c.u) os_ix (ev_var 4) ev_int) ev_str)
      (evss_cons (evs_for (vs := [8]) c.po c.calm (evi_rng1 (ev_ix (ix_4 c.u) os_ix (ev_var 4) ev_int) (c.blt "range" (List.mem_of_getElem? (i := 6) rfl))) (evg_name c.nd)
      (evss_cons (evs_expr (ev_call c i__law_gone (eva_cons (ev_var 0) (eva_cons (ev_ix (ix_4 c.u) os_ix (ev_var 4) ev_int) (eva_cons (ev_var 2) (eva_cons (ev_var 3) eva_nil))))))
      evss_nil))
      evss_nil)
      (evss_cons (evs_if (evt_cmp (op_ne3 c.u) (OpSem.weak os_eq) (ev_call c i__law_worth (eva_cons (ev_ix (ix_4 c.u) os_ix (ev_var 4) ev_int) (eva_cons (ev_var 2) eva_nil))) ev_int)
      (evss_cons (evs_expr (ev_call c i__law_gone (eva_cons (ev_var 0) (eva_cons (ev_ix (ix_4 c.u) os_ix (ev_var 4) ev_int) (eva_cons (ev_var 2) (eva_cons (ev_var 3) eva_nil))))))
      evss_nil)
      evss_nil)
      evss_nil))
      evss_nil))
      evss_nil))
      evss_nil))
      evss_nil))
      evss_nil)
abbrev s__law_called : Stmt := topS 30
abbrev N__law_called : List Str := ["_law_program_here", "_law_function_here", "_law_numbers_here", "_law_told", "_law_cells", "_law_k"]
def fb__law_called_0 (T : Tbl) : SM :=
      (sCons (sPut (eVar 4) (eBin vIx (eBin vIx (eVar 1) (eC (.int 1))) (eVar 5)) (eBin vIx (eVar 2) (eVar 5)))
      sNil)
def b__law_called (T : Tbl) : SM :=
      (sCons (sSet 4 (eBox (fun _ st => .ok (.dct [] []) st)))
      (sCons (sFor (iRng1' (eApp vLen (aCons (eVar 2) aNil))) (gName 5) (fb__law_called_0 T))
      (sCons (sExpr (eApp (T i__law_gone) (aCons (eVar 0) (aCons (eBin vIx (eVar 1) (eC (.int 2))) (aCons (eVar 4) (aCons (eVar 3) aNil))))))
      (sCons (sRet (eApp (T i__law_worth) (aCons (eBin vIx (eVar 1) (eC (.int 3))) (aCons (eVar 4) aNil))))
      sNil))))
def q__law_called_0 (T : Tbl) : SM :=
      (sSet 4 (eBox (fun _ st => .ok (.dct [] []) st)))
def q__law_called_1 (T : Tbl) : SM :=
      (sFor (iRng1' (eApp vLen (aCons (eVar 2) aNil))) (gName 5) (fb__law_called_0 T))
def q__law_called_2 (T : Tbl) : SM :=
      (sExpr (eApp (T i__law_gone) (aCons (eVar 0) (aCons (eBin vIx (eVar 1) (eC (.int 2))) (aCons (eVar 4) (aCons (eVar 3) aNil))))))
def q__law_called_3 (T : Tbl) : SM :=
      (sRet (eApp (T i__law_worth) (aCons (eBin vIx (eVar 1) (eC (.int 3))) (aCons (eVar 4) aNil))))
theorem b__law_called_q (T : Tbl) : b__law_called T = (sCons (q__law_called_0 T) (sCons (q__law_called_1 T) (sCons (q__law_called_2 T) (sCons (q__law_called_3 T) sNil)))) := rfl
abbrev d__law_called : FnD := ⟨4, 6, false, b__law_called⟩
theorem sc__law_called : FnScope N__law_called ["_law_program_here", "_law_function_here", "_law_numbers_here", "_law_told"] (defScope s__law_called) := ⟨rfl, rfl, rfl, by decide +kernel, rfl, by decide +kernel, by decide +kernel⟩
theorem ok__law_called {P : Program} {w : World} {K : PySem.W.Frag} {mg : Str → Option Value} {base : Heap} {f : Addr} {fd : FuncData} {n : Nat} {T : Tbl} {C : Nat → Addr} (F : Fun K "_law_called" "_law_called" s__law_called f fd) (hB : ∀ x ∈ bs, mg x = none) (hC : ∀ p ∈ cs, ∃ u, mg p.1 = some u ∧ RelV (.int p.2) u)
    (hX : ∀ p ∈ pr.xs, ExF K mg p.1 (C p.2)) (hF : FnAt P w K mg base C pr T n) : FnOk P w K mg base (L2N.CX P w) (n + 3) f fd ["_law_program_here", "_law_function_here", "_law_numbers_here", "_law_told"] (spI P w K C (pr.fr 20) (callI d__law_called T)) :=
  fn_ok F sc__law_called rfl rfl fun cdv A outer s H E hr => by
    have c : Cok (cxOf (L2N.CX P w) P w K mg base N__law_called "_law_called" (defScope s__law_called) f cdv A outer s H E) ⟨C, E⟩ pr T n bs cs := ⟨rfl, sc__law_called.nd, hr, hF, hB, hC, L2N.takes_of rfl rfl rfl rfl, L2.passes_of rfl, hX⟩
    show EvSs _ _ _ _ (b__law_called T)
    unfold b__law_called fb__law_called_0
    exact (evss_cons (evs_set c.nd (ev_box ev_dnew))
      (evss_cons (evs_for (vs := [5]) c.po c.calm (evi_rng1 (ev_callB call_len2 cs_len (c.blt "len" (List.mem_of_getElem? (i := 3) rfl)) PySem.boot_len (eva_cons (ev_var 2) eva_nil)) (c.blt "range" (List.mem_of_getElem? (i := 6) rfl))) (evg_name c.nd)
      (evss_cons (evs_put c.u (ev_var 4) (ev_ix (ix_4 c.u) os_ix (ev_ix (ix_4 c.u) os_ix (ev_var 1) ev_int) (ev_var 5)) (ev_ix (ix_4 c.u) os_ix (ev_var 2) (ev_var 5)))
      evss_nil))
      (evss_cons (evs_expr (ev_call c i__law_gone (eva_cons (ev_var 0) (eva_cons (ev_ix (ix_4 c.u) os_ix (ev_var 1) ev_int) (eva_cons (ev_var 4) (eva_cons (ev_var 3) eva_nil))))))
      (evss_cons (evs_ret (Ev.weak (ev_call c i__law_worth (eva_cons (ev_ix (ix_4 c.u) os_ix (ev_var 1) ev_int) (eva_cons (ev_var 4) eva_nil)))))
      evss_nil))))
abbrev s__law_run : Stmt := topS 31
abbrev N__law_run : List Str := ["_law_program_here", "_law_inputs_here", "_law_told", "_law_result", "_law_number"]
def b__law_run (T : Tbl) : SM :=
      (sCons (sSet 2 (eBox (eLst aNil)))
      (sCons (sSet 3 (eApp (T i__law_called) (aCons (eVar 0) (aCons (eBin vIx (eVar 0) (eUn vNeg (eC (.int 1)))) (aCons (eComp (iSeq (eVar 1)) (gName 4) tTrue (eBin vMod (eVar 4) (eC (.int 1000003))) [4]) (aCons (eVar 2) aNil))))))
      (sCons (sRet (eBin vAdd (eVar 2) (eLst (aCons (eVar 3) aNil))))
      sNil)))
def q__law_run_0 (T : Tbl) : SM :=
      (sSet 2 (eBox (eLst aNil)))
def q__law_run_1 (T : Tbl) : SM :=
      (sSet 3 (eApp (T i__law_called) (aCons (eVar 0) (aCons (eBin vIx (eVar 0) (eUn vNeg (eC (.int 1)))) (aCons (eComp (iSeq (eVar 1)) (gName 4) tTrue (eBin vMod (eVar 4) (eC (.int 1000003))) [4]) (aCons (eVar 2) aNil))))))
def q__law_run_2 (T : Tbl) : SM :=
      (sRet (eBin vAdd (eVar 2) (eLst (aCons (eVar 3) aNil))))
theorem b__law_run_q (T : Tbl) : b__law_run T = (sCons (q__law_run_0 T) (sCons (q__law_run_1 T) (sCons (q__law_run_2 T) sNil))) := rfl
abbrev d__law_run : FnD := ⟨2, 5, false, b__law_run⟩
theorem sc__law_run : FnScope N__law_run ["_law_program_here", "_law_inputs_here"] (defScope s__law_run) := ⟨rfl, rfl, rfl, by decide +kernel, rfl, by decide +kernel, by decide +kernel⟩
theorem ok__law_run {P : Program} {w : World} {K : PySem.W.Frag} {mg : Str → Option Value} {base : Heap} {f : Addr} {fd : FuncData} {n : Nat} {T : Tbl} {C : Nat → Addr} (F : Fun K "_law_run" "_law_run" s__law_run f fd) (hB : ∀ x ∈ bs, mg x = none) (hC : ∀ p ∈ cs, ∃ u, mg p.1 = some u ∧ RelV (.int p.2) u)
    (hX : ∀ p ∈ pr.xs, ExF K mg p.1 (C p.2)) (hF : FnAt P w K mg base C pr T n) : FnOk P w K mg base (L2N.CX P w) (n + 3) f fd ["_law_program_here", "_law_inputs_here"] (spI P w K C (pr.fr 21) (callI d__law_run T)) :=
  fn_ok F sc__law_run rfl rfl fun cdv A outer s H E hr => by
    have c : Cok (cxOf (L2N.CX P w) P w K mg base N__law_run "_law_run" (defScope s__law_run) f cdv A outer s H E) ⟨C, E⟩ pr T n bs cs := ⟨rfl, sc__law_run.nd, hr, hF, hB, hC, L2N.takes_of rfl rfl rfl rfl, L2.passes_of rfl, hX⟩
    show EvSs _ _ _ _ (b__law_run T)
    unfold b__law_run
    exact (evss_cons (evs_set c.nd (ev_box (ev_lst eva_nil)))
      (evss_cons (evs_set c.nd (ev_call c i__law_called (eva_cons (ev_var 0) (eva_cons (ev_ix (ix_4 c.u) os_ix (ev_var 0) (ev_un un_neg us_neg ev_int)) (eva_cons (ev_compC [("_law_number", 4)] c (evi_seq (ev_var 1)) (blkOk_by (own := [("_law_number", 4)]) (N := N__law_run) (sc := defScope s__law_run) (by decide +kernel)) (fun _ _ _ _ _ c => (evg_name c.nd)) (fun _ _ _ _ _ c => evts_nil) (fun _ _ _ _ _ c => (ev_op op_mod os_mod (ev_var 4) ev_int))) (eva_cons (ev_var 2) eva_nil))))))
      (evss_cons (evs_ret (Ev.weak (ev_op op_add4 os_add (ev_var 2) (ev_lst (eva_cons (ev_var 3) eva_nil)))))
      evss_nil)))
abbrev s__law_inputs : Stmt := topS 32
abbrev N__law_inputs : List Str := ["_law_script", "_law_at", "_law_program_here", "_law_found", "_law_k", "_law_cell_here"]
def fb__law_inputs_0 (T : Tbl) : SM :=
      (sCons (sSet 5 (eApp (T i__law_cell) (aCons (eVar 0) (aCons (eBin vAdd (eVar 1) (eVar 4)) aNil))))
      (sCons (sApp (eVar 3) (eBin vIx (eLst (aCons (eBin vMod (eBin vFdv (eVar 5) (eC (.int 3))) (eC (.int 3))) (aCons (eBin vMod (eBin vFdv (eVar 5) (eC (.int 3))) (eC (.int 1000003))) (aCons (eBin vSub (eBin vMod (eBin vFdv (eVar 5) (eC (.int 3))) (eBin vAdd (eBin vMul (eC (.int 2)) (eBin vPow (eC (.int 10)) (eC (.int 20)))) (eC (.int 1)))) (eBin vPow (eC (.int 10)) (eC (.int 20)))) aNil)))) (eBin vMod (eVar 5) (eC (.int 3)))))
      sNil))
def b__law_inputs (T : Tbl) : SM :=
      (sCons (sSet 3 (eBox (eLst aNil)))
      (sCons (sFor (iRng1' (eApp vLen (aCons (eBin vIx (eBin vIx (eVar 2) (eUn vNeg (eC (.int 1)))) (eC (.int 1))) aNil))) (gName 4) (fb__law_inputs_0 T))
      (sCons (sRet (eVar 3))
      sNil)))
def q__law_inputs_0 (T : Tbl) : SM :=
      (sSet 3 (eBox (eLst aNil)))
def q__law_inputs_1 (T : Tbl) : SM :=
      (sFor (iRng1' (eApp vLen (aCons (eBin vIx (eBin vIx (eVar 2) (eUn vNeg (eC (.int 1)))) (eC (.int 1))) aNil))) (gName 4) (fb__law_inputs_0 T))
def q__law_inputs_2 (T : Tbl) : SM :=
      (sRet (eVar 3))
theorem b__law_inputs_q (T : Tbl) : b__law_inputs T = (sCons (q__law_inputs_0 T) (sCons (q__law_inputs_1 T) (sCons (q__law_inputs_2 T) sNil))) := rfl
abbrev d__law_inputs : FnD := ⟨3, 6, false, b__law_inputs⟩
theorem sc__law_inputs : FnScope N__law_inputs ["_law_script", "_law_at", "_law_program_here"] (defScope s__law_inputs) := ⟨rfl, rfl, rfl, by decide +kernel, rfl, by decide +kernel, by decide +kernel⟩
theorem ok__law_inputs {P : Program} {w : World} {K : PySem.W.Frag} {mg : Str → Option Value} {base : Heap} {f : Addr} {fd : FuncData} {n : Nat} {T : Tbl} {C : Nat → Addr} (F : Fun K "_law_inputs" "_law_inputs" s__law_inputs f fd) (hB : ∀ x ∈ bs, mg x = none) (hC : ∀ p ∈ cs, ∃ u, mg p.1 = some u ∧ RelV (.int p.2) u)
    (hX : ∀ p ∈ pr.xs, ExF K mg p.1 (C p.2)) (hF : FnAt P w K mg base C pr T n) : FnOk P w K mg base (L2N.CX P w) (n + 3) f fd ["_law_script", "_law_at", "_law_program_here"] (spI P w K C (pr.fr 22) (callI d__law_inputs T)) :=
  fn_ok F sc__law_inputs rfl rfl fun cdv A outer s H E hr => by
    have c : Cok (cxOf (L2N.CX P w) P w K mg base N__law_inputs "_law_inputs" (defScope s__law_inputs) f cdv A outer s H E) ⟨C, E⟩ pr T n bs cs := ⟨rfl, sc__law_inputs.nd, hr, hF, hB, hC, L2N.takes_of rfl rfl rfl rfl, L2.passes_of rfl, hX⟩
    show EvSs _ _ _ _ (b__law_inputs T)
    unfold b__law_inputs fb__law_inputs_0
    exact (evss_cons (evs_set c.nd (ev_box (ev_lst eva_nil)))
      (evss_cons (evs_for (vs := [4]) c.po c.calm (evi_rng1 (ev_callB call_len2 cs_len (c.blt "len" (List.mem_of_getElem? (i := 3) rfl)) PySem.boot_len (eva_cons (ev_ix (ix_4 c.u) os_ix (ev_ix (ix_4 c.u) os_ix (ev_var 2) (ev_un un_neg us_neg ev_int)) ev_int) eva_nil)) (c.blt "range" (List.mem_of_getElem? (i := 6) rfl))) (evg_name c.nd)
      (evss_cons (evs_set c.nd (ev_call c i__law_cell (eva_cons (ev_var 0) (eva_cons (ev_op op_add4 os_add (ev_var 1) (ev_var 4)) eva_nil))))
      (evss_cons (evs_app (ev_var 3) (ev_ix (ix_4 c.u) os_ix (ev_lst (eva_cons (ev_op op_mod os_mod (ev_op op_fdivW os_fdv (ev_var 5) ev_int) ev_int) (eva_cons (ev_op op_mod os_mod (ev_op op_fdivW os_fdv (ev_var 5) ev_int) ev_int) (eva_cons (ev_op op_sub os_sub (ev_op op_mod os_mod (ev_op op_fdivW os_fdv (ev_var 5) ev_int) (ev_op op_add4 os_add (ev_op op_mul2 os_mul ev_int (ev_op op_pow os_pow ev_int ev_int)) ev_int)) (ev_op op_pow os_pow ev_int ev_int)) eva_nil)))) (ev_op op_mod os_mod (ev_var 5) ev_int)))
      evss_nil)))
      (evss_cons (evs_ret (Ev.weak (ev_var 3)))
      evss_nil)))
abbrev s__law_numbers : Stmt := topS 33
abbrev N__law_numbers : List Str := ["_law_found", "_law_number"]
def fb__law_numbers_0 (T : Tbl) : SM :=
      (sCons (sIf (eOr (eNot (eApp (vIsa "int") (aCons (eVar 1) aNil))) (eApp (vIsa "bool") (aCons (eVar 1) aNil)))
      (sCons (sRet (eC (.bl false)))
      sNil)
      sNil)
      sNil)
def b__law_numbers (T : Tbl) : SM :=
      (sCons (sIf (eNot (eApp (vIsa "list") (aCons (eVar 0) aNil)))
      (sCons (sRet (eC (.bl false)))
      sNil)
      sNil)
      (sCons (sFor (iSeq (eVar 0)) (gName 1) (fb__law_numbers_0 T))
      (sCons (sRet (eC (.bl true)))
      sNil)))
def q__law_numbers_0 (T : Tbl) : SM :=
      (sIf (eNot (eApp (vIsa "list") (aCons (eVar 0) aNil)))
      (sCons (sRet (eC (.bl false)))
      sNil)
      sNil)
def q__law_numbers_1 (T : Tbl) : SM :=
      (sFor (iSeq (eVar 0)) (gName 1) (fb__law_numbers_0 T))
def q__law_numbers_2 (T : Tbl) : SM :=
      (sRet (eC (.bl true)))
theorem b__law_numbers_q (T : Tbl) : b__law_numbers T = (sCons (q__law_numbers_0 T) (sCons (q__law_numbers_1 T) (sCons (q__law_numbers_2 T) sNil))) := rfl
abbrev d__law_numbers : FnD := ⟨1, 2, false, b__law_numbers⟩
theorem sc__law_numbers : FnScope N__law_numbers ["_law_found"] (defScope s__law_numbers) := ⟨rfl, rfl, rfl, by decide +kernel, rfl, by decide +kernel, by decide +kernel⟩
theorem ok__law_numbers {P : Program} {w : World} {K : PySem.W.Frag} {mg : Str → Option Value} {base : Heap} {f : Addr} {fd : FuncData} {n : Nat} {T : Tbl} {C : Nat → Addr} (F : Fun K "_law_numbers" "_law_numbers" s__law_numbers f fd) (hB : ∀ x ∈ bs, mg x = none) (hC : ∀ p ∈ cs, ∃ u, mg p.1 = some u ∧ RelV (.int p.2) u)
    (hX : ∀ p ∈ pr.xs, ExF K mg p.1 (C p.2)) (hF : FnAt P w K mg base C pr T n) : FnOk P w K mg base (L2N.CX P w) (n + 3) f fd ["_law_found"] (spI P w K C (pr.fr 23) (callI d__law_numbers T)) :=
  fn_ok F sc__law_numbers rfl rfl fun cdv A outer s H E hr => by
    have c : Cok (cxOf (L2N.CX P w) P w K mg base N__law_numbers "_law_numbers" (defScope s__law_numbers) f cdv A outer s H E) ⟨C, E⟩ pr T n bs cs := ⟨rfl, sc__law_numbers.nd, hr, hF, hB, hC, L2N.takes_of rfl rfl rfl rfl, L2.passes_of rfl, hX⟩
    show EvSs _ _ _ _ (b__law_numbers T)
    unfold b__law_numbers fb__law_numbers_0
    exact (evss_cons (evs_if (evt_not (evt_val (ev_isa (ev_var 0) (c.blt "isinstance" (List.mem_of_getElem? (i := 2) rfl)) (c.blt "list" (List.mem_of_getElem? (i := 4) rfl)) boot_list)))
      (evss_cons (evs_ret (Ev.weak ev_bl))
      evss_nil)
      evss_nil)
      (evss_cons (evs_for (vs := [1]) c.po c.calm (evi_seq (ev_var 0)) (evg_name c.nd)
      (evss_cons (evs_if (evw_pt (evw_or (evt_not (evt_val (ev_isa (ev_var 1) (c.blt "isinstance" (List.mem_of_getElem? (i := 2) rfl)) (c.blt "int" (List.mem_of_getElem? (i := 1) rfl)) boot_int))) (evw_or1 (evt_val (ev_isa (ev_var 1) (c.blt "isinstance" (List.mem_of_getElem? (i := 2) rfl)) (c.blt "bool" (List.mem_of_getElem? (i := 0) rfl)) boot_bool)))))
      (evss_cons (evs_ret (Ev.weak ev_bl))
      evss_nil)
      evss_nil)
      evss_nil))
      (evss_cons (evs_ret (Ev.weak ev_bl))
      evss_nil)))
abbrev s_law : Stmt := topS 34
abbrev N_law : List Str := ["_law_script", "_law_program_here", "_law_inputs_here", "_law_k", "_law_handed", "_law_found"]
def fb_law_0 (T : Tbl) : SM :=
      (sCons (sSet 4 (eApp vListA (aCons (eBin vIx (eVar 2) (eVar 3)) aNil)))
      (sCons (sSet 5 (eBox (eApp (T i_run) (aCons (eVar 1) (aCons (eVar 4) aNil)))))
      (sCons (sIf (eOr (eBin (vEqF true) (eVar 4) (eBin vIx (eVar 2) (eVar 3))) (eOr (eNot (eApp (T i__law_numbers) (aCons (eVar 5) aNil))) (eBin (vEqF true) (eVar 5) (eApp (T i__law_run) (aCons (eVar 1) (aCons (eBin vIx (eVar 2) (eVar 3)) aNil))))))
      (sCons (sRet (eC (.bl false)))
      sNil)
      sNil)
      (sCons (sApp (eVar 5) (eC (.int 5)))
      sNil))))
def b_law (T : Tbl) : SM :=
      (sCons (sSet 1 (eApp (T i__law_program) (aCons (eVar 0) (aCons (eC (.int 4)) aNil))))
      (sCons (sSet 2 (eLst (aCons (eApp (T i__law_inputs) (aCons (eVar 0) (aCons (eC (.int 0)) (aCons (eVar 1) aNil)))) (aCons (eApp (T i__law_inputs) (aCons (eVar 0) (aCons (eC (.int 2)) (aCons (eVar 1) aNil)))) aNil))))
      (sCons (sFor (iSeq (eLst (aCons (eC (.int 0)) (aCons (eC (.int 1)) (aCons (eC (.int 0)) aNil))))) (gName 3) (fb_law_0 T))
      (sCons (sRet (eC (.bl true)))
      sNil))))
def q_law_0 (T : Tbl) : SM :=
      (sSet 1 (eApp (T i__law_program) (aCons (eVar 0) (aCons (eC (.int 4)) aNil))))
def q_law_1 (T : Tbl) : SM :=
      (sSet 2 (eLst (aCons (eApp (T i__law_inputs) (aCons (eVar 0) (aCons (eC (.int 0)) (aCons (eVar 1) aNil)))) (aCons (eApp (T i__law_inputs) (aCons (eVar 0) (aCons (eC (.int 2)) (aCons (eVar 1) aNil)))) aNil))))
def q_law_2 (T : Tbl) : SM :=
      (sFor (iSeq (eLst (aCons (eC (.int 0)) (aCons (eC (.int 1)) (aCons (eC (.int 0)) aNil))))) (gName 3) (fb_law_0 T))
def q_law_3 (T : Tbl) : SM :=
      (sRet (eC (.bl true)))
theorem b_law_q (T : Tbl) : b_law T = (sCons (q_law_0 T) (sCons (q_law_1 T) (sCons (q_law_2 T) (sCons (q_law_3 T) sNil)))) := rfl
abbrev d_law : FnD := ⟨1, 6, false, b_law⟩
theorem sc_law : FnScope N_law ["_law_script"] (defScope s_law) := ⟨rfl, rfl, rfl, by decide +kernel, rfl, by decide +kernel, by decide +kernel⟩
theorem ok_law {P : Program} {w : World} {K : PySem.W.Frag} {mg : Str → Option Value} {base : Heap} {f : Addr} {fd : FuncData} {n : Nat} {T : Tbl} {C : Nat → Addr} (F : Fun K "law" "law" s_law f fd) (hB : ∀ x ∈ bs, mg x = none) (hC : ∀ p ∈ cs, ∃ u, mg p.1 = some u ∧ RelV (.int p.2) u)
    (hX : ∀ p ∈ pr.xs, ExF K mg p.1 (C p.2)) (hF : FnAt P w K mg base C pr T n) : FnOk P w K mg base (L2N.CX P w) (n + 3) f fd ["_law_script"] (spI P w K C (pr.fr 24) (callI d_law T)) :=
  fn_ok F sc_law rfl rfl fun cdv A outer s H E hr => by
    have c : Cok (cxOf (L2N.CX P w) P w K mg base N_law "law" (defScope s_law) f cdv A outer s H E) ⟨C, E⟩ pr T n bs cs := ⟨rfl, sc_law.nd, hr, hF, hB, hC, L2N.takes_of rfl rfl rfl rfl, L2.passes_of rfl, hX⟩
    show EvSs _ _ _ _ (b_law T)
    unfold b_law fb_law_0
    exact (evss_cons (evs_set c.nd (ev_call c i__law_program (eva_cons (ev_var 0) (eva_cons ev_int eva_nil))))
      (evss_cons (evs_set c.nd (ev_lst (eva_cons (ev_call c i__law_inputs (eva_cons (ev_var 0) (eva_cons ev_int (eva_cons (ev_var 1) eva_nil)))) (eva_cons (ev_call c i__law_inputs (eva_cons (ev_var 0) (eva_cons ev_int (eva_cons (ev_var 1) eva_nil)))) eva_nil))))
      (evss_cons (evs_for (vs := [3]) c.po c.calm (evi_seq (ev_lst (eva_cons ev_int (eva_cons ev_int (eva_cons ev_int eva_nil))))) (evg_name c.nd)
      (evss_cons (evs_set c.nd (ev_callTy (call_listA c.calm) cs_listA (c.blt "list" (List.mem_of_getElem? (i := 4) rfl)) boot_list (eva_cons (ev_ix (ix_4 c.u) os_ix (ev_var 2) (ev_var 3)) eva_nil)))
      (evss_cons (evs_set c.nd (ev_box (ev_call c i_run (eva_cons (ev_var 1) (eva_cons (ev_var 4) eva_nil)))))
      (evss_cons (evs_if (evw_pt (evw_or (evt_cmp (op_ne3 c.u) (OpSem.weak os_eq) (ev_var 4) (ev_ix (ix_4 c.u) os_ix (ev_var 2) (ev_var 3))) (evw_or (evt_not (evt_val (ev_call c i__law_numbers (eva_cons (ev_var 5) eva_nil)))) (evw_or1 (evt_cmp (op_ne3 c.u) (OpSem.weak os_eq) (ev_var 5) (ev_call c i__law_run (eva_cons (ev_var 1) (eva_cons (ev_ix (ix_4 c.u) os_ix (ev_var 2) (ev_var 3)) eva_nil))))))))
      (evss_cons (evs_ret (Ev.weak ev_bl))
      evss_nil)
      evss_nil)
      (evss_cons (evs_app (ev_var 5) ev_int)
      evss_nil)))))
      (evss_cons (evs_ret (Ev.weak ev_bl))
      evss_nil))))
def D : Nat → FnD
  | 0 => d_worth
  | 1 => d_run
  | 2 => d__end
  | 3 => d__go_through
  | 4 => d__law_cell
  | 5 => d__law_mixed
  | 6 => d__law_words
  | 7 => d__law_term
  | 8 => d__law_given
  | 9 => d__law_call
  | 10 => d__law_row
  | 11 => d__law_rows
  | 12 => d__law_work
  | 13 => d__law_bounded
  | 14 => d__law_looped
  | 15 => d__law_function
  | 16 => d__law_variables
  | 17 => d__law_program
  | 18 => d__law_worth
  | 19 => d__law_gone
  | 20 => d__law_called
  | 21 => d__law_run
  | 22 => d__law_inputs
  | 23 => d__law_numbers
  | 24 => d_law
  | _ => ⟨0, 0, false, fun _ _ _ => .bad⟩
theorem c_worth (n : Nat) (a0 a1 : PV) (st : VSt) : Fm D (n + 1) i_worth [a0, a1] st = endI false st.length (b_worth (Fm D n) [some a0, some a1, none, none, none] st) := rfl
theorem c_run (n : Nat) (a0 a1 : PV) (st : VSt) : Fm D (n + 1) i_run [a0, a1] st = endI true st.length (gateF (b_run (Fm D n)) [some a0, some a1, none, none, none, none, none, none, none, none] st) := rfl
theorem c__end (n : Nat) (a0 a1 a2 : PV) (st : VSt) : Fm D (n + 1) i__end [a0, a1, a2] st = endI false st.length (b__end (Fm D n) [some a0, some a1, some a2, none, none] st) := rfl
theorem c__go_through (n : Nat) (a0 a1 a2 : PV) (st : VSt) : Fm D (n + 1) i__go_through [a0, a1, a2] st = endI false st.length (b__go_through (Fm D n) [some a0, some a1, some a2, none] st) := rfl
theorem c__law_cell (n : Nat) (a0 a1 : PV) (st : VSt) : Fm D (n + 1) i__law_cell [a0, a1] st = endI false st.length (b__law_cell (Fm D n) [some a0, some a1, none, none] st) := rfl
theorem c__law_mixed (n : Nat) (a0 a1 : PV) (st : VSt) : Fm D (n + 1) i__law_mixed [a0, a1] st = endI false st.length (b__law_mixed (Fm D n) [some a0, some a1, none] st) := rfl
theorem c__law_words (n : Nat) (a0 a1 : PV) (st : VSt) : Fm D (n + 1) i__law_words [a0, a1] st = endI false st.length (b__law_words (Fm D n) [some a0, some a1, none, none, none, none] st) := rfl
theorem c__law_term (n : Nat) (a0 a1 a2 : PV) (st : VSt) : Fm D (n + 1) i__law_term [a0, a1, a2] st = endI false st.length (b__law_term (Fm D n) [some a0, some a1, some a2, none, none] st) := rfl
theorem c__law_given (n : Nat) (a0 a1 a2 : PV) (st : VSt) : Fm D (n + 1) i__law_given [a0, a1, a2] st = endI false st.length (b__law_given (Fm D n) [some a0, some a1, some a2] st) := rfl
theorem c__law_call (n : Nat) (a0 a1 a2 : PV) (st : VSt) : Fm D (n + 1) i__law_call [a0, a1, a2] st = endI false st.length (b__law_call (Fm D n) [some a0, some a1, some a2, none, none, none, none] st) := rfl
theorem c__law_row (n : Nat) (a0 a1 a2 a3 : PV) (st : VSt) : Fm D (n + 1) i__law_row [a0, a1, a2, a3] st = endI false st.length (b__law_row (Fm D n) [some a0, some a1, some a2, some a3, none, none, none, none, none, none] st) := rfl
theorem c__law_rows (n : Nat) (a0 a1 a2 a3 a4 : PV) (st : VSt) : Fm D (n + 1) i__law_rows [a0, a1, a2, a3, a4] st = endI false st.length (b__law_rows (Fm D n) [some a0, some a1, some a2, some a3, some a4, none] st) := rfl
theorem c__law_work (n : Nat) (a0 a1 : PV) (st : VSt) : Fm D (n + 1) i__law_work [a0, a1] st = endI false st.length (b__law_work (Fm D n) [some a0, some a1, none, none] st) := rfl
theorem c__law_bounded (n : Nat) (a0 a1 a2 a3 a4 : PV) (st : VSt) : Fm D (n + 1) i__law_bounded [a0, a1, a2, a3, a4] st = endI false st.length (b__law_bounded (Fm D n) [some a0, some a1, some a2, some a3, some a4, none] st) := rfl
theorem c__law_looped (n : Nat) (a0 a1 : PV) (st : VSt) : Fm D (n + 1) i__law_looped [a0, a1] st = endI false st.length (b__law_looped (Fm D n) [some a0, some a1, none, none, none, none, none] st) := rfl
theorem c__law_function (n : Nat) (a0 a1 a2 a3 : PV) (st : VSt) : Fm D (n + 1) i__law_function [a0, a1, a2, a3] st = endI false st.length (b__law_function (Fm D n) [some a0, some a1, some a2, some a3, none, none, none, none, none] st) := rfl
theorem c__law_variables (n : Nat) (a0 a1 : PV) (st : VSt) : Fm D (n + 1) i__law_variables [a0, a1] st = endI false st.length (b__law_variables (Fm D n) [some a0, some a1] st) := rfl
theorem c__law_program (n : Nat) (a0 a1 : PV) (st : VSt) : Fm D (n + 1) i__law_program [a0, a1] st = endI false st.length (b__law_program (Fm D n) [some a0, some a1, none, none, none, none, none, none, none] st) := rfl
theorem c__law_worth (n : Nat) (a0 a1 : PV) (st : VSt) : Fm D (n + 1) i__law_worth [a0, a1] st = endI false st.length (b__law_worth (Fm D n) [some a0, some a1, none, none] st) := rfl
theorem c__law_gone (n : Nat) (a0 a1 a2 a3 : PV) (st : VSt) : Fm D (n + 1) i__law_gone [a0, a1, a2, a3] st = endI false st.length (b__law_gone (Fm D n) [some a0, some a1, some a2, some a3, none, none, none, none, none, none, none] st) := rfl
theorem c__law_called (n : Nat) (a0 a1 a2 a3 : PV) (st : VSt) : Fm D (n + 1) i__law_called [a0, a1, a2, a3] st = endI false st.length (b__law_called (Fm D n) [some a0, some a1, some a2, some a3, none, none] st) := rfl
theorem c__law_run (n : Nat) (a0 a1 : PV) (st : VSt) : Fm D (n + 1) i__law_run [a0, a1] st = endI false st.length (b__law_run (Fm D n) [some a0, some a1, none, none, none] st) := rfl
theorem c__law_inputs (n : Nat) (a0 a1 a2 : PV) (st : VSt) : Fm D (n + 1) i__law_inputs [a0, a1, a2] st = endI false st.length (b__law_inputs (Fm D n) [some a0, some a1, some a2, none, none, none] st) := rfl
theorem c__law_numbers (n : Nat) (a0 : PV) (st : VSt) : Fm D (n + 1) i__law_numbers [a0] st = endI false st.length (b__law_numbers (Fm D n) [some a0, none] st) := rfl
end Lk
namespace Lk
open PySem L2 Vm
def mixedF (a k : Int) : Int := (a * 48271 + (k + 1) * 1299721) % 2147483647 * ((a * 48271 + (k + 1) * 1299721) % 2147483647 / 7 % 65536 + 3) % 2147483647
theorem F_mixed (n : Nat) (a k : Int) (st : VSt) : Fm D (n + 1) i__law_mixed [.int a, .int k] st = .ok (.int (mixedF a k)) st := by
  rw [c__law_mixed]
  unfold b__law_mixed
  simp -implicitDefEqProofs (disch := omega) only [za,zb,zc,zd,ze,zf,zg,zh,zi,zj,zk,zm,zn,zo,zp,zq,zt,zu,zv,zw,zx,zy,zA,zB,zC,zD,zE,zF,zG,zH,zI,zJ,zK,zL,zM,zN,zO,zP,zQ,zR,zS,zT,zU,zV,zW,zX,zY,zZ,ya,yb,yc,yd,ye,yf,yg,yh,yi,yj,yk,yl,ym,yn,yo,yp,yq,yr,yt,yu,yv,yw,yx,yy,yz,yA,yB,yC,yD,yE,yF,yG,yH,yI,yJ,yK,yL,yM,yN,yO,yP,yQ,yR,yS,yT,yU,yV,yW,yX,yY,yZ,wa,wb,wc,wd,we,wg,wj,wm,wp,wq,lA9,lB9,lC9,lD9,lE9,lF9,lG9,lH9,wt,lI9,lJ9,lK9,lL9,lM9,lN9,lO9,lP9,lQ9,lR9,lS9,lT9,↓reduceIte,Nat.reduceAdd,Nat.reduceLeDiff, mixedF]
def mkA (c k : Int) : Int := (c % 2147483629 + 7919 * (k + 1)) * 48271 % 2147483647
def mkB (m : Int) : Int := m * m % 2147483629 * 69621 % 2147483647
def mkC (c m : Int) : Int := (c / 2147483629 * 2147483647 + m) * 2147483629 + m * m % 2147483629
def cellV (c k : Int) : Int := mkC c (mkB (mkA c k))
def cellF (ns : List Int) (k : Nat) : Int := cellV ((ns[k]?).getD 0) k
theorem mkA_r (c k : Int) : 0 ≤ mkA c k ∧ mkA c k < 2147483647 := by unfold mkA; omega
theorem mkB_r (m : Int) : 0 ≤ mkB m ∧ mkB m < 2147483647 := by unfold mkB; omega
theorem F_cell (n : Nat) (ns : List Int) (k : Nat) (st : VSt) : Fm D (n + 1) i__law_cell [.scr ns, .int (k : Int)] st = .ok (.int (cellF ns k)) st := by
  rw [c__law_cell]
  unfold b__law_cell
  have key : ∀ c : Int, (eIf (eBin vLt (eVar 1) (eApp vLen (aCons (eVar 0) aNil))) (eBin vIx (eVar 0) (eVar 1)) (eC (.int 0))) [some (.scr ns), some (.int (k : Int)), none, none] st = .ok (.int c) st → 
      endI false st.length ((sCons (sSet 2 (eIf (eBin vLt (eVar 1) (eApp vLen (aCons (eVar 0) aNil))) (eBin vIx (eVar 0) (eVar 1)) (eC (.int 0)))) 
        (sCons (sSet 3 (eBin vMod (eBin vMul (eBin vAdd (eBin vMod (eVar 2) (eC (.int 2147483629))) (eBin vMul (eC (.int 7919)) (eBin vAdd (eVar 1) (eC (.int 1))))) (eC (.int 48271))) (eC (.int 2147483647))))
        (sCons (sSet 3 (eBin vMod (eBin vMul (eBin vMod (eBin vMul (eVar 3) (eVar 3)) (eC (.int 2147483629))) (eC (.int 69621))) (eC (.int 2147483647))))
        (sCons (sRet (eBin vAdd (eBin vMul (eBin vAdd (eBin vMul (eBin vFdv (eVar 2) (eC (.int 2147483629))) (eC (.int 2147483647))) (eVar 3)) (eC (.int 2147483629))) (eBin vMod (eBin vMul (eVar 3) (eVar 3)) (eC (.int 2147483629))))) sNil)))) [some (.scr ns), some (.int (k : Int)), none, none] st) = .ok (.int (cellV c k)) st := by
    intro c h
    have hA := mkA_r c k
    have hB := mkB_r (mkA c k)
    have eA : (c % 2147483629 + 7919 * ((k : Int) + 1)) * 48271 % 2147483647 = mkA c k := rfl
    have eB : mkA c k * mkA c k % 2147483629 * 69621 % 2147483647 = mkB (mkA c k) := rfl
    rw [zO, zP, h]
    simp -implicitDefEqProofs (disch := omega) only [za,zb,zc,zd,ze,zf,zg,zh,zi,zj,zk,zm,zn,zo,zp,zq,zt,zu,zv,zw,zx,zy,zA,zB,zC,zD,zE,zF,zG,zH,zI,zJ,zK,zL,zM,zN,zO,zP,zQ,zR,zS,zT,zU,zV,zW,zX,zY,zZ,ya,yb,yc,yd,ye,yf,yg,yh,yi,yj,yk,yl,ym,yn,yo,yp,yq,yr,yt,yu,yv,yw,yx,yy,yz,yA,yB,yC,yD,yE,yF,yG,yH,yI,yJ,yK,yL,yM,yN,yO,yP,yQ,yR,yS,yT,yU,yV,yW,yX,yY,yZ,wa,wb,wc,wd,we,wg,wj,wm,wp,wq,lA9,lB9,lC9,lD9,lE9,lF9,lG9,lH9,wt,lI9,lJ9,lK9,lL9,lM9,lN9,lO9,lP9,lQ9,lR9,lS9,lT9,↓reduceIte,Nat.reduceAdd,Nat.reduceLeDiff, eA, eB]
    rfl
  by_cases h : k < ns.length
  · have e : atI ns (k : Int) = some ns[k] := atI_nat (List.getElem?_eq_getElem h)
    have h2 : ((k : Int) < (ns.length : Int)) = True := by simp; omega
    have h3 : (ns[k]?).getD 0 = ns[k] := by rw [List.getElem?_eq_getElem h]; rfl
    unfold cellF
    rw [h3]
    exact key _ (by simp -implicitDefEqProofs (disch := omega) only [za,zb,zc,zd,ze,zf,zg,zh,zi,zj,zk,zm,zn,zo,zp,zq,zt,zu,zv,zw,zx,zy,zA,zB,zC,zD,zE,zF,zG,zH,zI,zJ,zK,zL,zM,zN,zO,zP,zQ,zR,zS,zT,zU,zV,zW,zX,zY,zZ,ya,yb,yc,yd,ye,yf,yg,yh,yi,yj,yk,yl,ym,yn,yo,yp,yq,yr,yt,yu,yv,yw,yx,yy,yz,yA,yB,yC,yD,yE,yF,yG,yH,yI,yJ,yK,yL,yM,yN,yO,yP,yQ,yR,yS,yT,yU,yV,yW,yX,yY,yZ,wa,wb,wc,wd,we,wg,wj,wm,wp,wq,lA9,lB9,lC9,lD9,lE9,lF9,lG9,lH9,wt,lI9,lJ9,lK9,lL9,lM9,lN9,lO9,lP9,lQ9,lR9,lS9,lT9,↓reduceIte,Nat.reduceAdd,Nat.reduceLeDiff, h2, e])
  · have h2 : ((k : Int) < (ns.length : Int)) = False := by simp; omega
    have h3 : (ns[k]?).getD 0 = 0 := by rw [List.getElem?_eq_none (by omega)]; rfl
    unfold cellF
    rw [h3]
    exact key _ (by simp -implicitDefEqProofs (disch := omega) only [za,zb,zc,zd,ze,zf,zg,zh,zi,zj,zk,zm,zn,zo,zp,zq,zt,zu,zv,zw,zx,zy,zA,zB,zC,zD,zE,zF,zG,zH,zI,zJ,zK,zL,zM,zN,zO,zP,zQ,zR,zS,zT,zU,zV,zW,zX,zY,zZ,ya,yb,yc,yd,ye,yf,yg,yh,yi,yj,yk,yl,ym,yn,yo,yp,yq,yr,yt,yu,yv,yw,yx,yy,yz,yA,yB,yC,yD,yE,yF,yG,yH,yI,yJ,yK,yL,yM,yN,yO,yP,yQ,yR,yS,yT,yU,yV,yW,yX,yY,yZ,wa,wb,wc,wd,we,wg,wj,wm,wp,wq,lA9,lB9,lC9,lD9,lE9,lF9,lG9,lH9,wt,lI9,lJ9,lK9,lL9,lM9,lN9,lO9,lP9,lQ9,lR9,lS9,lT9,↓reduceIte,Nat.reduceAdd,Nat.reduceLeDiff, h2])
end Lk
namespace Lk
open PySem L2 Vm
def Ls : Str := "abcdefghijklmnopqrstuvwxyz"
theorem Ls_codes : Ls.cps.toList = (List.range 26).map (97 + ·) := by decide +kernel
theorem Ls_len : Ls.length = 26 := by decide +kernel
def ltr (i : Int) : Str := ⟨#[97 + i.toNat]⟩
theorem v_ltr {i : Int} {st : VSt} (h0 : 0 ≤ i) (h1 : i < 26) : vIx (.str Ls) (.int i) st = .ok (.str (ltr i)) st := by
  rw [v_ixs (by rw [Ls_len]; decide), Ls_codes]
  have e : i = ((i.toNat : Nat) : Int) := by omega
  have h : atI ((List.range 26).map (97 + ·)) i = some (97 + i.toNat) := by
    rw [e]
    refine atI_nat ?_
    have : i.toNat < 26 := by omega
    rw [List.getElem?_map, List.getElem?_range this]; rfl
  rw [h]; rfl
theorem len_repS (x : Str) (n : Nat) : (repS x n).length = n * x.length := by
  unfold repS Str.length
  simp [List.length_flatten]
theorem len_ltr (i : Int) : (ltr i).length = 1 := rfl
def wBase (c : Int) : Str := repS (ltr (c % 26)) (1 + c / 26 % 8).toNat
theorem len_base (c : Int) : ((wBase c).length : Int) = 1 + c / 26 % 8 := by
  unfold wBase
  rw [len_repS, len_ltr, Nat.mul_one]
  omega
def wAt (c : Int) : Int := c / 208 % ((wBase c).length : Int)
def wA (c : Int) (k : Nat) : Str := repS (ltr (c % 26)) (1 + (k : Int)).toNat
def wB (c : Int) (k : Nat) : Str := cutS (wBase c) none (some (wAt c)) ++ ltr ((c / 4992 + 5 * (k : Int)) % 26) ++ cutS (wBase c) (some (wAt c + 1)) none
def wordF (c : Int) (k : Nat) : Str := if c / 1664 % 3 = 1 then wA c k else wB c k
def wordsF (c : Int) (m : Nat) : List Str := (List.range m).map (wordF c)
theorem len_app (a b : Str) : (a ++ b).length = a.length + b.length := by
  show (a.cps ++ b.cps).size = _
  rw [Array.size_append]; rfl
theorem F_words (n : Nat) (c : Int) (m : Nat) (hm : m ≤ 100) (st : VSt) : Fm D (n + 1) i__law_words [.int c, .int (m : Int)] st = .ok (.lst ((wordsF c m).map PV.str)) st := by
  rw [c__law_words]
  unfold b__law_words
  have hb := len_base c
  have hat : 0 ≤ wAt c := Int.emod_nonneg _ (by omega)
  have e0 : ("abcdefghijklmnopqrstuvwxyz" : Str) = Ls := rfl
  have e1 : repS (ltr (c % 26)) (1 + c / 26 % 8).toNat = wBase c := rfl
  have e2 : c / 208 % ((wBase c).length : Int) = wAt c := rfl
  have l1 := len_ltr (c % 26)
  have hp : pures ((wordsF c m).map PV.str) = true := pures_strs _
  by_cases ht : c / 1664 % 3 = 1
  · simp -implicitDefEqProofs (disch := omega) only [za,zb,zc,zd,ze,zf,zg,zh,zi,zj,zk,zm,zn,zo,zp,zq,zt,zu,zv,zw,zx,zy,zA,zB,zC,zD,zE,zF,zG,zH,zI,zJ,zK,zL,zM,zN,zO,zP,zQ,zR,zS,zT,zU,zV,zW,zX,zY,zZ,ya,yb,yc,yd,ye,yf,yg,yh,yi,yj,yk,yl,ym,yn,yo,yp,yq,yr,yt,yu,yv,yw,yx,yy,yz,yA,yB,yC,yD,yE,yF,yG,yH,yI,yJ,yK,yL,yM,yN,yO,yP,yQ,yR,yS,yT,yU,yV,yW,yX,yY,yZ,wa,wb,wc,wd,we,wg,wj,wm,wp,wq,lA9,lB9,lC9,lD9,lE9,lF9,lG9,lH9,wt,lI9,lJ9,lK9,lL9,lM9,lN9,lO9,lP9,lQ9,lR9,lS9,lT9,↓reduceIte,Nat.reduceAdd,Nat.reduceLeDiff, e0, v_ltr, v_muls, e1, v_lens, e2, ht]
    rw [comp_rng (m := (m : Int)) (f := fun k => .str (wordF c k)) rfl (by omega) (by omega) (fun k hk => by
      simp -implicitDefEqProofs (disch := omega) only [za,zb,zc,zd,ze,zf,zg,zh,zi,zj,zk,zm,zn,zo,zp,zq,zt,zu,zv,zw,zx,zy,zA,zB,zC,zD,zE,zF,zG,zH,zI,zJ,zK,zL,zM,zN,zO,zP,zQ,zR,zS,zT,zU,zV,zW,zX,zY,zZ,ya,yb,yc,yd,ye,yf,yg,yh,yi,yj,yk,yl,ym,yn,yo,yp,yq,yr,yt,yu,yv,yw,yx,yy,yz,yA,yB,yC,yD,yE,yF,yG,yH,yI,yJ,yK,yL,yM,yN,yO,yP,yQ,yR,yS,yT,yU,yV,yW,yX,yY,yZ,wa,wb,wc,wd,we,wg,wj,wm,wp,wq,lA9,lB9,lC9,lD9,lE9,lF9,lG9,lH9,wt,lI9,lJ9,lK9,lL9,lM9,lN9,lO9,lP9,lQ9,lR9,lS9,lT9,↓reduceIte,Nat.reduceAdd,Nat.reduceLeDiff, v_ltr, v_muls]
      simp only [wordF, ht, if_true, wA])]
    simp only [zk, zn, we, Bool.false_and, Bool.false_eq_true, if_false, List.take_length]
    have e3 : (List.range (m : Int).toNat).map (fun k => PV.str (wordF c k)) = (wordsF c m).map PV.str := by
      rw [Int.toNat_natCast]; unfold wordsF; rw [List.map_map]; rfl
    rw [e3, fz_lst hp]
  · have ht' : decide (c / 1664 % 3 = 1) = false := decide_eq_false ht
    simp -implicitDefEqProofs (disch := omega) only [za,zb,zc,zd,ze,zf,zg,zh,zi,zj,zk,zm,zn,zo,zp,zq,zt,zu,zv,zw,zx,zy,zA,zB,zC,zD,zE,zF,zG,zH,zI,zJ,zK,zL,zM,zN,zO,zP,zQ,zR,zS,zT,zU,zV,zW,zX,zY,zZ,ya,yb,yc,yd,ye,yf,yg,yh,yi,yj,yk,yl,ym,yn,yo,yp,yq,yr,yt,yu,yv,yw,yx,yy,yz,yA,yB,yC,yD,yE,yF,yG,yH,yI,yJ,yK,yL,yM,yN,yO,yP,yQ,yR,yS,yT,yU,yV,yW,yX,yY,yZ,wa,wb,wc,wd,we,wg,wj,wm,wp,wq,lA9,lB9,lC9,lD9,lE9,lF9,lG9,lH9,wt,lI9,lJ9,lK9,lL9,lM9,lN9,lO9,lP9,lQ9,lR9,lS9,lT9,↓reduceIte,Nat.reduceAdd,Nat.reduceLeDiff, e0, v_ltr, v_muls, e1, v_lens, e2, ht']
    rw [comp_rng (m := (m : Int)) (f := fun k => .str (wordF c k)) rfl (by omega) (by omega) (fun k hk => by
      have l2 := len_ltr ((c / 4992 + 5 * (k : Int)) % 26)
      have l3 := cutS_length (wBase c) none (some (wAt c))
      have l4 := cutS_length (wBase c) (some (wAt c + 1)) none
      have l5 := len_app (cutS (wBase c) none (some (wAt c))) (ltr ((c / 4992 + 5 * (k : Int)) % 26))
      simp -implicitDefEqProofs (disch := omega) only [za,zb,zc,zd,ze,zf,zg,zh,zi,zj,zk,zm,zn,zo,zp,zq,zt,zu,zv,zw,zx,zy,zA,zB,zC,zD,zE,zF,zG,zH,zI,zJ,zK,zL,zM,zN,zO,zP,zQ,zR,zS,zT,zU,zV,zW,zX,zY,zZ,ya,yb,yc,yd,ye,yf,yg,yh,yi,yj,yk,yl,ym,yn,yo,yp,yq,yr,yt,yu,yv,yw,yx,yy,yz,yA,yB,yC,yD,yE,yF,yG,yH,yI,yJ,yK,yL,yM,yN,yO,yP,yQ,yR,yS,yT,yU,yV,yW,yX,yY,yZ,wa,wb,wc,wd,we,wg,wj,wm,wp,wq,lA9,lB9,lC9,lD9,lE9,lF9,lG9,lH9,wt,lI9,lJ9,lK9,lL9,lM9,lN9,lO9,lP9,lQ9,lR9,lS9,lT9,↓reduceIte,Nat.reduceAdd,Nat.reduceLeDiff, v_ltr, v_muls, v_sls, v_adds]
      simp only [wordF, ht, if_false, wB])]
    simp only [zk, zn, we, Bool.false_and, Bool.false_eq_true, if_false, List.take_length]
    have e3 : (List.range (m : Int).toNat).map (fun k => PV.str (wordF c k)) = (wordsF c m).map PV.str := by
      rw [Int.toNat_natCast]; unfold wordsF; rw [List.map_map]; rfl
    rw [e3, fz_lst hp]
theorem len_words (c : Int) (m : Nat) : (wordsF c m).length = m := by simp [wordsF]
end Lk
namespace Lk
open PySem L2 Vm
inductive Trm where
  | num (n : Int)
  | name (x : Str)
  | bin (k : Nat) (a b : Trm)
def opS : Nat → Str
  | 0 => "sum"
  | 1 => "less"
  | _ => "times"
def Trm.pv : Trm → PV
  | .num n => .tup [.str "num", .int n]
  | .name x => .tup [.str "name", .str x]
  | .bin k a b => .tup [.str (opS k), a.pv, b.pv]
theorem Trm.pure : ∀ t : Trm, pureP t.pv = true
  | .num n => rfl
  | .name x => rfl
  | .bin k a b => by
    show pures [.str (opS k), a.pv, b.pv] = true
    simp [pures, pureP, a.pure, b.pure]
theorem fz_tm {s : VSt} {k : Nat} (t : Trm) : freeze s k t.pv = t.pv := freeze_pure _ t.pure
theorem fz_tup {s : VSt} {k : Nat} {xs : List PV} : freeze s k (.tup xs) = .tup (freezes s k xs) := by unfold freeze; exact Eq.trans rfl rfl
theorem fzs_nil {s : VSt} {k : Nat} : freezes s k [] = [] := by unfold freezes; exact Eq.trans rfl rfl
theorem fzs_cons {s : VSt} {k : Nat} {x : PV} {xs : List PV} : freezes s k (x :: xs) = freeze s k x :: freezes s k xs := by rw [freezes]
def Trm.size : Trm → Nat
  | .bin _ a b => a.size + b.size + 1
  | _ => 1
def Trm.depth : Trm → Nat
  | .bin _ a b => max a.depth b.depth + 1
  | _ => 0
/-- numbers in their range, names of the words -/
def Trm.Good (ok : Str → Prop) : Trm → Prop
  | .num n => 0 ≤ n ∧ n < 1000003
  | .name x => ok x
  | .bin k a b => k < 3 ∧ a.Good ok ∧ b.Good ok
def leafF (ws : List Str) (c : Int) : Trm :=
  if c % 6 = 0 then .num (c / 6 % 3) else if c % 6 = 1 then .num (c / 6 % 1000003) else .name (ws.getD (c / 6 % (ws.length : Int)).toNat "")
def termF (ws : List Str) : Nat → Int → Trm
  | 0, c => leafF ws c
  | d + 1, c => if c % 6 < 4 then leafF ws c else .bin (c / 6 % 3).toNat (termF ws d (mixedF c 1)) (termF ws d (mixedF c 2))
theorem v_word {ws : List Str} {i : Int} {st : VSt} (h0 : 0 ≤ i) (h1 : i < (ws.length : Int)) : vIx (.lst (ws.map PV.str)) (.int i) st = .ok (.str (ws.getD i.toNat "")) st := by
  rw [v_ixl, at_in h0 (by rw [List.length_map]; exact h1)]
  have : i.toNat < ws.length := by omega
  rw [List.getElem_map, List.getD_eq_getElem?_getD, List.getElem?_eq_getElem this]
  rfl
theorem v_ops {i : Int} {st : VSt} (h0 : 0 ≤ i) (h1 : i < 3) : vIx (.lst [.str "sum", .str "less", .str "times"]) (.int i) st = .ok (.str (opS i.toNat)) st := by
  have : i = 0 ∨ i = 1 ∨ i = 2 := by omega
  rcases this with rfl | rfl | rfl
  · rw [v_ixl, at_0]; exact Eq.trans rfl rfl
  · rw [v_ixl, at_1]; exact Eq.trans rfl rfl
  · rw [v_ixl, at_2]; exact Eq.trans rfl rfl
theorem leaf_good {ws : List Str} (c : Int) (hw : 0 < ws.length) : (leafF ws c).Good (· ∈ ws) := by
  unfold leafF
  split
  · show 0 ≤ c / 6 % 3 ∧ c / 6 % 3 < 1000003
    omega
  · split
    · show 0 ≤ c / 6 % 1000003 ∧ c / 6 % 1000003 < 1000003
      omega
    · show ws.getD _ _ ∈ ws
      have h0 : 0 ≤ c / 6 % (ws.length : Int) := Int.emod_nonneg _ (by omega)
      have h1 : c / 6 % (ws.length : Int) < ws.length := Int.emod_lt_of_pos _ (by omega)
      have : (c / 6 % (ws.length : Int)).toNat < ws.length := by omega
      rw [List.getD_eq_getElem?_getD, List.getElem?_eq_getElem this]
      exact List.getElem_mem _
theorem term_good {ws : List Str} (hw : 0 < ws.length) : ∀ (d : Nat) (c : Int), (termF ws d c).Good (· ∈ ws)
  | 0, c => leaf_good c hw
  | d + 1, c => by
    unfold termF
    split
    · exact leaf_good c hw
    · exact ⟨by omega, term_good hw d _, term_good hw d _⟩
theorem leaf_depth (ws : List Str) (c : Int) : (leafF ws c).depth = 0 := by
  unfold leafF
  split
  · rfl
  · split <;> rfl
theorem leaf_size (ws : List Str) (c : Int) : (leafF ws c).size = 1 := by
  unfold leafF
  split
  · rfl
  · split <;> rfl
theorem term_depth (ws : List Str) : ∀ (d : Nat) (c : Int), (termF ws d c).depth ≤ d
  | 0, c => by unfold termF; rw [leaf_depth]; exact Nat.le_refl _
  | d + 1, c => by
    unfold termF
    split
    · rw [leaf_depth]; exact Nat.zero_le _
    · have h1 := term_depth ws d (mixedF c 1)
      have h2 := term_depth ws d (mixedF c 2)
      show max _ _ + 1 ≤ _
      omega
theorem term_size (ws : List Str) : ∀ (d : Nat) (c : Int), (termF ws d c).size < 2 ^ (d + 1)
  | 0, c => by unfold termF; rw [leaf_size]; decide
  | d + 1, c => by
    have h3 : 2 ^ (d + 1 + 1) = 2 * 2 ^ (d + 1) := by rw [Nat.pow_succ]; omega
    have h4 : 0 < 2 ^ (d + 1) := Nat.two_pow_pos _
    unfold termF
    split
    · rw [leaf_size]; omega
    · have h1 := term_size ws d (mixedF c 1)
      have h2 := term_size ws d (mixedF c 2)
      show _ + _ + 1 < _
      omega
theorem F_leaf {n : Nat} {c : Int} {ws : List Str} {d : Nat} {st : VSt} (hw : 0 < ws.length) (hd : c % 6 < 4 ∨ d = 0) : Fm D (n + 1) i__law_term [.int c, .lst (ws.map PV.str), .int (d : Int)] st = .ok (leafF ws c).pv st := by
  rw [c__law_term]
  unfold b__law_term leafF
  have hl : ((ws.map PV.str).length : Int) = (ws.length : Int) := by rw [List.length_map]
  have h0 : 0 ≤ c / 6 % (ws.length : Int) := Int.emod_nonneg _ (by omega)
  have h1 : c / 6 % (ws.length : Int) < ws.length := Int.emod_lt_of_pos _ (by omega)
  by_cases k0 : c % 6 = 0
  · simp -implicitDefEqProofs (disch := omega) only [za,zb,zc,zd,ze,zf,zg,zh,zi,zj,zk,zm,zn,zo,zp,zq,zt,zu,zv,zw,zx,zy,zA,zB,zC,zD,zE,zF,zG,zH,zI,zJ,zK,zL,zM,zN,zO,zP,zQ,zR,zS,zT,zU,zV,zW,zX,zY,zZ,ya,yb,yc,yd,ye,yf,yg,yh,yi,yj,yk,yl,ym,yn,yo,yp,yq,yr,yt,yu,yv,yw,yx,yy,yz,yA,yB,yC,yD,yE,yF,yG,yH,yI,yJ,yK,yL,yM,yN,yO,yP,yQ,yR,yS,yT,yU,yV,yW,yX,yY,yZ,wa,wb,wc,wd,we,wg,wj,wm,wp,wq,lA9,lB9,lC9,lD9,lE9,lF9,lG9,lH9,wt,lI9,lJ9,lK9,lL9,lM9,lN9,lO9,lP9,lQ9,lR9,lS9,lT9,↓reduceIte,Nat.reduceAdd,Nat.reduceLeDiff, k0, fz_tup, fzs_nil, fzs_cons, Trm.pv]
  · have k0' : decide (c % 6 = 0) = false := decide_eq_false k0
    by_cases k1 : c % 6 = 1
    · simp -implicitDefEqProofs (disch := omega) only [za,zb,zc,zd,ze,zf,zg,zh,zi,zj,zk,zm,zn,zo,zp,zq,zt,zu,zv,zw,zx,zy,zA,zB,zC,zD,zE,zF,zG,zH,zI,zJ,zK,zL,zM,zN,zO,zP,zQ,zR,zS,zT,zU,zV,zW,zX,zY,zZ,ya,yb,yc,yd,ye,yf,yg,yh,yi,yj,yk,yl,ym,yn,yo,yp,yq,yr,yt,yu,yv,yw,yx,yy,yz,yA,yB,yC,yD,yE,yF,yG,yH,yI,yJ,yK,yL,yM,yN,yO,yP,yQ,yR,yS,yT,yU,yV,yW,yX,yY,yZ,wa,wb,wc,wd,we,wg,wj,wm,wp,wq,lA9,lB9,lC9,lD9,lE9,lF9,lG9,lH9,wt,lI9,lJ9,lK9,lL9,lM9,lN9,lO9,lP9,lQ9,lR9,lS9,lT9,↓reduceIte,Nat.reduceAdd,Nat.reduceLeDiff, k1, fz_tup, fzs_nil, fzs_cons, Trm.pv, Int.reduceEq]
    · have k1' : decide (c % 6 = 1) = false := decide_eq_false k1
      by_cases k2 : c % 6 < 4
      · have k2' : decide (c % 6 < 4) = true := decide_eq_true k2
        simp -implicitDefEqProofs (disch := omega) only [za,zb,zc,zd,ze,zf,zg,zh,zi,zj,zk,zm,zn,zo,zp,zq,zt,zu,zv,zw,zx,zy,zA,zB,zC,zD,zE,zF,zG,zH,zI,zJ,zK,zL,zM,zN,zO,zP,zQ,zR,zS,zT,zU,zV,zW,zX,zY,zZ,ya,yb,yc,yd,ye,yf,yg,yh,yi,yj,yk,yl,ym,yn,yo,yp,yq,yr,yt,yu,yv,yw,yx,yy,yz,yA,yB,yC,yD,yE,yF,yG,yH,yI,yJ,yK,yL,yM,yN,yO,yP,yQ,yR,yS,yT,yU,yV,yW,yX,yY,yZ,wa,wb,wc,wd,we,wg,wj,wm,wp,wq,lA9,lB9,lC9,lD9,lE9,lF9,lG9,lH9,wt,lI9,lJ9,lK9,lL9,lM9,lN9,lO9,lP9,lQ9,lR9,lS9,lT9,↓reduceIte,Nat.reduceAdd,Nat.reduceLeDiff, k0', k1', k2', k0, k1, fz_tup, fzs_nil, fzs_cons, Trm.pv, hl, v_word]
      · have k2' : decide (c % 6 < 4) = false := decide_eq_false k2
        have k3 : d = 0 := by omega
        have k3' : decide ((d : Int) = 0) = true := by rw [k3]; rfl
        simp -implicitDefEqProofs (disch := omega) only [za,zb,zc,zd,ze,zf,zg,zh,zi,zj,zk,zm,zn,zo,zp,zq,zt,zu,zv,zw,zx,zy,zA,zB,zC,zD,zE,zF,zG,zH,zI,zJ,zK,zL,zM,zN,zO,zP,zQ,zR,zS,zT,zU,zV,zW,zX,zY,zZ,ya,yb,yc,yd,ye,yf,yg,yh,yi,yj,yk,yl,ym,yn,yo,yp,yq,yr,yt,yu,yv,yw,yx,yy,yz,yA,yB,yC,yD,yE,yF,yG,yH,yI,yJ,yK,yL,yM,yN,yO,yP,yQ,yR,yS,yT,yU,yV,yW,yX,yY,yZ,wa,wb,wc,wd,we,wg,wj,wm,wp,wq,lA9,lB9,lC9,lD9,lE9,lF9,lG9,lH9,wt,lI9,lJ9,lK9,lL9,lM9,lN9,lO9,lP9,lQ9,lR9,lS9,lT9,↓reduceIte,Nat.reduceAdd,Nat.reduceLeDiff, k0', k1', k2', k3', k0, k1, fz_tup, fzs_nil, fzs_cons, Trm.pv, hl, v_word]
theorem F_term {ws : List Str} (hw : 0 < ws.length) : ∀ (d n : Nat) (c : Int) (st : VSt), Fm D (n + d + 2) i__law_term [.int c, .lst (ws.map PV.str), .int (d : Int)] st = .ok (termF ws d c).pv st
  | 0, n, c, st => F_leaf hw (.inr rfl)
  | d + 1, n, c, st => by
    unfold termF
    by_cases k2 : c % 6 < 4
    · rw [if_pos k2]
      exact F_leaf hw (.inl k2)
    · rw [if_neg k2]
      have e1 : n + (d + 1) + 2 = (n + d + 2) + 1 := by omega
      rw [e1, c__law_term]
      unfold b__law_term
      have k0' : decide (c % 6 = 0) = false := decide_eq_false (by omega)
      have k1' : decide (c % 6 = 1) = false := decide_eq_false (by omega)
      have k2' : decide (c % 6 < 4) = false := decide_eq_false k2
      have k3' : decide (((d + 1 : Nat) : Int) = 0) = false := decide_eq_false (by omega)
      have e2 : ((d + 1 : Nat) : Int) - 1 = (d : Int) := by omega
      have ih := F_term hw d n
      have fm : ∀ (a k : Int) (s : VSt), Fm D (n + d + 2) i__law_mixed [.int a, .int k] s = .ok (.int (mixedF a k)) s := fun a k s => F_mixed (n + d + 1) a k s
      have m3 : ∀ x : Int, 0 ≤ x % 3 ∧ x % 3 < 3 := fun x => by omega
      simp -implicitDefEqProofs (disch := omega) only [za,zb,zc,zd,ze,zf,zg,zh,zi,zj,zk,zm,zn,zo,zp,zq,zt,zu,zv,zw,zx,zy,zA,zB,zC,zD,zE,zF,zG,zH,zI,zJ,zK,zL,zM,zN,zO,zP,zQ,zR,zS,zT,zU,zV,zW,zX,zY,zZ,ya,yb,yc,yd,ye,yf,yg,yh,yi,yj,yk,yl,ym,yn,yo,yp,yq,yr,yt,yu,yv,yw,yx,yy,yz,yA,yB,yC,yD,yE,yF,yG,yH,yI,yJ,yK,yL,yM,yN,yO,yP,yQ,yR,yS,yT,yU,yV,yW,yX,yY,yZ,wa,wb,wc,wd,we,wg,wj,wm,wp,wq,lA9,lB9,lC9,lD9,lE9,lF9,lG9,lH9,wt,lI9,lJ9,lK9,lL9,lM9,lN9,lO9,lP9,lQ9,lR9,lS9,lT9,↓reduceIte,Nat.reduceAdd,Nat.reduceLeDiff, k0', k1', k2', k3', e2, ih, fm, v_ops, fz_tup, fzs_nil, fzs_cons, fz_tm, Trm.pv]
end Lk
namespace Lk
open PySem L2 Vm
def put (ks : List Str) (x : Str) : List Str := if x ∈ ks then ks else ks ++ [x]
def Trm.names : Trm → List Str
  | .num _ => []
  | .name x => [x]
  | .bin _ a b => a.names ++ b.names
def Trm.once (t : Trm) : List Str := t.names.foldl put []
theorem Trm.good_names {ok : Str → Prop} : ∀ {t : Trm}, t.Good ok → ∀ x ∈ t.names, ok x
  | .num _, _, x, h => by cases h
  | .name y, g, x, h => by
    obtain rfl : x = y := by simpa [Trm.names] using h
    exact g
  | .bin k a b, g, x, h => by
    rcases List.mem_append.mp h with z | z
    · exact a.good_names g.2.1 x z
    · exact b.good_names g.2.2 x z
theorem set_end {s : VSt} {p q : PV} : (s ++ [p]).set s.length q = s ++ [q] := by
  rw [List.set_append_right _ _ (Nat.le_refl _), Nat.sub_self]; rfl
theorem deref_end {s : VSt} {p : PV} : deref (s ++ [p]) (.loc s.length) = p := by
  show (s ++ [p]).getD s.length .non = p
  rw [List.getD_eq_getElem?_getD, List.getElem?_append_right (Nat.le_refl _)]
  simp
end Lk
namespace Lk
open PySem L2 Vm
inductive Row where
  | set (x : Str) (t : Trm)
  | tell (t : Trm)
  | call (x : Option Str) (f : Str) (ts : List Trm)
  | when (t : Trm) (rs : List Row)
  | again (n : Int) (rs : List Row)
def optS : Option Str → PV
  | none => .non
  | some x => .str x
mutual
def Row.pv : Row → PV
  | .set x t => .tup [.str "set", .str x, t.pv]
  | .tell t => .tup [.str "tell", t.pv]
  | .call x f ts => .tup [.str "call", optS x, .str f, .tup (ts.map Trm.pv)]
  | .when t rs => .tup [.str "when", t.pv, .tup (Row.pvs rs)]
  | .again n rs => .tup [.str "again", .int n, .tup (Row.pvs rs)]
def Row.pvs : List Row → List PV
  | [] => []
  | r :: rs => r.pv :: Row.pvs rs
end
theorem pvs_map : ∀ rs : List Row, Row.pvs rs = rs.map Row.pv
  | [] => by unfold Row.pvs; exact Eq.trans rfl rfl
  | r :: rs => by rw [Row.pvs, pvs_map rs, List.map_cons]
theorem trms_pure : ∀ ts : List Trm, pures (ts.map Trm.pv) = true
  | [] => rfl
  | t :: ts => by
    rw [List.map_cons]; unfold pures
    rw [t.pure, trms_pure ts]; rfl
theorem opt_pure (x : Option Str) : pureP (optS x) = true := by cases x <;> rfl
mutual
theorem Row.pure : ∀ r : Row, pureP r.pv = true
  | .set x t => by
    rw [Row.pv]
    simp [pureP, Vm.pures, t.pure]
  | .tell t => by
    rw [Row.pv]
    simp [pureP, Vm.pures, t.pure]
  | .call x f ts => by
    rw [Row.pv]
    simp [pureP, Vm.pures, opt_pure, trms_pure]
  | .when t rs => by
    rw [Row.pv]
    simp [pureP, Vm.pures, t.pure, Row.pures rs]
  | .again n rs => by
    rw [Row.pv]
    simp [pureP, Vm.pures, Row.pures rs]
theorem Row.pures : ∀ rs : List Row, Vm.pures (Row.pvs rs) = true
  | [] => by rw [Row.pvs]; rfl
  | r :: rs => by
    rw [Row.pvs]; unfold Vm.pures
    rw [r.pure, Row.pures rs]; rfl
end
structure Fnc where
  name : Str
  pars : List Str
  rows : List Row
  res : Trm
def Fnc.pv (f : Fnc) : PV := .tup [.str f.name, .tup (f.pars.map PV.str), .tup (Row.pvs f.rows), f.res.pv]
theorem Fnc.pure (f : Fnc) : pureP f.pv = true := by
  unfold Fnc.pv
  simp [pureP, pures, pures_strs, f.res.pure, Row.pures f.rows]
theorem fncs_pure : ∀ fs : List Fnc, pures (fs.map Fnc.pv) = true
  | [] => rfl
  | f :: fs => by
    rw [List.map_cons]; unfold pures
    rw [f.pure, fncs_pure fs]; rfl
def givenF (ws : List Str) (x : Str) (c : Int) : Trm := if c % 2 = 0 then .name x else termF ws 1 (c / 2)
theorem F_given {ws : List Str} (hw : 0 < ws.length) (n : Nat) (c : Int) (x : Str) (st : VSt) : Fm D (n + 4) i__law_given [.int c, .lst (ws.map PV.str), .str x] st = .ok (givenF ws x c).pv st := by
  rw [c__law_given]
  unfold b__law_given givenF
  have ht : ∀ (a : Int) (s : VSt), Fm D (n + 3) i__law_term [.int a, .lst (ws.map PV.str), .int 1] s = .ok (termF ws 1 a).pv s := fun a s => F_term hw 1 n a s
  by_cases k0 : c % 2 = 0
  · have k0' : decide (c % 2 = 0) = true := decide_eq_true k0
    simp -implicitDefEqProofs (disch := omega) only [za,zb,zc,zd,ze,zf,zg,zh,zi,zj,zk,zm,zn,zo,zp,zq,zt,zu,zv,zw,zx,zy,zA,zB,zC,zD,zE,zF,zG,zH,zI,zJ,zK,zL,zM,zN,zO,zP,zQ,zR,zS,zT,zU,zV,zW,zX,zY,zZ,ya,yb,yc,yd,ye,yf,yg,yh,yi,yj,yk,yl,ym,yn,yo,yp,yq,yr,yt,yu,yv,yw,yx,yy,yz,yA,yB,yC,yD,yE,yF,yG,yH,yI,yJ,yK,yL,yM,yN,yO,yP,yQ,yR,yS,yT,yU,yV,yW,yX,yY,yZ,wa,wb,wc,wd,we,wg,wj,wm,wp,wq,lA9,lB9,lC9,lD9,lE9,lF9,lG9,lH9,wt,lI9,lJ9,lK9,lL9,lM9,lN9,lO9,lP9,lQ9,lR9,lS9,lT9,↓reduceIte,Nat.reduceAdd,Nat.reduceLeDiff, k0, fz_tup, fzs_nil, fzs_cons, Trm.pv]
  · have k0' : decide (c % 2 = 0) = false := decide_eq_false k0
    simp -implicitDefEqProofs (disch := omega) only [za,zb,zc,zd,ze,zf,zg,zh,zi,zj,zk,zm,zn,zo,zp,zq,zt,zu,zv,zw,zx,zy,zA,zB,zC,zD,zE,zF,zG,zH,zI,zJ,zK,zL,zM,zN,zO,zP,zQ,zR,zS,zT,zU,zV,zW,zX,zY,zZ,ya,yb,yc,yd,ye,yf,yg,yh,yi,yj,yk,yl,ym,yn,yo,yp,yq,yr,yt,yu,yv,yw,yx,yy,yz,yA,yB,yC,yD,yE,yF,yG,yH,yI,yJ,yK,yL,yM,yN,yO,yP,yQ,yR,yS,yT,yU,yV,yW,yX,yY,yZ,wa,wb,wc,wd,we,wg,wj,wm,wp,wq,lA9,lB9,lC9,lD9,lE9,lF9,lG9,lH9,wt,lI9,lJ9,lK9,lL9,lM9,lN9,lO9,lP9,lQ9,lR9,lS9,lT9,↓reduceIte,Nat.reduceAdd,Nat.reduceLeDiff, k0', k0, ht, fz_tm]
def noFnc : Fnc := ⟨"", [], [], .num 0⟩
theorem v_fnc {hs : List Fnc} {i : Int} {st : VSt} (h0 : 0 ≤ i) (h1 : i < (hs.length : Int)) : vIx (.lst (hs.map Fnc.pv)) (.int i) st = .ok (hs.getD i.toNat noFnc).pv st := by
  rw [v_ixl, at_in h0 (by rw [List.length_map]; exact h1)]
  have : i.toNat < hs.length := by omega
  rw [List.getElem_map, List.getD_eq_getElem?_getD, List.getElem?_eq_getElem this]
  rfl
theorem v_wordt {ws : List Str} {i : Int} {st : VSt} (h0 : 0 ≤ i) (h1 : i < (ws.length : Int)) : vIx (.tup (ws.map PV.str)) (.int i) st = .ok (.str (ws.getD i.toNat "")) st := by
  rw [v_ixt, at_in h0 (by rw [List.length_map]; exact h1)]
  have : i.toNat < ws.length := by omega
  rw [List.getElem_map, List.getD_eq_getElem?_getD, List.getElem?_eq_getElem this]
  rfl
theorem v_f0 {f : Fnc} {st : VSt} : vIx f.pv (.int 0) st = .ok (.str f.name) st := yu
theorem v_f1 {f : Fnc} {st : VSt} : vIx f.pv (.int 1) st = .ok (.tup (f.pars.map PV.str)) st := yw
theorem v_f2 {f : Fnc} {st : VSt} : vIx f.pv (.int 2) st = .ok (.tup (Row.pvs f.rows)) st := yy
def headF (hs : List Fnc) (c : Int) : Fnc := hs.getD (c / 7 % (hs.length : Int)).toNat noFnc
def argF (ws : List Str) (h : Fnc) (c : Int) (k : Nat) : Trm := givenF ws (h.pars.getD k "") (mixedF c (10 + (k : Int)))
def callF (ws : List Str) (hs : List Fnc) (c : Int) : Row :=
  .call (if c % 3 = 0 then none else some (ws.getD (c / 49 % (ws.length : Int)).toNat "")) (headF hs c).name ((List.range (headF hs c).pars.length).map (argF ws (headF hs c) c))
theorem F_call {ws : List Str} {hs : List Fnc} (hw : 0 < ws.length) (hh : 0 < hs.length) (n : Nat) (c : Int) (st : VSt) (hp : (headF hs c).pars.length ≤ 1000) : Fm D (n + 5) i__law_call [.int c, .lst (ws.map PV.str), .lst (hs.map Fnc.pv)] st = .ok (callF ws hs c).pv st := by
  rw [c__law_call]
  unfold b__law_call
  have l1 : ((ws.map PV.str).length : Int) = (ws.length : Int) := by rw [List.length_map]
  have l2 : ((hs.map Fnc.pv).length : Int) = (hs.length : Int) := by rw [List.length_map]
  have l3 : (((headF hs c).pars.map PV.str).length : Int) = ((headF hs c).pars.length : Int) := by rw [List.length_map]
  have g0 : 0 ≤ c / 7 % (hs.length : Int) := Int.emod_nonneg _ (by omega)
  have g1 : c / 7 % (hs.length : Int) < hs.length := Int.emod_lt_of_pos _ (by omega)
  have g2 : 0 ≤ c / 49 % (ws.length : Int) := Int.emod_nonneg _ (by omega)
  have g3 : c / 49 % (ws.length : Int) < ws.length := Int.emod_lt_of_pos _ (by omega)
  have hv : ∀ s, vIx (.lst (hs.map Fnc.pv)) (.int (c / 7 % (hs.length : Int))) s = .ok (headF hs c).pv s := fun s => v_fnc g0 g1
  have hm : ∀ (a k : Int) (s : VSt), Fm D (n + 4) i__law_mixed [.int a, .int k] s = .ok (.int (mixedF a k)) s := fun a k s => F_mixed (n + 3) a k s
  have hg : ∀ (a : Int) (x : Str) (s : VSt), Fm D (n + 4) i__law_given [.int a, .lst (ws.map PV.str), .str x] s = .ok (givenF ws x a).pv s := fun a x s => F_given hw n a x s
  simp -implicitDefEqProofs (disch := omega) only [za,zb,zc,zd,ze,zf,zg,zh,zi,zj,zk,zm,zn,zo,zp,zq,zt,zu,zv,zw,zx,zy,zA,zB,zC,zD,zE,zF,zG,zH,zI,zJ,zK,zL,zM,zN,zO,zP,zQ,zR,zS,zT,zU,zV,zW,zX,zY,zZ,ya,yb,yc,yd,ye,yf,yg,yh,yi,yj,yk,yl,ym,yn,yo,yp,yq,yr,yt,yu,yv,yw,yx,yy,yz,yA,yB,yC,yD,yE,yF,yG,yH,yI,yJ,yK,yL,yM,yN,yO,yP,yQ,yR,yS,yT,yU,yV,yW,yX,yY,yZ,wa,wb,wc,wd,we,wg,wj,wm,wp,wq,lA9,lB9,lC9,lD9,lE9,lF9,lG9,lH9,wt,lI9,lJ9,lK9,lL9,lM9,lN9,lO9,lP9,lQ9,lR9,lS9,lT9,↓reduceIte,Nat.reduceAdd,Nat.reduceLeDiff, l2, hv]
  rw [comp_rng (m := ((headF hs c).pars.length : Int)) (f := fun k => (argF ws (headF hs c) c k).pv) (by
    simp -implicitDefEqProofs (disch := omega) only [za,zb,zc,zd,ze,zf,zg,zh,zi,zj,zk,zm,zn,zo,zp,zq,zt,zu,zv,zw,zx,zy,zA,zB,zC,zD,zE,zF,zG,zH,zI,zJ,zK,zL,zM,zN,zO,zP,zQ,zR,zS,zT,zU,zV,zW,zX,zY,zZ,ya,yb,yc,yd,ye,yf,yg,yh,yi,yj,yk,yl,ym,yn,yo,yp,yq,yr,yt,yu,yv,yw,yx,yy,yz,yA,yB,yC,yD,yE,yF,yG,yH,yI,yJ,yK,yL,yM,yN,yO,yP,yQ,yR,yS,yT,yU,yV,yW,yX,yY,yZ,wa,wb,wc,wd,we,wg,wj,wm,wp,wq,lA9,lB9,lC9,lD9,lE9,lF9,lG9,lH9,wt,lI9,lJ9,lK9,lL9,lM9,lN9,lO9,lP9,lQ9,lR9,lS9,lT9,↓reduceIte,Nat.reduceAdd,Nat.reduceLeDiff, v_f1, l3]) (by omega) (by omega) (fun k hk => by
    have hk2 : ∀ s, vIx (.tup ((headF hs c).pars.map PV.str)) (.int (k : Int)) s = .ok (.str ((headF hs c).pars.getD k "")) s := fun s => v_wordt (by omega) hk
    simp -implicitDefEqProofs (disch := omega) only [za,zb,zc,zd,ze,zf,zg,zh,zi,zj,zk,zm,zn,zo,zp,zq,zt,zu,zv,zw,zx,zy,zA,zB,zC,zD,zE,zF,zG,zH,zI,zJ,zK,zL,zM,zN,zO,zP,zQ,zR,zS,zT,zU,zV,zW,zX,zY,zZ,ya,yb,yc,yd,ye,yf,yg,yh,yi,yj,yk,yl,ym,yn,yo,yp,yq,yr,yt,yu,yv,yw,yx,yy,yz,yA,yB,yC,yD,yE,yF,yG,yH,yI,yJ,yK,yL,yM,yN,yO,yP,yQ,yR,yS,yT,yU,yV,yW,yX,yY,yZ,wa,wb,wc,wd,we,wg,wj,wm,wp,wq,lA9,lB9,lC9,lD9,lE9,lF9,lG9,lH9,wt,lI9,lJ9,lK9,lL9,lM9,lN9,lO9,lP9,lQ9,lR9,lS9,lT9,↓reduceIte,Nat.reduceAdd,Nat.reduceLeDiff, v_f1, hm, hk2, hg, argF])]
  have e1 : (List.range ((headF hs c).pars.length : Int).toNat).map (fun k => (argF ws (headF hs c) c k).pv) = ((List.range (headF hs c).pars.length).map (argF ws (headF hs c) c)).map Trm.pv := by
    rw [Int.toNat_natCast, List.map_map]; rfl
  rw [e1]
  by_cases k0 : c % 3 = 0
  · have e2 : callF ws hs c = .call none (headF hs c).name ((List.range (headF hs c).pars.length).map (argF ws (headF hs c) c)) := by unfold callF; rw [if_pos k0]
    have fp := (callF ws hs c).pure
    rw [e2, Row.pv] at fp
    have fz := freeze_pure (s := st) (k := st.length) _ fp
    simp only [optS] at fz
    rw [e2, Row.pv]
    simp -implicitDefEqProofs (disch := omega) only [za,zb,zc,zd,ze,zf,zg,zh,zi,zj,zk,zm,zn,zo,zp,zq,zt,zu,zv,zw,zx,zy,zA,zB,zC,zD,zE,zF,zG,zH,zI,zJ,zK,zL,zM,zN,zO,zP,zQ,zR,zS,zT,zU,zV,zW,zX,zY,zZ,ya,yb,yc,yd,ye,yf,yg,yh,yi,yj,yk,yl,ym,yn,yo,yp,yq,yr,yt,yu,yv,yw,yx,yy,yz,yA,yB,yC,yD,yE,yF,yG,yH,yI,yJ,yK,yL,yM,yN,yO,yP,yQ,yR,yS,yT,yU,yV,yW,yX,yY,yZ,wa,wb,wc,wd,we,wg,wj,wm,wp,wq,lA9,lB9,lC9,lD9,lE9,lF9,lG9,lH9,wt,lI9,lJ9,lK9,lL9,lM9,lN9,lO9,lP9,lQ9,lR9,lS9,lT9,↓reduceIte,Nat.reduceAdd,Nat.reduceLeDiff, l1, v_word, k0, v_f0, optS, fz]
  · have k0' : decide (c % 3 = 0) = false := decide_eq_false k0
    have e2 : callF ws hs c = .call (some (ws.getD (c / 49 % (ws.length : Int)).toNat "")) (headF hs c).name ((List.range (headF hs c).pars.length).map (argF ws (headF hs c) c)) := by unfold callF; rw [if_neg k0]
    have fp := (callF ws hs c).pure
    rw [e2, Row.pv] at fp
    have fz := freeze_pure (s := st) (k := st.length) _ fp
    simp only [optS] at fz
    rw [e2, Row.pv]
    simp -implicitDefEqProofs (disch := omega) only [za,zb,zc,zd,ze,zf,zg,zh,zi,zj,zk,zm,zn,zo,zp,zq,zt,zu,zv,zw,zx,zy,zA,zB,zC,zD,zE,zF,zG,zH,zI,zJ,zK,zL,zM,zN,zO,zP,zQ,zR,zS,zT,zU,zV,zW,zX,zY,zZ,ya,yb,yc,yd,ye,yf,yg,yh,yi,yj,yk,yl,ym,yn,yo,yp,yq,yr,yt,yu,yv,yw,yx,yy,yz,yA,yB,yC,yD,yE,yF,yG,yH,yI,yJ,yK,yL,yM,yN,yO,yP,yQ,yR,yS,yT,yU,yV,yW,yX,yY,yZ,wa,wb,wc,wd,we,wg,wj,wm,wp,wq,lA9,lB9,lC9,lD9,lE9,lF9,lG9,lH9,wt,lI9,lJ9,lK9,lL9,lM9,lN9,lO9,lP9,lQ9,lR9,lS9,lT9,↓reduceIte,Nat.reduceAdd,Nat.reduceLeDiff, l1, v_word, k0', v_f0, optS, fz]
end Lk
namespace Lk
open PySem L2 Vm
def rowsOf (R : Int → Row) (c m : Int) : List Row := (List.range m.toNat).map fun (k : Nat) => R (mixedF c (20 + (k : Int)))
theorem F_rows {R : Int → Row} {W Hs : PV} {d : Int} {n : Nat} (hR : ∀ (c : Int) (s : VSt), Fm D (n + 1) i__law_row [.int c, W, Hs, .int d] s = .ok (R c).pv s) (c m : Int) (h0 : 0 ≤ m) (h1 : m ≤ 1000) (st : VSt) :
    Fm D (n + 2) i__law_rows [.int c, W, Hs, .int d, .int m] st = .ok (.tup (Row.pvs (rowsOf R c m))) st := by
  rw [c__law_rows]
  unfold b__law_rows
  have hm : ∀ (a k : Int) (s : VSt), Fm D (n + 1) i__law_mixed [.int a, .int k] s = .ok (.int (mixedF a k)) s := fun a k s => F_mixed n a k s
  have fz : freeze st st.length (.tup (Row.pvs (rowsOf R c m))) = .tup (Row.pvs (rowsOf R c m)) := freeze_pure _ (Row.pures _)
  simp -implicitDefEqProofs (disch := omega) only [za,zb,zc,zd,ze,zf,zg,zh,zi,zj,zk,zm,zn,zo,zp,zq,zt,zu,zv,zw,zx,zy,zA,zB,zC,zD,zE,zF,zG,zH,zI,zJ,zK,zL,zM,zN,zO,zP,zQ,zR,zS,zT,zU,zV,zW,zX,zY,zZ,ya,yb,yc,yd,ye,yf,yg,yh,yi,yj,yk,yl,ym,yn,yo,yp,yq,yr,yt,yu,yv,yw,yx,yy,yz,yA,yB,yC,yD,yE,yF,yG,yH,yI,yJ,yK,yL,yM,yN,yO,yP,yQ,yR,yS,yT,yU,yV,yW,yX,yY,yZ,wa,wb,wc,wd,we,wg,wj,wm,wp,wq,lA9,lB9,lC9,lD9,lE9,lF9,lG9,lH9,wt,lI9,lJ9,lK9,lL9,lM9,lN9,lO9,lP9,lQ9,lR9,lS9,lT9,↓reduceIte,Nat.reduceAdd,Nat.reduceLeDiff]
  rw [comp_rng (m := m) (f := fun k => (R (mixedF c (20 + (k : Int)))).pv) rfl h0 (by omega) (fun k hk => by
    simp -implicitDefEqProofs (disch := omega) only [za,zb,zc,zd,ze,zf,zg,zh,zi,zj,zk,zm,zn,zo,zp,zq,zt,zu,zv,zw,zx,zy,zA,zB,zC,zD,zE,zF,zG,zH,zI,zJ,zK,zL,zM,zN,zO,zP,zQ,zR,zS,zT,zU,zV,zW,zX,zY,zZ,ya,yb,yc,yd,ye,yf,yg,yh,yi,yj,yk,yl,ym,yn,yo,yp,yq,yr,yt,yu,yv,yw,yx,yy,yz,yA,yB,yC,yD,yE,yF,yG,yH,yI,yJ,yK,yL,yM,yN,yO,yP,yQ,yR,yS,yT,yU,yV,yW,yX,yY,yZ,wa,wb,wc,wd,we,wg,wj,wm,wp,wq,lA9,lB9,lC9,lD9,lE9,lF9,lG9,lH9,wt,lI9,lJ9,lK9,lL9,lM9,lN9,lO9,lP9,lQ9,lR9,lS9,lT9,↓reduceIte,Nat.reduceAdd,Nat.reduceLeDiff, hm, hR])]
  have e1 : (List.range m.toNat).map (fun (k : Nat) => (R (mixedF c (20 + (k : Int)))).pv) = Row.pvs (rowsOf R c m) := by
    rw [pvs_map]; unfold rowsOf; rw [List.map_map]; rfl
  rw [e1]
  simp -implicitDefEqProofs (disch := omega) only [za,zb,zc,zd,ze,zf,zg,zh,zi,zj,zk,zm,zn,zo,zp,zq,zt,zu,zv,zw,zx,zy,zA,zB,zC,zD,zE,zF,zG,zH,zI,zJ,zK,zL,zM,zN,zO,zP,zQ,zR,zS,zT,zU,zV,zW,zX,zY,zZ,ya,yb,yc,yd,ye,yf,yg,yh,yi,yj,yk,yl,ym,yn,yo,yp,yq,yr,yt,yu,yv,yw,yx,yy,yz,yA,yB,yC,yD,yE,yF,yG,yH,yI,yJ,yK,yL,yM,yN,yO,yP,yQ,yR,yS,yT,yU,yV,yW,yX,yY,yZ,wa,wb,wc,wd,we,wg,wj,wm,wp,wq,lA9,lB9,lC9,lD9,lE9,lF9,lG9,lH9,wt,lI9,lJ9,lK9,lL9,lM9,lN9,lO9,lP9,lQ9,lR9,lS9,lT9,↓reduceIte,Nat.reduceAdd,Nat.reduceLeDiff, fz]
def c4 (i : Int) : Int := if i = 0 then 2 else if i = 1 then 1 else if i = 2 then 2 else 0
def c5 (z i : Int) : Int := if i = 0 then 2 else if i = 1 then 3 else if i = 2 then 1 else if i = 3 then z else 0
theorem v_c4 {i : Int} {st : VSt} (h0 : 0 ≤ i) (h1 : i < 4) : vIx (.lst [.int 2, .int 1, .int 2, .int 0]) (.int i) st = .ok (.int (c4 i)) st := by
  have : i = 0 ∨ i = 1 ∨ i = 2 ∨ i = 3 := by omega
  rcases this with rfl | rfl | rfl | rfl
  · exact yt
  · exact yv
  · exact yx
  · exact yz
theorem v_c5 {i z : Int} {st : VSt} (h0 : 0 ≤ i) (h1 : i < 5) : vIx (.lst [.int 2, .int 3, .int 1, .int z, .int 0]) (.int i) st = .ok (.int (c5 z i)) st := by
  have : i = 0 ∨ i = 1 ∨ i = 2 ∨ i = 3 ∨ i = 4 := by omega
  rcases this with rfl | rfl | rfl | rfl | rfl
  · exact yt
  · exact yv
  · exact yx
  · exact yz
  · exact yB
def fewF (hs : List Fnc) (c : Int) : List Fnc := hs.take (if c / 3645 % 8 = 1 then 2 else 1)
theorem v_few {hs : List Fnc} {c : Int} {st : VSt} : vSl (.lst (hs.map Fnc.pv)) none (some (1 + if decide (c / 3645 % 8 = 1) = true then 1 else 0)) st = .ok (.lst ((fewF hs c).map Fnc.pv)) st := by
  rw [v_sll]
  unfold cutP fewF
  have key : ∀ k : Nat, ((hs.map Fnc.pv).drop (HT.sIx (hs.map Fnc.pv).length 0 none)).take (HT.sIx (hs.map Fnc.pv).length (hs.map Fnc.pv).length (some (k : Int)) - HT.sIx (hs.map Fnc.pv).length 0 none) = (hs.take k).map Fnc.pv := fun k => by
    rw [HT.sIx_none, HT.sIx_nat, List.drop_zero, Nat.sub_zero, List.map_take, List.take_eq_take_iff]
    omega
  by_cases h : c / 3645 % 8 = 1
  · rw [if_pos h, if_pos (decide_eq_true h)]
    have := key 2
    rw [show (1 + 1 : Int) = ((2 : Nat) : Int) from rfl, this]
  · rw [if_neg h, if_neg (by simpa using h)]
    have := key 1
    rw [show (1 + 0 : Int) = ((1 : Nat) : Int) from rfl, this]
def flatF (ws : List Str) (hs : List Fnc) (c : Int) : Row :=
  if c % 9 = 2 ∨ c % 9 = 8 then .tell (termF ws 2 (mixedF c 3))
  else if 2 < c % 9 ∧ c % 9 < 6 ∧ hs.isEmpty = false then callF ws hs (mixedF c 3)
  else .set (ws.getD (c / 9 % (ws.length : Int)).toNat "") (termF ws (1 + c % 9 % 2).toNat (mixedF c 3))
def cntF (hs : List Fnc) (d : Nat) (c : Int) : Int := if hs.isEmpty = true ∧ d = 2 then c5 (c / 135 % 10) (c / 27 % 5) else c4 (c / 27 % 4)
def rowF (ws : List Str) : Nat → List Fnc → Int → Row
  | 0, hs, c => flatF ws hs c
  | d + 1, hs, c =>
    if c % 9 = 6 then .when (termF ws 1 (mixedF c 4)) (rowsOf (rowF ws d (fewF hs c)) (mixedF c 3) (1 + c / 9 % 3))
    else if c % 9 = 7 then .again (cntF hs (d + 1) c) (rowsOf (rowF ws d (fewF hs c)) (mixedF c 3) (1 + c / 9 % 3))
    else flatF ws hs c
end Lk
namespace Lk
open PySem L2 Vm
theorem fz_row {s : VSt} {k : Nat} (r : Row) : freeze s k r.pv = r.pv := freeze_pure _ r.pure
/-- heads that may be compared -/
def HsOk (hs : List Fnc) : Prop := soks (hs.map Fnc.pv) = true ∧ deps (hs.map Fnc.pv) < 64 ∧ ∀ h ∈ hs, h.pars.length ≤ 1000
theorem HsOk.few {hs : List Fnc} (h : HsOk hs) (c : Int) : HsOk (fewF hs c) := by
  have ks : ∀ (n : Nat) (xs : List PV), soks xs = true → soks (xs.take n) = true := by
    intro n
    induction n with
    | zero => intro xs _; rw [List.take_zero]; rfl
    | succ n ih =>
      intro xs h
      cases xs with
      | nil => rfl
      | cons x r =>
        unfold soks at h
        rw [Bool.and_eq_true] at h
        rw [List.take_succ_cons]
        unfold soks
        rw [h.1, ih r h.2]; rfl
  have kd : ∀ (n : Nat) (xs : List PV), deps (xs.take n) ≤ deps xs := by
    intro n
    induction n with
    | zero => intro xs; rw [List.take_zero]; exact Nat.zero_le _
    | succ n ih =>
      intro xs
      cases xs with
      | nil => exact Nat.le_refl _
      | cons x r =>
        have := ih r
        rw [List.take_succ_cons]
        show max (depP x) (deps (r.take n)) ≤ max (depP x) (deps r)
        omega
  unfold fewF
  refine ⟨by rw [List.map_take]; exact ks _ _ h.1, by rw [List.map_take]; exact Nat.lt_of_le_of_lt (kd _ _) h.2.1, fun x hx => h.2.2 x (List.mem_of_mem_take hx)⟩
theorem F_flat {ws : List Str} {hs : List Fnc} (hw : 0 < ws.length) (hh : HsOk hs) (n : Nat) (c d : Int) (st : VSt) (hd : d = 0 ∨ (c % 9 ≠ 6 ∧ c % 9 ≠ 7)) :
    Fm D (n + 8) i__law_row [.int c, .lst (ws.map PV.str), .lst (hs.map Fnc.pv), .int d] st = .ok (flatF ws hs c).pv st := by
  rw [c__law_row]
  unfold b__law_row
  have l1 : ((ws.map PV.str).length : Int) = (ws.length : Int) := by rw [List.length_map]
  have g0 : 0 ≤ c / 9 % (ws.length : Int) := Int.emod_nonneg _ (by omega)
  have g1 : c / 9 % (ws.length : Int) < ws.length := Int.emod_lt_of_pos _ (by omega)
  have hm : ∀ (a k : Int) (s : VSt), Fm D (n + 7) i__law_mixed [.int a, .int k] s = .ok (.int (mixedF a k)) s := fun a k s => F_mixed (n + 6) a k s
  have t2 : ∀ (a : Int) (s : VSt), Fm D (n + 7) i__law_term [.int a, .lst (ws.map PV.str), .int 2] s = .ok (termF ws 2 a).pv s := fun a s => F_term hw 2 (n + 3) a s
  have t1 : ∀ (a : Int) (s : VSt), Fm D (n + 7) i__law_term [.int a, .lst (ws.map PV.str), .int 1] s = .ok (termF ws 1 a).pv s := fun a s => F_term hw 1 (n + 4) a s
  have tc : ∀ (a : Int) (s : VSt), hs.isEmpty = false → Fm D (n + 7) i__law_call [.int a, .lst (ws.map PV.str), .lst (hs.map Fnc.pv)] s = .ok (callF ws hs a).pv s := fun a s he => by
    have hl : 0 < hs.length := by
      cases hs with
      | nil => cases he
      | cons _ _ => exact Nat.succ_pos _
    refine F_call hw hl (n + 2) a s (hh.2.2 _ ?_)
    unfold headF
    have q0 : 0 ≤ a / 7 % (hs.length : Int) := Int.emod_nonneg _ (by omega)
    have q1 : a / 7 % (hs.length : Int) < hs.length := Int.emod_lt_of_pos _ (by omega)
    have q2 : (a / 7 % (hs.length : Int)).toNat < hs.length := by omega
    rw [List.getD_eq_getElem?_getD, List.getElem?_eq_getElem q2]
    exact List.getElem_mem _
  have hn : ∀ s, vEqF true (.lst (hs.map Fnc.pv)) (.lst []) s = .ok (.bl (!hs.isEmpty)) s := fun s => by
    rw [v_nil hh.1 hh.2.1]
    cases hs <;> rfl
  have hd0 : d = 0 → decide (d > 0) = false := fun h => decide_eq_false (by omega)
  have ht : ∀ j, c % 9 = j → (j = 2 ∨ j = 8) → flatF ws hs c = .tell (termF ws 2 (mixedF c 3)) := fun j k h => by
    unfold flatF
    rw [if_pos (by omega)]
  have hset : ¬ (c % 9 = 2 ∨ c % 9 = 8) → ¬ (2 < c % 9 ∧ c % 9 < 6 ∧ hs.isEmpty = false) → flatF ws hs c = .set (ws.getD (c / 9 % (ws.length : Int)).toNat "") (termF ws (1 + c % 9 % 2).toNat (mixedF c 3)) := fun h k => by
    unfold flatF
    rw [if_neg h, if_neg k]
  have kk : c % 9 = 0 ∨ c % 9 = 1 ∨ c % 9 = 2 ∨ c % 9 = 8 ∨ (c % 9 = 3 ∨ c % 9 = 4 ∨ c % 9 = 5) ∨ c % 9 = 6 ∨ c % 9 = 7 := by omega
  rcases kk with k | k | k | k | k3 | k | k
  · rw [hset (by omega) (by omega), Row.pv]
    simp -implicitDefEqProofs (disch := omega) only [za,zb,zc,zd,ze,zf,zg,zh,zi,zj,zk,zm,zn,zo,zp,zq,zt,zu,zv,zw,zx,zy,zA,zB,zC,zD,zE,zF,zG,zH,zI,zJ,zK,zL,zM,zN,zO,zP,zQ,zR,zS,zT,zU,zV,zW,zX,zY,zZ,ya,yb,yc,yd,ye,yf,yg,yh,yi,yj,yk,yl,ym,yn,yo,yp,yq,yr,yt,yu,yv,yw,yx,yy,yz,yA,yB,yC,yD,yE,yF,yG,yH,yI,yJ,yK,yL,yM,yN,yO,yP,yQ,yR,yS,yT,yU,yV,yW,yX,yY,yZ,wa,wb,wc,wd,we,wg,wj,wm,wp,wq,lA9,lB9,lC9,lD9,lE9,lF9,lG9,lH9,wt,lI9,lJ9,lK9,lL9,lM9,lN9,lO9,lP9,lQ9,lR9,lS9,lT9,↓reduceIte,Nat.reduceAdd,Nat.reduceLeDiff, hm, l1, v_word, v_sll, hn, t1, t2, Int.reduceEq, Int.reduceLT, Int.reduceMod, Int.reduceAdd, Int.reduceToNat, fz_tup, fzs_nil, fzs_cons, fz_tm, fz_row, k]
  · rw [hset (by omega) (by omega), Row.pv]
    simp -implicitDefEqProofs (disch := omega) only [za,zb,zc,zd,ze,zf,zg,zh,zi,zj,zk,zm,zn,zo,zp,zq,zt,zu,zv,zw,zx,zy,zA,zB,zC,zD,zE,zF,zG,zH,zI,zJ,zK,zL,zM,zN,zO,zP,zQ,zR,zS,zT,zU,zV,zW,zX,zY,zZ,ya,yb,yc,yd,ye,yf,yg,yh,yi,yj,yk,yl,ym,yn,yo,yp,yq,yr,yt,yu,yv,yw,yx,yy,yz,yA,yB,yC,yD,yE,yF,yG,yH,yI,yJ,yK,yL,yM,yN,yO,yP,yQ,yR,yS,yT,yU,yV,yW,yX,yY,yZ,wa,wb,wc,wd,we,wg,wj,wm,wp,wq,lA9,lB9,lC9,lD9,lE9,lF9,lG9,lH9,wt,lI9,lJ9,lK9,lL9,lM9,lN9,lO9,lP9,lQ9,lR9,lS9,lT9,↓reduceIte,Nat.reduceAdd,Nat.reduceLeDiff, hm, l1, v_word, v_sll, hn, t1, t2, Int.reduceEq, Int.reduceLT, Int.reduceMod, Int.reduceAdd, Int.reduceToNat, fz_tup, fzs_nil, fzs_cons, fz_tm, fz_row, k]
  · rw [ht _ k (by omega), Row.pv]
    simp -implicitDefEqProofs (disch := omega) only [za,zb,zc,zd,ze,zf,zg,zh,zi,zj,zk,zm,zn,zo,zp,zq,zt,zu,zv,zw,zx,zy,zA,zB,zC,zD,zE,zF,zG,zH,zI,zJ,zK,zL,zM,zN,zO,zP,zQ,zR,zS,zT,zU,zV,zW,zX,zY,zZ,ya,yb,yc,yd,ye,yf,yg,yh,yi,yj,yk,yl,ym,yn,yo,yp,yq,yr,yt,yu,yv,yw,yx,yy,yz,yA,yB,yC,yD,yE,yF,yG,yH,yI,yJ,yK,yL,yM,yN,yO,yP,yQ,yR,yS,yT,yU,yV,yW,yX,yY,yZ,wa,wb,wc,wd,we,wg,wj,wm,wp,wq,lA9,lB9,lC9,lD9,lE9,lF9,lG9,lH9,wt,lI9,lJ9,lK9,lL9,lM9,lN9,lO9,lP9,lQ9,lR9,lS9,lT9,↓reduceIte,Nat.reduceAdd,Nat.reduceLeDiff, hm, l1, v_word, v_sll, hn, t1, t2, Int.reduceEq, Int.reduceLT, Int.reduceMod, Int.reduceAdd, Int.reduceToNat, fz_tup, fzs_nil, fzs_cons, fz_tm, fz_row, k]
  · rw [ht _ k (by omega), Row.pv]
    simp -implicitDefEqProofs (disch := omega) only [za,zb,zc,zd,ze,zf,zg,zh,zi,zj,zk,zm,zn,zo,zp,zq,zt,zu,zv,zw,zx,zy,zA,zB,zC,zD,zE,zF,zG,zH,zI,zJ,zK,zL,zM,zN,zO,zP,zQ,zR,zS,zT,zU,zV,zW,zX,zY,zZ,ya,yb,yc,yd,ye,yf,yg,yh,yi,yj,yk,yl,ym,yn,yo,yp,yq,yr,yt,yu,yv,yw,yx,yy,yz,yA,yB,yC,yD,yE,yF,yG,yH,yI,yJ,yK,yL,yM,yN,yO,yP,yQ,yR,yS,yT,yU,yV,yW,yX,yY,yZ,wa,wb,wc,wd,we,wg,wj,wm,wp,wq,lA9,lB9,lC9,lD9,lE9,lF9,lG9,lH9,wt,lI9,lJ9,lK9,lL9,lM9,lN9,lO9,lP9,lQ9,lR9,lS9,lT9,↓reduceIte,Nat.reduceAdd,Nat.reduceLeDiff, hm, l1, v_word, v_sll, hn, t1, t2, Int.reduceEq, Int.reduceLT, Int.reduceMod, Int.reduceAdd, Int.reduceToNat, fz_tup, fzs_nil, fzs_cons, fz_tm, fz_row, k]
  · cases he : hs.isEmpty with
    | false =>
      have e : flatF ws hs c = callF ws hs (mixedF c 3) := by
        unfold flatF
        rw [if_neg (by omega), if_pos ⟨by omega, by omega, he⟩]
      have tc' := fun (a : Int) (s : VSt) => tc a s he
      rw [e]
      rcases k3 with k | k | k
      · simp -implicitDefEqProofs (disch := omega) only [za,zb,zc,zd,ze,zf,zg,zh,zi,zj,zk,zm,zn,zo,zp,zq,zt,zu,zv,zw,zx,zy,zA,zB,zC,zD,zE,zF,zG,zH,zI,zJ,zK,zL,zM,zN,zO,zP,zQ,zR,zS,zT,zU,zV,zW,zX,zY,zZ,ya,yb,yc,yd,ye,yf,yg,yh,yi,yj,yk,yl,ym,yn,yo,yp,yq,yr,yt,yu,yv,yw,yx,yy,yz,yA,yB,yC,yD,yE,yF,yG,yH,yI,yJ,yK,yL,yM,yN,yO,yP,yQ,yR,yS,yT,yU,yV,yW,yX,yY,yZ,wa,wb,wc,wd,we,wg,wj,wm,wp,wq,lA9,lB9,lC9,lD9,lE9,lF9,lG9,lH9,wt,lI9,lJ9,lK9,lL9,lM9,lN9,lO9,lP9,lQ9,lR9,lS9,lT9,↓reduceIte,Nat.reduceAdd,Nat.reduceLeDiff, hm, l1, v_word, v_sll, hn, t1, t2, Int.reduceEq, Int.reduceLT, Int.reduceMod, Int.reduceAdd, Int.reduceToNat, fz_tup, fzs_nil, fzs_cons, fz_tm, fz_row, k, tc', he]
      · simp -implicitDefEqProofs (disch := omega) only [za,zb,zc,zd,ze,zf,zg,zh,zi,zj,zk,zm,zn,zo,zp,zq,zt,zu,zv,zw,zx,zy,zA,zB,zC,zD,zE,zF,zG,zH,zI,zJ,zK,zL,zM,zN,zO,zP,zQ,zR,zS,zT,zU,zV,zW,zX,zY,zZ,ya,yb,yc,yd,ye,yf,yg,yh,yi,yj,yk,yl,ym,yn,yo,yp,yq,yr,yt,yu,yv,yw,yx,yy,yz,yA,yB,yC,yD,yE,yF,yG,yH,yI,yJ,yK,yL,yM,yN,yO,yP,yQ,yR,yS,yT,yU,yV,yW,yX,yY,yZ,wa,wb,wc,wd,we,wg,wj,wm,wp,wq,lA9,lB9,lC9,lD9,lE9,lF9,lG9,lH9,wt,lI9,lJ9,lK9,lL9,lM9,lN9,lO9,lP9,lQ9,lR9,lS9,lT9,↓reduceIte,Nat.reduceAdd,Nat.reduceLeDiff, hm, l1, v_word, v_sll, hn, t1, t2, Int.reduceEq, Int.reduceLT, Int.reduceMod, Int.reduceAdd, Int.reduceToNat, fz_tup, fzs_nil, fzs_cons, fz_tm, fz_row, k, tc', he]
      · simp -implicitDefEqProofs (disch := omega) only [za,zb,zc,zd,ze,zf,zg,zh,zi,zj,zk,zm,zn,zo,zp,zq,zt,zu,zv,zw,zx,zy,zA,zB,zC,zD,zE,zF,zG,zH,zI,zJ,zK,zL,zM,zN,zO,zP,zQ,zR,zS,zT,zU,zV,zW,zX,zY,zZ,ya,yb,yc,yd,ye,yf,yg,yh,yi,yj,yk,yl,ym,yn,yo,yp,yq,yr,yt,yu,yv,yw,yx,yy,yz,yA,yB,yC,yD,yE,yF,yG,yH,yI,yJ,yK,yL,yM,yN,yO,yP,yQ,yR,yS,yT,yU,yV,yW,yX,yY,yZ,wa,wb,wc,wd,we,wg,wj,wm,wp,wq,lA9,lB9,lC9,lD9,lE9,lF9,lG9,lH9,wt,lI9,lJ9,lK9,lL9,lM9,lN9,lO9,lP9,lQ9,lR9,lS9,lT9,↓reduceIte,Nat.reduceAdd,Nat.reduceLeDiff, hm, l1, v_word, v_sll, hn, t1, t2, Int.reduceEq, Int.reduceLT, Int.reduceMod, Int.reduceAdd, Int.reduceToNat, fz_tup, fzs_nil, fzs_cons, fz_tm, fz_row, k, tc', he]
    | true =>
      have e := hset (by omega) (fun z => by rw [he] at z; cases z.2.2)
      rw [e, Row.pv]
      rcases k3 with k | k | k
      · simp -implicitDefEqProofs (disch := omega) only [za,zb,zc,zd,ze,zf,zg,zh,zi,zj,zk,zm,zn,zo,zp,zq,zt,zu,zv,zw,zx,zy,zA,zB,zC,zD,zE,zF,zG,zH,zI,zJ,zK,zL,zM,zN,zO,zP,zQ,zR,zS,zT,zU,zV,zW,zX,zY,zZ,ya,yb,yc,yd,ye,yf,yg,yh,yi,yj,yk,yl,ym,yn,yo,yp,yq,yr,yt,yu,yv,yw,yx,yy,yz,yA,yB,yC,yD,yE,yF,yG,yH,yI,yJ,yK,yL,yM,yN,yO,yP,yQ,yR,yS,yT,yU,yV,yW,yX,yY,yZ,wa,wb,wc,wd,we,wg,wj,wm,wp,wq,lA9,lB9,lC9,lD9,lE9,lF9,lG9,lH9,wt,lI9,lJ9,lK9,lL9,lM9,lN9,lO9,lP9,lQ9,lR9,lS9,lT9,↓reduceIte,Nat.reduceAdd,Nat.reduceLeDiff, hm, l1, v_word, v_sll, hn, t1, t2, Int.reduceEq, Int.reduceLT, Int.reduceMod, Int.reduceAdd, Int.reduceToNat, fz_tup, fzs_nil, fzs_cons, fz_tm, fz_row, k, he]
      · simp -implicitDefEqProofs (disch := omega) only [za,zb,zc,zd,ze,zf,zg,zh,zi,zj,zk,zm,zn,zo,zp,zq,zt,zu,zv,zw,zx,zy,zA,zB,zC,zD,zE,zF,zG,zH,zI,zJ,zK,zL,zM,zN,zO,zP,zQ,zR,zS,zT,zU,zV,zW,zX,zY,zZ,ya,yb,yc,yd,ye,yf,yg,yh,yi,yj,yk,yl,ym,yn,yo,yp,yq,yr,yt,yu,yv,yw,yx,yy,yz,yA,yB,yC,yD,yE,yF,yG,yH,yI,yJ,yK,yL,yM,yN,yO,yP,yQ,yR,yS,yT,yU,yV,yW,yX,yY,yZ,wa,wb,wc,wd,we,wg,wj,wm,wp,wq,lA9,lB9,lC9,lD9,lE9,lF9,lG9,lH9,wt,lI9,lJ9,lK9,lL9,lM9,lN9,lO9,lP9,lQ9,lR9,lS9,lT9,↓reduceIte,Nat.reduceAdd,Nat.reduceLeDiff, hm, l1, v_word, v_sll, hn, t1, t2, Int.reduceEq, Int.reduceLT, Int.reduceMod, Int.reduceAdd, Int.reduceToNat, fz_tup, fzs_nil, fzs_cons, fz_tm, fz_row, k, he]
      · simp -implicitDefEqProofs (disch := omega) only [za,zb,zc,zd,ze,zf,zg,zh,zi,zj,zk,zm,zn,zo,zp,zq,zt,zu,zv,zw,zx,zy,zA,zB,zC,zD,zE,zF,zG,zH,zI,zJ,zK,zL,zM,zN,zO,zP,zQ,zR,zS,zT,zU,zV,zW,zX,zY,zZ,ya,yb,yc,yd,ye,yf,yg,yh,yi,yj,yk,yl,ym,yn,yo,yp,yq,yr,yt,yu,yv,yw,yx,yy,yz,yA,yB,yC,yD,yE,yF,yG,yH,yI,yJ,yK,yL,yM,yN,yO,yP,yQ,yR,yS,yT,yU,yV,yW,yX,yY,yZ,wa,wb,wc,wd,we,wg,wj,wm,wp,wq,lA9,lB9,lC9,lD9,lE9,lF9,lG9,lH9,wt,lI9,lJ9,lK9,lL9,lM9,lN9,lO9,lP9,lQ9,lR9,lS9,lT9,↓reduceIte,Nat.reduceAdd,Nat.reduceLeDiff, hm, l1, v_word, v_sll, hn, t1, t2, Int.reduceEq, Int.reduceLT, Int.reduceMod, Int.reduceAdd, Int.reduceToNat, fz_tup, fzs_nil, fzs_cons, fz_tm, fz_row, k, he]
  · have d0 : d = 0 := by omega
    have d1 := hd0 d0
    rw [hset (by omega) (by omega), Row.pv]
    simp -implicitDefEqProofs (disch := omega) only [za,zb,zc,zd,ze,zf,zg,zh,zi,zj,zk,zm,zn,zo,zp,zq,zt,zu,zv,zw,zx,zy,zA,zB,zC,zD,zE,zF,zG,zH,zI,zJ,zK,zL,zM,zN,zO,zP,zQ,zR,zS,zT,zU,zV,zW,zX,zY,zZ,ya,yb,yc,yd,ye,yf,yg,yh,yi,yj,yk,yl,ym,yn,yo,yp,yq,yr,yt,yu,yv,yw,yx,yy,yz,yA,yB,yC,yD,yE,yF,yG,yH,yI,yJ,yK,yL,yM,yN,yO,yP,yQ,yR,yS,yT,yU,yV,yW,yX,yY,yZ,wa,wb,wc,wd,we,wg,wj,wm,wp,wq,lA9,lB9,lC9,lD9,lE9,lF9,lG9,lH9,wt,lI9,lJ9,lK9,lL9,lM9,lN9,lO9,lP9,lQ9,lR9,lS9,lT9,↓reduceIte,Nat.reduceAdd,Nat.reduceLeDiff, hm, l1, v_word, v_sll, hn, t1, t2, Int.reduceEq, Int.reduceLT, Int.reduceMod, Int.reduceAdd, Int.reduceToNat, fz_tup, fzs_nil, fzs_cons, fz_tm, fz_row, k, d1]
  · have d0 : d = 0 := by omega
    have d1 := hd0 d0
    rw [hset (by omega) (by omega), Row.pv]
    simp -implicitDefEqProofs (disch := omega) only [za,zb,zc,zd,ze,zf,zg,zh,zi,zj,zk,zm,zn,zo,zp,zq,zt,zu,zv,zw,zx,zy,zA,zB,zC,zD,zE,zF,zG,zH,zI,zJ,zK,zL,zM,zN,zO,zP,zQ,zR,zS,zT,zU,zV,zW,zX,zY,zZ,ya,yb,yc,yd,ye,yf,yg,yh,yi,yj,yk,yl,ym,yn,yo,yp,yq,yr,yt,yu,yv,yw,yx,yy,yz,yA,yB,yC,yD,yE,yF,yG,yH,yI,yJ,yK,yL,yM,yN,yO,yP,yQ,yR,yS,yT,yU,yV,yW,yX,yY,yZ,wa,wb,wc,wd,we,wg,wj,wm,wp,wq,lA9,lB9,lC9,lD9,lE9,lF9,lG9,lH9,wt,lI9,lJ9,lK9,lL9,lM9,lN9,lO9,lP9,lQ9,lR9,lS9,lT9,↓reduceIte,Nat.reduceAdd,Nat.reduceLeDiff, hm, l1, v_word, v_sll, hn, t1, t2, Int.reduceEq, Int.reduceLT, Int.reduceMod, Int.reduceAdd, Int.reduceToNat, fz_tup, fzs_nil, fzs_cons, fz_tm, fz_row, k, d1]
end Lk
namespace Lk
open PySem L2 Vm
theorem fz_pvs {s : VSt} {k : Nat} (rs : List Row) : freezes s k (Row.pvs rs) = Row.pvs rs := freezes_pure _ (Row.pures rs)
theorem v_few2 {hs : List Fnc} {c : Int} {st : VSt} : vSl (.lst (hs.map Fnc.pv)) none (some (1 + if c / 3645 % 8 = 1 then 1 else 0)) st = .ok (.lst ((fewF hs c).map Fnc.pv)) st := by
  have := v_few (hs := hs) (c := c) (st := st)
  by_cases h : c / 3645 % 8 = 1
  · rw [if_pos h]
    rw [if_pos (decide_eq_true h)] at this
    exact this
  · rw [if_neg h]
    rw [if_neg (by simpa using h)] at this
    exact this
theorem F_row {ws : List Str} (hw : 0 < ws.length) : ∀ (d n : Nat) (hs : List Fnc) (c : Int) (st : VSt), HsOk hs →
    Fm D (n + 2 * d + 8) i__law_row [.int c, .lst (ws.map PV.str), .lst (hs.map Fnc.pv), .int (d : Int)] st = .ok (rowF ws d hs c).pv st
  | 0, n, hs, c, st, hh => F_flat hw hh n c 0 st (.inl rfl)
  | d + 1, n, hs, c, st, hh => by
    have e0 : n + 2 * (d + 1) + 8 = (n + 2 * d + 2) + 8 := by omega
    by_cases k67 : c % 9 ≠ 6 ∧ c % 9 ≠ 7
    · rw [e0, F_flat hw hh (n + 2 * d + 2) c _ st (.inr k67)]
      unfold rowF
      rw [if_neg k67.1, if_neg k67.2]
    · have e1 : n + 2 * (d + 1) + 8 = (n + 2 * d + 9) + 1 := by omega
      rw [e1, c__law_row]
      unfold b__law_row
      have l1 : ((ws.map PV.str).length : Int) = (ws.length : Int) := by rw [List.length_map]
      have g0 : 0 ≤ c / 9 % (ws.length : Int) := Int.emod_nonneg _ (by omega)
      have g1 : c / 9 % (ws.length : Int) < ws.length := Int.emod_lt_of_pos _ (by omega)
      have hm : ∀ (a k : Int) (s : VSt), Fm D (n + 2 * d + 9) i__law_mixed [.int a, .int k] s = .ok (.int (mixedF a k)) s := fun a k s => F_mixed (n + 2 * d + 8) a k s
      have t1 : ∀ (a : Int) (s : VSt), Fm D (n + 2 * d + 9) i__law_term [.int a, .lst (ws.map PV.str), .int 1] s = .ok (termF ws 1 a).pv s := fun a s => F_term hw 1 (n + 2 * d + 6) a s
      have hr : ∀ (a m : Int) (s : VSt), 0 ≤ m → m ≤ 1000 → Fm D (n + 2 * d + 9) i__law_rows [.int a, .lst (ws.map PV.str), .lst ((fewF hs c).map Fnc.pv), .int (d : Int), .int m] s = .ok (.tup (Row.pvs (rowsOf (rowF ws d (fewF hs c)) a m))) s := fun a m s h0 h1 =>
        F_rows (n := n + 2 * d + 7) (fun c' s' => F_row hw d n (fewF hs c) c' s' (hh.few c)) a m h0 h1 s
      have hr' : ∀ s, Fm D (n + 2 * d + 9) i__law_rows [.int (mixedF c 3), .lst (ws.map PV.str), .lst ((fewF hs c).map Fnc.pv), .int (d : Int), .int (1 + c / 9 % 3)] s = .ok (.tup (Row.pvs (rowsOf (rowF ws d (fewF hs c)) (mixedF c 3) (1 + c / 9 % 3)))) s := fun s => hr _ _ s (by omega) (by omega)
      have hn : ∀ s, vEqF true (.lst (hs.map Fnc.pv)) (.lst []) s = .ok (.bl (!hs.isEmpty)) s := fun s => by
        rw [v_nil hh.1 hh.2.1]
        cases hs <;> rfl
      have hnf : ∀ s, vEqF false (.lst (hs.map Fnc.pv)) (.lst []) s = .ok (.bl hs.isEmpty) s := fun s => by
        rw [v_nil hh.1 hh.2.1]
        cases hs <;> rfl
      have hd1 : decide (((d + 1 : Nat) : Int) > 0) = true := decide_eq_true (by omega)
      have hd2 : ((d + 1 : Nat) : Int) - 1 = (d : Int) := by omega
      have kk : c % 9 = 6 ∨ c % 9 = 7 := by omega
      rcases kk with k | k
      · have e : rowF ws (d + 1) hs c = .when (termF ws 1 (mixedF c 4)) (rowsOf (rowF ws d (fewF hs c)) (mixedF c 3) (1 + c / 9 % 3)) := by
          unfold rowF; rw [if_pos k]
        rw [e, Row.pv]
        simp -implicitDefEqProofs (disch := omega) only [za,zb,zc,zd,ze,zf,zg,zh,zi,zj,zk,zm,zn,zo,zp,zq,zt,zu,zv,zw,zx,zy,zA,zB,zC,zD,zE,zF,zG,zH,zI,zJ,zK,zL,zM,zN,zO,zP,zQ,zR,zS,zT,zU,zV,zW,zX,zY,zZ,ya,yb,yc,yd,ye,yf,yg,yh,yi,yj,yk,yl,ym,yn,yo,yp,yq,yr,yt,yu,yv,yw,yx,yy,yz,yA,yB,yC,yD,yE,yF,yG,yH,yI,yJ,yK,yL,yM,yN,yO,yP,yQ,yR,yS,yT,yU,yV,yW,yX,yY,yZ,wa,wb,wc,wd,we,wg,wj,wm,wp,wq,lA9,lB9,lC9,lD9,lE9,lF9,lG9,lH9,wt,lI9,lJ9,lK9,lL9,lM9,lN9,lO9,lP9,lQ9,lR9,lS9,lT9,↓reduceIte,Nat.reduceAdd,Nat.reduceLeDiff, hm, l1, v_word, v_few, v_few2, t1, hr', hd1, hd2, Int.reduceEq, Int.reduceLT, fz_tup, fzs_nil, fzs_cons, fz_tm, fz_pvs, k]
      · have e : rowF ws (d + 1) hs c = .again (cntF hs (d + 1) c) (rowsOf (rowF ws d (fewF hs c)) (mixedF c 3) (1 + c / 9 % 3)) := by
          unfold rowF; rw [if_neg (by omega), if_pos k]
        rw [e, Row.pv]
        unfold cntF
        cases he : hs.isEmpty with
        | false =>
          rw [if_neg (fun z => by cases z.1)]
          simp -implicitDefEqProofs (disch := omega) only [za,zb,zc,zd,ze,zf,zg,zh,zi,zj,zk,zm,zn,zo,zp,zq,zt,zu,zv,zw,zx,zy,zA,zB,zC,zD,zE,zF,zG,zH,zI,zJ,zK,zL,zM,zN,zO,zP,zQ,zR,zS,zT,zU,zV,zW,zX,zY,zZ,ya,yb,yc,yd,ye,yf,yg,yh,yi,yj,yk,yl,ym,yn,yo,yp,yq,yr,yt,yu,yv,yw,yx,yy,yz,yA,yB,yC,yD,yE,yF,yG,yH,yI,yJ,yK,yL,yM,yN,yO,yP,yQ,yR,yS,yT,yU,yV,yW,yX,yY,yZ,wa,wb,wc,wd,we,wg,wj,wm,wp,wq,lA9,lB9,lC9,lD9,lE9,lF9,lG9,lH9,wt,lI9,lJ9,lK9,lL9,lM9,lN9,lO9,lP9,lQ9,lR9,lS9,lT9,↓reduceIte,Nat.reduceAdd,Nat.reduceLeDiff, hm, l1, v_word, v_few, v_few2, hr', hd1, hd2, hnf, he, v_c4, Int.reduceEq, Int.reduceLT, fz_tup, fzs_nil, fzs_cons, fz_tm, fz_pvs, k]
        | true =>
          by_cases q : d + 1 = 2
          · have q' : decide (((d + 1 : Nat) : Int) = 2) = true := decide_eq_true (by omega)
            rw [if_pos ⟨rfl, q⟩]
            simp -implicitDefEqProofs (disch := omega) only [za,zb,zc,zd,ze,zf,zg,zh,zi,zj,zk,zm,zn,zo,zp,zq,zt,zu,zv,zw,zx,zy,zA,zB,zC,zD,zE,zF,zG,zH,zI,zJ,zK,zL,zM,zN,zO,zP,zQ,zR,zS,zT,zU,zV,zW,zX,zY,zZ,ya,yb,yc,yd,ye,yf,yg,yh,yi,yj,yk,yl,ym,yn,yo,yp,yq,yr,yt,yu,yv,yw,yx,yy,yz,yA,yB,yC,yD,yE,yF,yG,yH,yI,yJ,yK,yL,yM,yN,yO,yP,yQ,yR,yS,yT,yU,yV,yW,yX,yY,yZ,wa,wb,wc,wd,we,wg,wj,wm,wp,wq,lA9,lB9,lC9,lD9,lE9,lF9,lG9,lH9,wt,lI9,lJ9,lK9,lL9,lM9,lN9,lO9,lP9,lQ9,lR9,lS9,lT9,↓reduceIte,Nat.reduceAdd,Nat.reduceLeDiff, hm, l1, v_word, v_few, v_few2, hr', hd1, hd2, hnf, he, v_c4, v_c5, q', Int.reduceEq, Int.reduceLT, fz_tup, fzs_nil, fzs_cons, fz_tm, fz_pvs, k]
          · have q' : decide (((d + 1 : Nat) : Int) = 2) = false := decide_eq_false (by omega)
            rw [if_neg fun z => q z.2]
            simp -implicitDefEqProofs (disch := omega) only [za,zb,zc,zd,ze,zf,zg,zh,zi,zj,zk,zm,zn,zo,zp,zq,zt,zu,zv,zw,zx,zy,zA,zB,zC,zD,zE,zF,zG,zH,zI,zJ,zK,zL,zM,zN,zO,zP,zQ,zR,zS,zT,zU,zV,zW,zX,zY,zZ,ya,yb,yc,yd,ye,yf,yg,yh,yi,yj,yk,yl,ym,yn,yo,yp,yq,yr,yt,yu,yv,yw,yx,yy,yz,yA,yB,yC,yD,yE,yF,yG,yH,yI,yJ,yK,yL,yM,yN,yO,yP,yQ,yR,yS,yT,yU,yV,yW,yX,yY,yZ,wa,wb,wc,wd,we,wg,wj,wm,wp,wq,lA9,lB9,lC9,lD9,lE9,lF9,lG9,lH9,wt,lI9,lJ9,lK9,lL9,lM9,lN9,lO9,lP9,lQ9,lR9,lS9,lT9,↓reduceIte,Nat.reduceAdd,Nat.reduceLeDiff, hm, l1, v_word, v_few, v_few2, hr', hd1, hd2, hnf, he, v_c4, v_c5, q', Int.reduceEq, Int.reduceLT, fz_tup, fzs_nil, fzs_cons, fz_tm, fz_pvs, k]
end Lk
namespace Lk
open PySem L2 Vm
def p6 (i : Int) : Int := if i = 0 then 0 else if i = 1 then 1 else if i = 2 then 2 else if i = 3 then 2 else if i = 4 then 3 else 4
def m6 (i : Int) : Int := if i = 0 then 3 else if i = 1 then 4 else if i = 2 then 2 else if i = 3 then 5 else if i = 4 then 0 else 6
theorem p6_r (i : Int) : 0 ≤ p6 i ∧ p6 i ≤ 4 := by unfold p6; split <;> (try split) <;> (try split) <;> (try split) <;> (try split) <;> omega
theorem m6_r (i : Int) : 0 ≤ m6 i ∧ m6 i ≤ 6 := by unfold m6; split <;> (try split) <;> (try split) <;> (try split) <;> (try split) <;> omega
theorem v_p6 {i : Int} {st : VSt} (h0 : 0 ≤ i) (h1 : i < 6) : vIx (.lst [.int 0, .int 1, .int 2, .int 2, .int 3, .int 4]) (.int i) st = .ok (.int (p6 i)) st := by
  have : i = 0 ∨ i = 1 ∨ i = 2 ∨ i = 3 ∨ i = 4 ∨ i = 5 := by omega
  rcases this with rfl | rfl | rfl | rfl | rfl | rfl
  · exact yt
  · exact yv
  · exact yx
  · exact yz
  · exact yB
  · exact yD
theorem v_m6 {i : Int} {st : VSt} (h0 : 0 ≤ i) (h1 : i < 6) : vIx (.lst [.int 3, .int 4, .int 2, .int 5, .int 0, .int 6]) (.int i) st = .ok (.int (m6 i)) st := by
  have : i = 0 ∨ i = 1 ∨ i = 2 ∨ i = 3 ∨ i = 4 ∨ i = 5 := by omega
  rcases this with rfl | rfl | rfl | rfl | rfl | rfl
  · exact yt
  · exact yv
  · exact yx
  · exact yz
  · exact yB
  · exact yD
def manyF (c : Int) : Int := if c / 180 % 12 = 1 then c / 2160 % 30 else m6 (c / 30 % 6)
theorem manyF_r (c : Int) : 0 ≤ manyF c ∧ manyF c ≤ 30 := by
  have := m6_r (c / 30 % 6)
  unfold manyF
  split <;> omega
def parsF (ws : List Str) (c : Int) : List Str := (List.range (p6 (c % 6)).toNat).map fun (k : Nat) => ws.getD ((c / 6 % (ws.length : Int) + 2 * (k : Int)) % (ws.length : Int)).toNat ""
def functionF (ws : List Str) (hs : List Fnc) (x : Str) (c : Int) : Fnc :=
  ⟨x, parsF ws c, if manyF c > 6 then rowsOf (rowF ws 1 []) (mixedF c 5) (manyF c) else rowsOf (rowF ws 2 hs) (mixedF c 5) (manyF c), termF ws 1 (mixedF c 6)⟩
theorem HsOk.nil : HsOk [] := ⟨rfl, by decide, fun h z => by cases z⟩
theorem F_function {ws : List Str} {hs : List Fnc} (hw : 0 < ws.length) (hh : HsOk hs) (n : Nat) (c : Int) (x : Str) (st : VSt) :
    Fm D (n + 14) i__law_function [.int c, .str x, .lst (ws.map PV.str), .lst (hs.map Fnc.pv)] st = .ok (functionF ws hs x c).pv st := by
  rw [c__law_function]
  unfold b__law_function
  have l1 : ((ws.map PV.str).length : Int) = (ws.length : Int) := by rw [List.length_map]
  have hm : ∀ (a k : Int) (s : VSt), Fm D (n + 13) i__law_mixed [.int a, .int k] s = .ok (.int (mixedF a k)) s := fun a k s => F_mixed (n + 12) a k s
  have t1 : ∀ (a : Int) (s : VSt), Fm D (n + 13) i__law_term [.int a, .lst (ws.map PV.str), .int 1] s = .ok (termF ws 1 a).pv s := fun a s => F_term hw 1 (n + 10) a s
  have r2 : ∀ (a m : Int) (s : VSt), 0 ≤ m → m ≤ 1000 → Fm D (n + 13) i__law_rows [.int a, .lst (ws.map PV.str), .lst (hs.map Fnc.pv), .int 2, .int m] s = .ok (.tup (Row.pvs (rowsOf (rowF ws 2 hs) a m))) s := fun a m s h0 h1 =>
    F_rows (n := n + 11) (fun c' s' => F_row hw 2 n hs c' s' hh) a m h0 h1 s
  have r1 : ∀ (a m : Int) (s : VSt), 0 ≤ m → m ≤ 1000 → Fm D (n + 13) i__law_rows [.int a, .lst (ws.map PV.str), .lst [], .int 1, .int m] s = .ok (.tup (Row.pvs (rowsOf (rowF ws 1 []) a m))) s := fun a m s h0 h1 =>
    F_rows (n := n + 11) (Hs := .lst (([] : List Fnc).map Fnc.pv)) (fun c' s' => F_row hw 1 (n + 2) [] c' s' .nil) a m h0 h1 s
  have mr := manyF_r c
  have pr' := p6_r (c % 6)
  have fz : ∀ f : Fnc, freeze st st.length f.pv = f.pv := fun f => freeze_pure _ f.pure
  have e5 : (List.range (p6 (c % 6)).toNat).map (fun (k : Nat) => PV.str (ws.getD ((c / 6 % (ws.length : Int) + 2 * (k : Int)) % (ws.length : Int)).toNat "")) = (parsF ws c).map PV.str := by
    unfold parsF; rw [List.map_map]; rfl
  have hp : ∀ (env : VEnv) (s : VSt), env[0]? = some (some (.int c)) → env[2]? = some (some (.lst (ws.map PV.str))) → env[4]? = some (some (.int (c / 6 % (ws.length : Int)))) → 8 < env.length →
      eComp (iRng1' (eBin vIx (eLst (aCons (eC (.int 0)) (aCons (eC (.int 1)) (aCons (eC (.int 2)) (aCons (eC (.int 2)) (aCons (eC (.int 3)) (aCons (eC (.int 4)) aNil))))))) (eBin vMod (eVar 0) (eC (.int 6))))) (gName 8) tTrue (eBin vIx (eVar 2) (eBin vMod (eBin vAdd (eVar 4) (eBin vMul (eC (.int 2)) (eVar 8))) (eApp vLen (aCons (eVar 2) aNil)))) [8] env s = .ok (.lst ((parsF ws c).map PV.str)) s := fun env s v0 v2 v4 v8 => by
    rw [comp_rng (m := p6 (c % 6)) (f := fun k => .str (ws.getD ((c / 6 % (ws.length : Int) + 2 * (k : Int)) % (ws.length : Int)).toNat "")) (by
      simp -implicitDefEqProofs (disch := omega) only [za,zb,zc,zd,ze,zf,zg,zh,zi,zj,zk,zm,zn,zo,zp,zq,zt,zu,zv,zw,zx,zy,zA,zB,zC,zD,zE,zF,zG,zH,zI,zJ,zK,zL,zM,zN,zO,zP,zQ,zR,zS,zT,zU,zV,zW,zX,zY,zZ,ya,yb,yc,yd,ye,yf,yg,yh,yi,yj,yk,yl,ym,yn,yo,yp,yq,yr,yt,yu,yv,yw,yx,yy,yz,yA,yB,yC,yD,yE,yF,yG,yH,yI,yJ,yK,yL,yM,yN,yO,yP,yQ,yR,yS,yT,yU,yV,yW,yX,yY,yZ,wa,wb,wc,wd,we,wg,wj,wm,wp,wq,lA9,lB9,lC9,lD9,lE9,lF9,lG9,lH9,wt,lI9,lJ9,lK9,lL9,lM9,lN9,lO9,lP9,lQ9,lR9,lS9,lT9,↓reduceIte,Nat.reduceAdd,Nat.reduceLeDiff, v0, v_p6]) (by omega) (by omega) (fun k hk => by
      have q0 : 0 ≤ (c / 6 % (ws.length : Int) + 2 * (k : Int)) % (ws.length : Int) := Int.emod_nonneg _ (by omega)
      have q1 : (c / 6 % (ws.length : Int) + 2 * (k : Int)) % (ws.length : Int) < ws.length := Int.emod_lt_of_pos _ (by omega)
      have w8 : (env.set 8 (some (.int (k : Int))))[8]? = some (some (.int (k : Int))) := List.getElem?_set_self v8
      have w2 : (env.set 8 (some (.int (k : Int))))[2]? = some (some (.lst (ws.map PV.str))) := by rw [List.getElem?_set_ne (by decide)]; exact v2
      have w4 : (env.set 8 (some (.int (k : Int))))[4]? = some (some (.int (c / 6 % (ws.length : Int)))) := by rw [List.getElem?_set_ne (by decide)]; exact v4
      simp -implicitDefEqProofs (disch := omega) only [za,zb,zc,zd,ze,zf,zg,zh,zi,zj,zk,zm,zn,zo,zp,zq,zt,zu,zv,zw,zx,zy,zA,zB,zC,zD,zE,zF,zG,zH,zI,zJ,zK,zL,zM,zN,zO,zP,zQ,zR,zS,zT,zU,zV,zW,zX,zY,zZ,ya,yb,yc,yd,ye,yf,yg,yh,yi,yj,yk,yl,ym,yn,yo,yp,yq,yr,yt,yu,yv,yw,yx,yy,yz,yA,yB,yC,yD,yE,yF,yG,yH,yI,yJ,yK,yL,yM,yN,yO,yP,yQ,yR,yS,yT,yU,yV,yW,yX,yY,yZ,wa,wb,wc,wd,we,wg,wj,wm,wp,wq,lA9,lB9,lC9,lD9,lE9,lF9,lG9,lH9,wt,lI9,lJ9,lK9,lL9,lM9,lN9,lO9,lP9,lQ9,lR9,lS9,lT9,↓reduceIte,Nat.reduceAdd,Nat.reduceLeDiff, w8, w2, w4, l1, v_word]), e5]
  have hp' : ∀ s, _ := fun s => hp [some (.int c), some (.str x), some (.lst (ws.map PV.str)), some (.lst (hs.map Fnc.pv)), some (.int (c / 6 % (ws.length : Int))), none, none, none, none] s rfl rfl rfl (Nat.lt_succ_self 8)
  by_cases km : c / 180 % 12 = 1
  · have km' : decide (c / 180 % 12 = 1) = true := decide_eq_true km
    have em : manyF c = c / 2160 % 30 := by unfold manyF; rw [if_pos km]
    by_cases kg : c / 2160 % 30 > 6
    · have kg' : decide (c / 2160 % 30 > 6) = true := decide_eq_true kg
      have e : functionF ws hs x c = ⟨x, parsF ws c, rowsOf (rowF ws 1 []) (mixedF c 5) (c / 2160 % 30), termF ws 1 (mixedF c 6)⟩ := by unfold functionF; rw [em, if_pos kg]
      have fz' := fz (functionF ws hs x c)
      rw [e, Fnc.pv] at fz'
      rw [e, Fnc.pv]
      simp -implicitDefEqProofs (disch := omega) only [za,zb,zc,zd,ze,zf,zg,zh,zi,zj,zk,zm,zn,zo,zp,zq,zt,zu,zv,zw,zx,zy,zA,zB,zC,zD,zE,zF,zG,zH,zI,zJ,zK,zL,zM,zN,zO,zP,zQ,zR,zS,zT,zU,zV,zW,zX,zY,zZ,ya,yb,yc,yd,ye,yf,yg,yh,yi,yj,yk,yl,ym,yn,yo,yp,yq,yr,yt,yu,yv,yw,yx,yy,yz,yA,yB,yC,yD,yE,yF,yG,yH,yI,yJ,yK,yL,yM,yN,yO,yP,yQ,yR,yS,yT,yU,yV,yW,yX,yY,yZ,wa,wb,wc,wd,we,wg,wj,wm,wp,wq,lA9,lB9,lC9,lD9,lE9,lF9,lG9,lH9,wt,lI9,lJ9,lK9,lL9,lM9,lN9,lO9,lP9,lQ9,lR9,lS9,lT9,↓reduceIte,Nat.reduceAdd,Nat.reduceLeDiff, l1, hp', km, kg, kg', v_m6, hm, r1, t1, Int.reduceSub, fz', List.map_nil]
    · have kg' : decide (c / 2160 % 30 > 6) = false := decide_eq_false kg
      have e : functionF ws hs x c = ⟨x, parsF ws c, rowsOf (rowF ws 2 hs) (mixedF c 5) (c / 2160 % 30), termF ws 1 (mixedF c 6)⟩ := by unfold functionF; rw [em, if_neg kg]
      have fz' := fz (functionF ws hs x c)
      rw [e, Fnc.pv] at fz'
      rw [e, Fnc.pv]
      simp -implicitDefEqProofs (disch := omega) only [za,zb,zc,zd,ze,zf,zg,zh,zi,zj,zk,zm,zn,zo,zp,zq,zt,zu,zv,zw,zx,zy,zA,zB,zC,zD,zE,zF,zG,zH,zI,zJ,zK,zL,zM,zN,zO,zP,zQ,zR,zS,zT,zU,zV,zW,zX,zY,zZ,ya,yb,yc,yd,ye,yf,yg,yh,yi,yj,yk,yl,ym,yn,yo,yp,yq,yr,yt,yu,yv,yw,yx,yy,yz,yA,yB,yC,yD,yE,yF,yG,yH,yI,yJ,yK,yL,yM,yN,yO,yP,yQ,yR,yS,yT,yU,yV,yW,yX,yY,yZ,wa,wb,wc,wd,we,wg,wj,wm,wp,wq,lA9,lB9,lC9,lD9,lE9,lF9,lG9,lH9,wt,lI9,lJ9,lK9,lL9,lM9,lN9,lO9,lP9,lQ9,lR9,lS9,lT9,↓reduceIte,Nat.reduceAdd,Nat.reduceLeDiff, l1, hp', km, kg', v_m6, hm, r2, t1, Int.sub_zero, fz']
  · have km' : decide (c / 180 % 12 = 1) = false := decide_eq_false km
    have em : manyF c = m6 (c / 30 % 6) := by unfold manyF; rw [if_neg km]
    have mm := m6_r (c / 30 % 6)
    have kg : ¬ m6 (c / 30 % 6) > 6 := by omega
    have kg' : decide (m6 (c / 30 % 6) > 6) = false := decide_eq_false kg
    have e : functionF ws hs x c = ⟨x, parsF ws c, rowsOf (rowF ws 2 hs) (mixedF c 5) (m6 (c / 30 % 6)), termF ws 1 (mixedF c 6)⟩ := by unfold functionF; rw [em, if_neg kg]
    have fz' := fz (functionF ws hs x c)
    rw [e, Fnc.pv] at fz'
    rw [e, Fnc.pv]
    simp -implicitDefEqProofs (disch := omega) only [za,zb,zc,zd,ze,zf,zg,zh,zi,zj,zk,zm,zn,zo,zp,zq,zt,zu,zv,zw,zx,zy,zA,zB,zC,zD,zE,zF,zG,zH,zI,zJ,zK,zL,zM,zN,zO,zP,zQ,zR,zS,zT,zU,zV,zW,zX,zY,zZ,ya,yb,yc,yd,ye,yf,yg,yh,yi,yj,yk,yl,ym,yn,yo,yp,yq,yr,yt,yu,yv,yw,yx,yy,yz,yA,yB,yC,yD,yE,yF,yG,yH,yI,yJ,yK,yL,yM,yN,yO,yP,yQ,yR,yS,yT,yU,yV,yW,yX,yY,yZ,wa,wb,wc,wd,we,wg,wj,wm,wp,wq,lA9,lB9,lC9,lD9,lE9,lF9,lG9,lH9,wt,lI9,lJ9,lK9,lL9,lM9,lN9,lO9,lP9,lQ9,lR9,lS9,lT9,↓reduceIte,Nat.reduceAdd,Nat.reduceLeDiff, l1, hp', km', kg', v_m6, hm, r2, t1, Int.sub_zero, fz']
end Lk
namespace Lk
open PySem L2 Vm
abbrev OkT : Str → Prop := fun x => PyData.strOk x = true
theorem good_mono {ok ok' : Str → Prop} (h : ∀ x, ok x → ok' x) : ∀ {t : Trm}, t.Good ok → t.Good ok'
  | .num _, g => g
  | .name x, g => h x g
  | .bin _ _ _, g => ⟨g.1, good_mono h g.2.1, good_mono h g.2.2⟩
mutual
def Row.Gd : Row → Prop
  | .set x t => OkT x ∧ t.Good OkT ∧ t.depth ≤ 2
  | .tell t => t.Good OkT ∧ t.depth ≤ 2
  | .call x f ts => (∀ y, x = some y → OkT y) ∧ OkT f ∧ ∀ t ∈ ts, t.Good OkT ∧ t.depth ≤ 2
  | .when t rs => t.Good OkT ∧ t.depth ≤ 2 ∧ Row.Gds rs
  | .again n rs => 0 ≤ n ∧ n < 10 ∧ Row.Gds rs
def Row.Gds : List Row → Prop
  | [] => True
  | r :: rs => r.Gd ∧ Row.Gds rs
end
mutual
def Row.lvl : Row → Nat
  | .when _ rs => Row.lvls rs + 1
  | .again _ rs => Row.lvls rs + 1
  | _ => 0
def Row.lvls : List Row → Nat
  | [] => 0
  | r :: rs => max r.lvl (Row.lvls rs)
end
theorem gds_all {rs : List Row} (h : ∀ r ∈ rs, r.Gd) : Row.Gds rs := by
  induction rs with
  | nil => unfold Row.Gds; trivial
  | cons r rs ih =>
    unfold Row.Gds
    exact ⟨h r List.mem_cons_self, ih fun x hx => h x (List.mem_cons_of_mem _ hx)⟩
theorem lvls_le {rs : List Row} {n : Nat} (h : ∀ r ∈ rs, r.lvl ≤ n) : Row.lvls rs ≤ n := by
  induction rs with
  | nil => unfold Row.lvls; exact Nat.zero_le _
  | cons r rs ih =>
    unfold Row.lvls
    exact Nat.max_le.mpr ⟨h r List.mem_cons_self, ih fun x hx => h x (List.mem_cons_of_mem _ hx)⟩
theorem sok_strs : ∀ xs : List Str, (∀ x ∈ xs, OkT x) → soks (xs.map PV.str) = true
  | [], _ => rfl
  | x :: xs, h => by
    show (PyData.strOk x && soks (xs.map PV.str)) = true
    rw [h x List.mem_cons_self, sok_strs xs fun y hy => h y (List.mem_cons_of_mem _ hy)]; rfl
theorem dep_str : ∀ xs : List Str, deps (xs.map PV.str) = 0
  | [] => rfl
  | x :: xs => by
    show max 0 (deps (xs.map PV.str)) = 0
    rw [dep_str xs]; rfl
theorem opS_ok (k : Nat) : PyData.strOk (opS k) = true := by
  rcases k with _ | _ | k
  · decide +kernel
  · decide +kernel
  · show PyData.strOk ("times" : Str) = true
    decide +kernel
theorem sok_num : PyData.strOk ("num" : Str) = true := by decide +kernel
theorem sok_name : PyData.strOk ("name" : Str) = true := by decide +kernel
theorem sok_set : PyData.strOk ("set" : Str) = true := by decide +kernel
theorem sok_tell : PyData.strOk ("tell" : Str) = true := by decide +kernel
theorem sok_call : PyData.strOk ("call" : Str) = true := by decide +kernel
theorem sok_when : PyData.strOk ("when" : Str) = true := by decide +kernel
theorem sok_again : PyData.strOk ("again" : Str) = true := by decide +kernel
theorem sok_trm : ∀ t : Trm, t.Good OkT → sokP t.pv = true
  | .num n, _ => by
    show (PyData.strOk "num" && (true && true)) = true
    rw [sok_num]; rfl
  | .name x, g => by
    show (PyData.strOk "name" && (PyData.strOk x && true)) = true
    rw [sok_name, show PyData.strOk x = true from g]; rfl
  | .bin k a b, g => by
    show (PyData.strOk (opS k) && (sokP a.pv && (sokP b.pv && true))) = true
    rw [opS_ok, sok_trm a g.2.1, sok_trm b g.2.2]; rfl
theorem dep_trm : ∀ t : Trm, depP t.pv = t.depth + 1
  | .num n => rfl
  | .name x => rfl
  | .bin k a b => by
    show max 0 (max (depP a.pv) (max (depP b.pv) 0)) + 1 = max a.depth b.depth + 1 + 1
    rw [dep_trm a, dep_trm b]; omega
theorem sok_trms : ∀ ts : List Trm, (∀ t ∈ ts, t.Good OkT ∧ t.depth ≤ 2) → soks (ts.map Trm.pv) = true ∧ deps (ts.map Trm.pv) ≤ 3
  | [], _ => ⟨rfl, Nat.zero_le _⟩
  | t :: ts, h => by
    obtain ⟨h1, h2⟩ := sok_trms ts fun y hy => h y (List.mem_cons_of_mem _ hy)
    obtain ⟨g, d⟩ := h t List.mem_cons_self
    refine ⟨?_, ?_⟩
    · show (sokP t.pv && soks (ts.map Trm.pv)) = true
      rw [sok_trm t g, h1]; rfl
    · show max (depP t.pv) (deps (ts.map Trm.pv)) ≤ 3
      rw [dep_trm]; omega
mutual
theorem Row.sok : ∀ r : Row, r.Gd → sokP r.pv = true ∧ depP r.pv ≤ 5 + 2 * r.lvl
  | .set x t, g => by
    unfold Row.Gd at g
    rw [Row.pv]
    refine ⟨?_, ?_⟩
    · show (PyData.strOk "set" && (PyData.strOk x && (sokP t.pv && true))) = true
      rw [sok_set, show PyData.strOk x = true from g.1, sok_trm t g.2.1]; rfl
    · show max 0 (max 0 (max (depP t.pv) 0)) + 1 ≤ _
      rw [dep_trm]; omega
  | .tell t, g => by
    unfold Row.Gd at g
    rw [Row.pv]
    refine ⟨?_, ?_⟩
    · show (PyData.strOk "tell" && (sokP t.pv && true)) = true
      rw [sok_tell, sok_trm t g.1]; rfl
    · show max 0 (max (depP t.pv) 0) + 1 ≤ _
      rw [dep_trm]; omega
  | .call x f ts, g => by
    unfold Row.Gd at g
    rw [Row.pv]
    obtain ⟨s1, s2⟩ := sok_trms ts g.2.2
    refine ⟨?_, ?_⟩
    · show (PyData.strOk "call" && (sokP (optS x) && (PyData.strOk f && (Vm.soks (ts.map Trm.pv) && true)))) = true
      have so : sokP (optS x) = true := by
        cases x with
        | none => rfl
        | some y => exact g.1 y rfl
      rw [sok_call, so, show PyData.strOk f = true from g.2.1, s1]; rfl
    · have dx : depP (optS x) = 0 := by cases x <;> rfl
      show max 0 (max (depP (optS x)) (max 0 (max (deps (ts.map Trm.pv) + 1) 0))) + 1 ≤ _
      rw [dx]; omega
  | .when t rs, g => by
    unfold Row.Gd at g
    obtain ⟨s1, s2⟩ := Row.soks rs g.2.2
    rw [Row.pv, Row.lvl]
    refine ⟨?_, ?_⟩
    · show (PyData.strOk "when" && (sokP t.pv && (Vm.soks (Row.pvs rs) && true))) = true
      rw [sok_when, sok_trm t g.1, s1]; rfl
    · show max 0 (max (depP t.pv) (max (deps (Row.pvs rs) + 1) 0)) + 1 ≤ _
      rw [dep_trm]; omega
  | .again n rs, g => by
    unfold Row.Gd at g
    obtain ⟨s1, s2⟩ := Row.soks rs g.2.2
    rw [Row.pv, Row.lvl]
    refine ⟨?_, ?_⟩
    · show (PyData.strOk "again" && (true && (Vm.soks (Row.pvs rs) && true))) = true
      rw [sok_again, s1]; rfl
    · show max 0 (max 0 (max (deps (Row.pvs rs) + 1) 0)) + 1 ≤ _
      omega
theorem Row.soks : ∀ rs : List Row, Row.Gds rs → Vm.soks (Row.pvs rs) = true ∧ deps (Row.pvs rs) ≤ 5 + 2 * Row.lvls rs
  | [], _ => by
    rw [Row.pvs]
    exact ⟨rfl, Nat.zero_le _⟩
  | r :: rs, g => by
    unfold Row.Gds at g
    obtain ⟨a1, a2⟩ := r.sok g.1
    obtain ⟨b1, b2⟩ := Row.soks rs g.2
    rw [Row.pvs, Row.lvls]
    refine ⟨?_, ?_⟩
    · show (sokP r.pv && Vm.soks (Row.pvs rs)) = true
      rw [a1, b1]; rfl
    · show max (depP r.pv) (deps (Row.pvs rs)) ≤ _
      omega
end
structure Fnc.Gd (f : Fnc) : Prop where
  nm : OkT f.name
  ps : ∀ x ∈ f.pars, OkT x
  pl : f.pars.length ≤ 1000
  rs : Row.Gds f.rows
  lv : Row.lvls f.rows ≤ 9
  rt : f.res.Good OkT ∧ f.res.depth ≤ 2
theorem Fnc.sok (f : Fnc) (g : f.Gd) : sokP f.pv = true ∧ depP f.pv ≤ 30 := by
  obtain ⟨s1, s2⟩ := Row.soks f.rows g.rs
  have lv := g.lv
  have rd := g.rt.2
  unfold Fnc.pv
  refine ⟨?_, ?_⟩
  · show (PyData.strOk f.name && (Vm.soks (f.pars.map PV.str) && (Vm.soks (Row.pvs f.rows) && (sokP f.res.pv && true)))) = true
    rw [show PyData.strOk f.name = true from g.nm, sok_strs f.pars g.ps, s1, sok_trm _ g.rt.1]; rfl
  · show max 0 (max (deps (f.pars.map PV.str) + 1) (max (deps (Row.pvs f.rows) + 1) (max (depP f.res.pv) 0))) + 1 ≤ _
    rw [dep_str, dep_trm]; omega
theorem fncs_sok : ∀ hs : List Fnc, (∀ h ∈ hs, h.Gd) → soks (hs.map Fnc.pv) = true ∧ deps (hs.map Fnc.pv) ≤ 30
  | [], _ => ⟨rfl, Nat.zero_le _⟩
  | h :: hs, g => by
    obtain ⟨a1, a2⟩ := h.sok (g h List.mem_cons_self)
    obtain ⟨b1, b2⟩ := fncs_sok hs fun y hy => g y (List.mem_cons_of_mem _ hy)
    refine ⟨?_, ?_⟩
    · show (sokP h.pv && soks (hs.map Fnc.pv)) = true
      rw [a1, b1]; rfl
    · show max (depP h.pv) (deps (hs.map Fnc.pv)) ≤ 30
      omega
theorem hsOk_of {hs : List Fnc} (g : ∀ h ∈ hs, h.Gd) : HsOk hs := by
  obtain ⟨a, b⟩ := fncs_sok hs g
  exact ⟨a, by omega, fun h hh => (g h hh).pl⟩
end Lk
namespace Lk
open PySem L2 Vm
theorem getD_ok {α : Type} {P : α → Prop} {l : List α} {d : α} (h : ∀ x ∈ l, P x) (hd : P d) (i : Nat) : P (l.getD i d) := by
  rw [List.getD_eq_getElem?_getD]
  cases e : l[i]? with
  | none => exact hd
  | some x => exact h x (List.mem_of_getElem? e)
theorem ok_nil : OkT "" := by decide +kernel
theorem gd_none : noFnc.Gd where
  nm := ok_nil
  ps := fun x h => by cases h
  pl := Nat.zero_le _
  rs := by unfold noFnc Row.Gds; trivial
  lv := by unfold noFnc Row.lvls; exact Nat.zero_le _
  rt := ⟨⟨by decide, by decide⟩, Nat.zero_le _⟩
section
variable {ws : List Str} (hw : 0 < ws.length) (ho : ∀ x ∈ ws, OkT x)
include hw ho
theorem gd_term (d : Nat) (c : Int) (h : d ≤ 2) : (termF ws d c).Good OkT ∧ (termF ws d c).depth ≤ 2 :=
  ⟨good_mono ho (term_good hw d c), Nat.le_trans (term_depth ws d c) h⟩
theorem gd_given (x : Str) (hx : OkT x) (c : Int) : (givenF ws x c).Good OkT ∧ (givenF ws x c).depth ≤ 2 := by
  unfold givenF
  split
  · exact ⟨hx, Nat.zero_le _⟩
  · exact gd_term hw ho 1 _ (by omega)
theorem gd_call {hs : List Fnc} (g : ∀ h ∈ hs, h.Gd) (c : Int) : (callF ws hs c).Gd := by
  have gh : (headF hs c).Gd := getD_ok g gd_none _
  unfold callF Row.Gd
  refine ⟨fun y hy => ?_, gh.nm, fun t ht => ?_⟩
  · split at hy
    · cases hy
    · obtain rfl := Option.some.inj hy
      exact getD_ok ho ok_nil _
  · obtain ⟨k, _, rfl⟩ := List.mem_map.mp ht
    exact gd_given hw ho _ (getD_ok gh.ps ok_nil _) _
theorem gd_flat {hs : List Fnc} (g : ∀ h ∈ hs, h.Gd) (c : Int) : (flatF ws hs c).Gd ∧ (flatF ws hs c).lvl = 0 := by
  unfold flatF
  split
  · exact ⟨by unfold Row.Gd; exact gd_term hw ho 2 _ (by omega), by unfold Row.lvl; exact Eq.trans rfl rfl⟩
  · split
    · exact ⟨gd_call hw ho g _, by unfold callF Row.lvl; exact Eq.trans rfl rfl⟩
    · exact ⟨by unfold Row.Gd; exact ⟨getD_ok ho ok_nil _, gd_term hw ho _ _ (by omega)⟩, by unfold Row.lvl; exact Eq.trans rfl rfl⟩
theorem few_gd {hs : List Fnc} (g : ∀ h ∈ hs, h.Gd) (c : Int) : ∀ h ∈ fewF hs c, h.Gd := fun h hh => g h (List.mem_of_mem_take hh)
theorem cnt_r (hs : List Fnc) (d : Nat) (c : Int) : 0 ≤ cntF hs d c ∧ cntF hs d c < 10 := by
  unfold cntF c5 c4
  split
  · split
    · omega
    · split
      · omega
      · split
        · omega
        · split <;> omega
  · split
    · omega
    · split
      · omega
      · split <;> omega
theorem gd_row : ∀ (d : Nat) {hs : List Fnc}, (∀ h ∈ hs, h.Gd) → ∀ c : Int, (rowF ws d hs c).Gd ∧ (rowF ws d hs c).lvl ≤ d
  | 0, hs, g, c => by
    have := gd_flat hw ho g c
    unfold rowF
    exact ⟨this.1, by rw [this.2]; exact Nat.le_refl _⟩
  | d + 1, hs, g, c => by
    have ih := gd_row d (few_gd hw ho g c)
    have g1 : Row.Gds (rowsOf (rowF ws d (fewF hs c)) (mixedF c 3) (1 + c / 9 % 3)) := gds_all fun r hr => by
      obtain ⟨k, _, rfl⟩ := List.mem_map.mp hr
      exact (ih _).1
    have g2 : Row.lvls (rowsOf (rowF ws d (fewF hs c)) (mixedF c 3) (1 + c / 9 % 3)) ≤ d := lvls_le fun r hr => by
      obtain ⟨k, _, rfl⟩ := List.mem_map.mp hr
      exact (ih _).2
    unfold rowF
    split
    · refine ⟨?_, ?_⟩
      · unfold Row.Gd
        exact ⟨(gd_term hw ho 1 _ (by omega)).1, (gd_term hw ho 1 _ (by omega)).2, g1⟩
      · unfold Row.lvl
        omega
    · split
      · refine ⟨?_, ?_⟩
        · unfold Row.Gd
          exact ⟨(cnt_r hw ho hs (d + 1) c).1, (cnt_r hw ho hs (d + 1) c).2, g1⟩
        · unfold Row.lvl
          omega
      · have := gd_flat hw ho g c
        exact ⟨this.1, by rw [this.2]; exact Nat.zero_le _⟩
theorem gd_rows {hs : List Fnc} (d : Nat) (g : ∀ h ∈ hs, h.Gd) (c m : Int) : Row.Gds (rowsOf (rowF ws d hs) c m) ∧ Row.lvls (rowsOf (rowF ws d hs) c m) ≤ d :=
  ⟨gds_all fun r hr => by
    obtain ⟨k, _, rfl⟩ := List.mem_map.mp hr
    exact (gd_row hw ho d g _).1, lvls_le fun r hr => by
    obtain ⟨k, _, rfl⟩ := List.mem_map.mp hr
    exact (gd_row hw ho d g _).2⟩
theorem gd_function {hs : List Fnc} (g : ∀ h ∈ hs, h.Gd) (x : Str) (hx : OkT x) (c : Int) : (functionF ws hs x c).Gd := by
  have r1 := gd_rows hw ho (hs := []) 1 (fun h z => by cases z) (mixedF c 5) (manyF c)
  have r2 := gd_rows hw ho 2 g (mixedF c 5) (manyF c)
  have p := p6_r (c % 6)
  refine ⟨hx, fun y hy => ?_, ?_, ?_, ?_, gd_term hw ho 1 _ (by omega)⟩
  · obtain ⟨k, _, rfl⟩ := List.mem_map.mp hy
    exact getD_ok ho ok_nil _
  · show (parsF ws c).length ≤ 1000
    unfold parsF
    rw [List.length_map, List.length_range]; omega
  · show Row.Gds (if manyF c > 6 then _ else _)
    split
    · exact r1.1
    · exact r2.1
  · show Row.lvls (if manyF c > 6 then _ else _) ≤ 9
    split
    · exact Nat.le_trans r1.2 (by omega)
    · exact Nat.le_trans r2.2 (by omega)
end
end Lk
namespace Lk
open PySem L2 Vm
def nWords (ns : List Int) : Nat := if cellF ns 6 / 512 % 8 = 1 then 7 else 5
def wsF (ns : List Int) : List Str := wordsF (cellF ns 4) (nWords ns)
theorem F_vars (n : Nat) (ns : List Int) (st : VSt) : Fm D (n + 2) i__law_variables [.scr ns, .int 4] st = .ok (.lst ((wsF ns).map PV.str)) st := by
  rw [c__law_variables]
  unfold b__law_variables wsF nWords
  have c2 : ∀ s, Fm D (n + 1) i__law_cell [.scr ns, .int 4] s = .ok (.int (cellF ns 4)) s := fun s => F_cell n ns 4 s
  have c4 : ∀ s, Fm D (n + 1) i__law_cell [.scr ns, .int 6] s = .ok (.int (cellF ns 6)) s := fun s => F_cell n ns 6 s
  have fz : ∀ ws : List Str, freeze st st.length (.lst (ws.map PV.str)) = .lst (ws.map PV.str) := fun ws => fz_lst (pures_strs ws)
  generalize cellF ns 4 = x2 at c2
  generalize cellF ns 6 = x4 at c4
  by_cases k : x4 / 512 % 8 = 1
  · have w : ∀ s, Fm D (n + 1) i__law_words [.int x2, .int 7] s = .ok (.lst ((wordsF x2 7).map PV.str)) s := fun s => F_words n x2 7 (by omega) s
    have k' : decide (x4 / 512 % 8 = 1) = true := decide_eq_true k
    rw [if_pos k]
    simp -implicitDefEqProofs (disch := omega) only [za,zb,zc,zd,ze,zf,zg,zh,zi,zj,zk,zm,zn,zo,zp,zq,zt,zu,zv,zw,zx,zy,zA,zB,zC,zD,zE,zF,zG,zH,zI,zJ,zK,zL,zM,zN,zO,zP,zQ,zR,zS,zT,zU,zV,zW,zX,zY,zZ,ya,yb,yc,yd,ye,yf,yg,yh,yi,yj,yk,yl,ym,yn,yo,yp,yq,yr,yt,yu,yv,yw,yx,yy,yz,yA,yB,yC,yD,yE,yF,yG,yH,yI,yJ,yK,yL,yM,yN,yO,yP,yQ,yR,yS,yT,yU,yV,yW,yX,yY,yZ,wa,wb,wc,wd,we,wg,wj,wm,wp,wq,lA9,lB9,lC9,lD9,lE9,lF9,lG9,lH9,wt,lI9,lJ9,lK9,lL9,lM9,lN9,lO9,lP9,lQ9,lR9,lS9,lT9,↓reduceIte,Nat.reduceAdd,Nat.reduceLeDiff, c2, c4, k, w, fz, Int.reduceAdd, Int.reduceMul, Int.mul_one]
  · have w : ∀ s, Fm D (n + 1) i__law_words [.int x2, .int 5] s = .ok (.lst ((wordsF x2 5).map PV.str)) s := fun s => F_words n x2 5 (by omega) s
    have k' : decide (x4 / 512 % 8 = 1) = false := decide_eq_false k
    rw [if_neg k]
    simp -implicitDefEqProofs (disch := omega) only [za,zb,zc,zd,ze,zf,zg,zh,zi,zj,zk,zm,zn,zo,zp,zq,zt,zu,zv,zw,zx,zy,zA,zB,zC,zD,zE,zF,zG,zH,zI,zJ,zK,zL,zM,zN,zO,zP,zQ,zR,zS,zT,zU,zV,zW,zX,zY,zZ,ya,yb,yc,yd,ye,yf,yg,yh,yi,yj,yk,yl,ym,yn,yo,yp,yq,yr,yt,yu,yv,yw,yx,yy,yz,yA,yB,yC,yD,yE,yF,yG,yH,yI,yJ,yK,yL,yM,yN,yO,yP,yQ,yR,yS,yT,yU,yV,yW,yX,yY,yZ,wa,wb,wc,wd,we,wg,wj,wm,wp,wq,lA9,lB9,lC9,lD9,lE9,lF9,lG9,lH9,wt,lI9,lJ9,lK9,lL9,lM9,lN9,lO9,lP9,lQ9,lR9,lS9,lT9,↓reduceIte,Nat.reduceAdd,Nat.reduceLeDiff, c2, c4, k', w, fz, Int.reduceAdd, Int.reduceMul, Int.mul_zero, Int.add_zero]
end Lk
namespace Lk
open PySem L2 Vm
def wrapF (rs : List Row) (is : List Int) : List Row := is.foldl (fun rs k => [.when (.num (1 + k)) rs]) rs
theorem wrap_loop {T : Tbl} {a b c d e : Option PV} : ∀ (is : List Int) (rs : List Row) (z : Option PV) (st : VSt), ∃ z', forL (bodyP (gName 6) (fb__law_looped_0 T)) (is.map PV.int) [a, b, c, d, some (.tup (Row.pvs rs)), e, z] st = .nx [a, b, c, d, some (.tup (Row.pvs (wrapF rs is))), e, z'] st
  | [], rs, z, st => ⟨z, rfl⟩
  | i :: is, rs, z, st => by
    obtain ⟨z', q⟩ := wrap_loop (T := T) (a := a) (b := b) (c := c) (d := d) (e := e) is [.when (.num (1 + i)) rs] (some (.int i)) st
    refine ⟨z', ?_⟩
    have hb : bodyP (gName 6) (fb__law_looped_0 T) (.int i) [a, b, c, d, some (.tup (Row.pvs rs)), e, z] st = .nx [a, b, c, d, some (.tup (Row.pvs [.when (.num (1 + i)) rs])), e, some (.int i)] st := by
      have e1 : Row.pvs [.when (.num (1 + i)) rs] = [.tup [.str "when", .tup [.str "num", .int (1 + i)], .tup (Row.pvs rs)]] := by
        rw [Row.pvs, Row.pvs, Row.pv, Trm.pv]
      rw [e1]
      unfold fb__law_looped_0
      simp -implicitDefEqProofs (disch := omega) only [za,zb,zc,zd,ze,zf,zg,zh,zi,zj,zk,zm,zn,zo,zp,zq,zt,zu,zv,zw,zx,zy,zA,zB,zC,zD,zE,zF,zG,zH,zI,zJ,zK,zL,zM,zN,zO,zP,zQ,zR,zS,zT,zU,zV,zW,zX,zY,zZ,ya,yb,yc,yd,ye,yf,yg,yh,yi,yj,yk,yl,ym,yn,yo,yp,yq,yr,yt,yu,yv,yw,yx,yy,yz,yA,yB,yC,yD,yE,yF,yG,yH,yI,yJ,yK,yL,yM,yN,yO,yP,yQ,yR,yS,yT,yU,yV,yW,yX,yY,yZ,wa,wb,wc,wd,we,wg,wj,wm,wp,wq,lA9,lB9,lC9,lD9,lE9,lF9,lG9,lH9,wt,lI9,lJ9,lK9,lL9,lM9,lN9,lO9,lP9,lQ9,lR9,lS9,lT9,↓reduceIte,Nat.reduceAdd,Nat.reduceLeDiff, x_body]
    rw [List.map_cons, forL_cons, hb]
    exact q
theorem v_last {gs : List Fnc} {f : Fnc} {st : VSt} : vIx (.tup ((gs ++ [f]).map Fnc.pv)) (.int (-1)) st = .ok f.pv st := by
  rw [v_ixt, List.map_append]
  have : atI (gs.map Fnc.pv ++ [f].map Fnc.pv) (-1) = some f.pv := by
    have ix : ixN (gs.map Fnc.pv ++ [f].map Fnc.pv).length (-1) = some (gs.map Fnc.pv).length := by
      rw [List.length_append]
      unfold ixN
      rw [if_neg (by decide), if_pos (by show -(((gs.map Fnc.pv).length + 1 : Nat) : Int) ≤ -1; omega)]
      congr 1
      show (-1 + (((gs.map Fnc.pv).length + 1 : Nat) : Int)).toNat = _
      omega
    unfold atI
    rw [ix]
    show (gs.map Fnc.pv ++ [f].map Fnc.pv)[(gs.map Fnc.pv).length]? = _
    rw [List.getElem?_append_right (Nat.le_refl _), Nat.sub_self]; rfl
  rw [this]; rfl
theorem v_init {gs : List Fnc} {f : Fnc} {st : VSt} : vSl (.tup ((gs ++ [f]).map Fnc.pv)) none (some (-1)) st = .ok (.tup (gs.map Fnc.pv)) st := by
  rw [v_slt]
  unfold cutP
  rw [List.map_append]
  have e : HT.sIx (gs.map Fnc.pv ++ [f].map Fnc.pv).length (gs.map Fnc.pv ++ [f].map Fnc.pv).length (some (-1)) = (gs.map Fnc.pv).length := by
    unfold HT.sIx
    simp
    omega
  rw [e, HT.sIx_none, List.drop_zero, Nat.sub_zero, List.take_left']
  rfl
end Lk
namespace Lk
open PySem L2 Vm
def six : List Int := (List.range 6).map fun (k : Nat) => 0 + (k : Int)
def againF (f : Fnc) (c : Int) : Fnc := ⟨f.name, f.pars, [.again (2 + c / 2 % 2) (if c / 4 % 4 = 1 then wrapF f.rows six else f.rows)], f.res⟩
def loopF (gs : List Fnc) (f : Fnc) (c : Int) : List Fnc := if c % 2 = 0 ∨ f.rows.isEmpty = true then gs ++ [f] else gs ++ [againF f c]
theorem F_looped (n : Nat) (gs : List Fnc) (f : Fnc) (hf : f.Gd) (hl : gs.length ≤ 1000) (c : Int) (st : VSt) : Fm D (n + 1) i__law_looped [.tup ((gs ++ [f]).map Fnc.pv), .int c] st = .ok (.tup ((loopF gs f c).map Fnc.pv)) st := by
  rw [c__law_looped]
  have fzp : ∀ fs : List Fnc, freeze st st.length (.tup (fs.map Fnc.pv)) = .tup (fs.map Fnc.pv) := fun fs => freeze_pure (.tup (fs.map Fnc.pv)) (fncs_pure fs)
  have fz1 := fzp (gs ++ [f])
  obtain ⟨s1, s2⟩ := Row.soks f.rows hf.rs
  have lv := hf.lv
  have he : ∀ s, vEqF false (.tup (Row.pvs f.rows)) (.tup []) s = .ok (.bl f.rows.isEmpty) s := fun s => by
    rw [v_nilt s1 (by omega), pvs_map]
    cases f.rows <;> rfl
  by_cases k : c % 2 = 0
  · have k' : decide (c % 2 = 0) = true := decide_eq_true k
    unfold loopF b__law_looped
    rw [if_pos (.inl k)]
    simp -implicitDefEqProofs (disch := omega) only [za,zb,zc,zd,ze,zf,zg,zh,zi,zj,zk,zm,zn,zo,zp,zq,zt,zu,zv,zw,zx,zy,zA,zB,zC,zD,zE,zF,zG,zH,zI,zJ,zK,zL,zM,zN,zO,zP,zQ,zR,zS,zT,zU,zV,zW,zX,zY,zZ,ya,yb,yc,yd,ye,yf,yg,yh,yi,yj,yk,yl,ym,yn,yo,yp,yq,yr,yt,yu,yv,yw,yx,yy,yz,yA,yB,yC,yD,yE,yF,yG,yH,yI,yJ,yK,yL,yM,yN,yO,yP,yQ,yR,yS,yT,yU,yV,yW,yX,yY,yZ,wa,wb,wc,wd,we,wg,wj,wm,wp,wq,lA9,lB9,lC9,lD9,lE9,lF9,lG9,lH9,wt,lI9,lJ9,lK9,lL9,lM9,lN9,lO9,lP9,lQ9,lR9,lS9,lT9,↓reduceIte,Nat.reduceAdd,Nat.reduceLeDiff, k, fz1]
  · have k' : decide (c % 2 = 0) = false := decide_eq_false k
    cases hr : f.rows.isEmpty with
    | true =>
      unfold loopF b__law_looped
      rw [if_pos (.inr hr)]
      simp -implicitDefEqProofs (disch := omega) only [za,zb,zc,zd,ze,zf,zg,zh,zi,zj,zk,zm,zn,zo,zp,zq,zt,zu,zv,zw,zx,zy,zA,zB,zC,zD,zE,zF,zG,zH,zI,zJ,zK,zL,zM,zN,zO,zP,zQ,zR,zS,zT,zU,zV,zW,zX,zY,zZ,ya,yb,yc,yd,ye,yf,yg,yh,yi,yj,yk,yl,ym,yn,yo,yp,yq,yr,yt,yu,yv,yw,yx,yy,yz,yA,yB,yC,yD,yE,yF,yG,yH,yI,yJ,yK,yL,yM,yN,yO,yP,yQ,yR,yS,yT,yU,yV,yW,yX,yY,yZ,wa,wb,wc,wd,we,wg,wj,wm,wp,wq,lA9,lB9,lC9,lD9,lE9,lF9,lG9,lH9,wt,lI9,lJ9,lK9,lL9,lM9,lN9,lO9,lP9,lQ9,lR9,lS9,lT9,↓reduceIte,Nat.reduceAdd,Nat.reduceLeDiff, k', v_last, v_f2, he, hr, fz1]
    | false =>
      have e : loopF gs f c = gs ++ [againF f c] := by
        unfold loopF
        rw [if_neg fun z => z.elim k fun z => by rw [hr] at z; cases z]
      have fz2 := fzp (gs ++ [againF f c])
      have hla : vAdd (.tup (gs.map Fnc.pv)) (.tup [(againF f c).pv]) st = .ok (.tup ((gs ++ [againF f c]).map Fnc.pv)) st := by
        rw [v_addt (by rw [List.length_map]; show gs.length + 1 ≤ _; omega), List.map_append]; rfl
      have ep : (againF f c).pv = .tup [.str f.name, .tup (f.pars.map PV.str), .tup [.tup [.str "again", .int (2 + c / 2 % 2), .tup (Row.pvs (if c / 4 % 4 = 1 then wrapF f.rows six else f.rows))]], f.res.pv] := by
        unfold againF Fnc.pv
        rw [Row.pvs, Row.pvs, Row.pv]
      rw [ep] at hla
      have vl : vIx (.tup ((gs ++ [f]).map Fnc.pv)) (.int (-1)) st = .ok (.tup [.str f.name, .tup (f.pars.map PV.str), .tup (Row.pvs f.rows), f.res.pv]) st := v_last
      have q0 : q__law_looped_0 (Fm D n) [some (.tup ((gs ++ [f]).map Fnc.pv)), some (.int c), none, none, none, none, none] st = .nx [some (.tup ((gs ++ [f]).map Fnc.pv)), some (.int c), none, none, none, none, none] st := by
        unfold q__law_looped_0
        simp -implicitDefEqProofs (disch := omega) only [za,zb,zc,zd,ze,zf,zg,zh,zi,zj,zk,zm,zn,zo,zp,zq,zt,zu,zv,zw,zx,zy,zA,zB,zC,zD,zE,zF,zG,zH,zI,zJ,zK,zL,zM,zN,zO,zP,zQ,zR,zS,zT,zU,zV,zW,zX,zY,zZ,ya,yb,yc,yd,ye,yf,yg,yh,yi,yj,yk,yl,ym,yn,yo,yp,yq,yr,yt,yu,yv,yw,yx,yy,yz,yA,yB,yC,yD,yE,yF,yG,yH,yI,yJ,yK,yL,yM,yN,yO,yP,yQ,yR,yS,yT,yU,yV,yW,yX,yY,yZ,wa,wb,wc,wd,we,wg,wj,wm,wp,wq,lA9,lB9,lC9,lD9,lE9,lF9,lG9,lH9,wt,lI9,lJ9,lK9,lL9,lM9,lN9,lO9,lP9,lQ9,lR9,lS9,lT9,↓reduceIte,Nat.reduceAdd,Nat.reduceLeDiff, k', v_last, v_f2, he, hr]
      have q1 : q__law_looped_1 (Fm D n) [some (.tup ((gs ++ [f]).map Fnc.pv)), some (.int c), none, none, none, none, none] st = .nx [some (.tup ((gs ++ [f]).map Fnc.pv)), some (.int c), some (.str f.name), some (.tup (f.pars.map PV.str)), some (.tup (Row.pvs f.rows)), some f.res.pv, none] st := by
        unfold q__law_looped_1
        simp -implicitDefEqProofs (disch := omega) only [za,zb,zc,zd,ze,zf,zg,zh,zi,zj,zk,zm,zn,zo,zp,zq,zt,zu,zv,zw,zx,zy,zA,zB,zC,zD,zE,zF,zG,zH,zI,zJ,zK,zL,zM,zN,zO,zP,zQ,zR,zS,zT,zU,zV,zW,zX,zY,zZ,ya,yb,yc,yd,ye,yf,yg,yh,yi,yj,yk,yl,ym,yn,yo,yp,yq,yr,yt,yu,yv,yw,yx,yy,yz,yA,yB,yC,yD,yE,yF,yG,yH,yI,yJ,yK,yL,yM,yN,yO,yP,yQ,yR,yS,yT,yU,yV,yW,yX,yY,yZ,wa,wb,wc,wd,we,wg,wj,wm,wp,wq,lA9,lB9,lC9,lD9,lE9,lF9,lG9,lH9,wt,lI9,lJ9,lK9,lL9,lM9,lN9,lO9,lP9,lQ9,lR9,lS9,lT9,↓reduceIte,Nat.reduceAdd,Nat.reduceLeDiff, vl, Option.bind_some]
      have q2 : ∃ z, q__law_looped_2 (Fm D n) [some (.tup ((gs ++ [f]).map Fnc.pv)), some (.int c), some (.str f.name), some (.tup (f.pars.map PV.str)), some (.tup (Row.pvs f.rows)), some f.res.pv, none] st = .nx [some (.tup ((gs ++ [f]).map Fnc.pv)), some (.int c), some (.str f.name), some (.tup (f.pars.map PV.str)), some (.tup (Row.pvs (if c / 4 % 4 = 1 then wrapF f.rows six else f.rows))), some f.res.pv, z] st := by
        by_cases k4 : c / 4 % 4 = 1
        · obtain ⟨z, w⟩ := wrap_loop (T := Fm D n) (a := some (.tup ((gs ++ [f]).map Fnc.pv))) (b := some (.int c)) (c := some (.str f.name)) (d := some (.tup (f.pars.map PV.str))) (e := some f.res.pv) six f.rows none st
          refine ⟨z, ?_⟩
          have hf := for_rng (a := eC (.int 6)) (g := gName 6) (body := fb__law_looped_0 (Fm D n)) (env := [some (.tup ((gs ++ [f]).map Fnc.pv)), some (.int c), some (.str f.name), some (.tup (f.pars.map PV.str)), some (.tup (Row.pvs f.rows)), some f.res.pv, none]) (st := st) (st' := st) (i := 6) rfl (by decide) (by decide)
          have e6 : ((List.range (6 : Int).toNat).map fun (k : Nat) => PV.int (0 + (k : Int))) = six.map PV.int := by unfold six; rw [List.map_map]; rfl
          rw [e6, w] at hf
          have k4' : decide (c / 4 % 4 = 1) = true := decide_eq_true k4
          rw [if_pos k4]
          unfold q__law_looped_2
          simp -implicitDefEqProofs (disch := omega) only [za,zb,zc,zd,ze,zf,zg,zh,zi,zj,zk,zm,zn,zo,zp,zq,zt,zu,zv,zw,zx,zy,zA,zB,zC,zD,zE,zF,zG,zH,zI,zJ,zK,zL,zM,zN,zO,zP,zQ,zR,zS,zT,zU,zV,zW,zX,zY,zZ,ya,yb,yc,yd,ye,yf,yg,yh,yi,yj,yk,yl,ym,yn,yo,yp,yq,yr,yt,yu,yv,yw,yx,yy,yz,yA,yB,yC,yD,yE,yF,yG,yH,yI,yJ,yK,yL,yM,yN,yO,yP,yQ,yR,yS,yT,yU,yV,yW,yX,yY,yZ,wa,wb,wc,wd,we,wg,wj,wm,wp,wq,lA9,lB9,lC9,lD9,lE9,lF9,lG9,lH9,wt,lI9,lJ9,lK9,lL9,lM9,lN9,lO9,lP9,lQ9,lR9,lS9,lT9,↓reduceIte,Nat.reduceAdd,Nat.reduceLeDiff, k4, hf]
        · refine ⟨none, ?_⟩
          have k4' : decide (c / 4 % 4 = 1) = false := decide_eq_false k4
          rw [if_neg k4]
          unfold q__law_looped_2
          simp -implicitDefEqProofs (disch := omega) only [za,zb,zc,zd,ze,zf,zg,zh,zi,zj,zk,zm,zn,zo,zp,zq,zt,zu,zv,zw,zx,zy,zA,zB,zC,zD,zE,zF,zG,zH,zI,zJ,zK,zL,zM,zN,zO,zP,zQ,zR,zS,zT,zU,zV,zW,zX,zY,zZ,ya,yb,yc,yd,ye,yf,yg,yh,yi,yj,yk,yl,ym,yn,yo,yp,yq,yr,yt,yu,yv,yw,yx,yy,yz,yA,yB,yC,yD,yE,yF,yG,yH,yI,yJ,yK,yL,yM,yN,yO,yP,yQ,yR,yS,yT,yU,yV,yW,yX,yY,yZ,wa,wb,wc,wd,we,wg,wj,wm,wp,wq,lA9,lB9,lC9,lD9,lE9,lF9,lG9,lH9,wt,lI9,lJ9,lK9,lL9,lM9,lN9,lO9,lP9,lQ9,lR9,lS9,lT9,↓reduceIte,Nat.reduceAdd,Nat.reduceLeDiff, k4']
      obtain ⟨z, q2⟩ := q2
      have q3 : ∀ rs : List Row, rs = (if c / 4 % 4 = 1 then wrapF f.rows six else f.rows) → q__law_looped_3 (Fm D n) [some (.tup ((gs ++ [f]).map Fnc.pv)), some (.int c), some (.str f.name), some (.tup (f.pars.map PV.str)), some (.tup (Row.pvs rs)), some f.res.pv, z] st = .rt (.tup ((gs ++ [againF f c]).map Fnc.pv)) st := fun rs hrs => by
        rw [← hrs] at hla
        unfold q__law_looped_3
        simp -implicitDefEqProofs (disch := omega) only [za,zb,zc,zd,ze,zf,zg,zh,zi,zj,zk,zm,zn,zo,zp,zq,zt,zu,zv,zw,zx,zy,zA,zB,zC,zD,zE,zF,zG,zH,zI,zJ,zK,zL,zM,zN,zO,zP,zQ,zR,zS,zT,zU,zV,zW,zX,zY,zZ,ya,yb,yc,yd,ye,yf,yg,yh,yi,yj,yk,yl,ym,yn,yo,yp,yq,yr,yt,yu,yv,yw,yx,yy,yz,yA,yB,yC,yD,yE,yF,yG,yH,yI,yJ,yK,yL,yM,yN,yO,yP,yQ,yR,yS,yT,yU,yV,yW,yX,yY,yZ,wa,wb,wc,wd,we,wg,wj,wm,wp,wq,lA9,lB9,lC9,lD9,lE9,lF9,lG9,lH9,wt,lI9,lJ9,lK9,lL9,lM9,lN9,lO9,lP9,lQ9,lR9,lS9,lT9,↓reduceIte,Nat.reduceAdd,Nat.reduceLeDiff, v_init, hla]
      rw [e, b__law_looped_q, zO, q0, zm, zO, q1, zm, zO, q2, zm, zO, q3 _ rfl, zn, we, fz2, List.take_length]
      exact Eq.trans rfl rfl
end Lk
namespace Lk
open PySem L2 Vm
/-- texts of letters -/
def sOk (x : Str) : Prop := ∀ c ∈ x.cps.toList, c < 1114112
theorem sOk_ok {x : Str} (h : sOk x) : PyData.strOk x = true := by
  unfold PyData.strOk
  rw [Array.all_eq_true']
  intro c hc
  exact decide_eq_true (h c (by simpa using hc))
theorem sOk_app {a b : Str} (h : sOk a) (k : sOk b) : sOk (a ++ b) := fun c hc => by
  have e : (a ++ b).cps.toList = a.cps.toList ++ b.cps.toList := by
    show (a.cps ++ b.cps).toList = _
    simp
  rw [e] at hc
  rcases List.mem_append.mp hc with z | z
  · exact h c z
  · exact k c z
theorem sOk_rep {a : Str} (n : Nat) (h : sOk a) : sOk (repS a n) := fun c hc => by
  have e : (repS a n).cps.toList = (List.replicate n a.cps.toList).flatten := by unfold repS; simp
  rw [e] at hc
  obtain ⟨l, hl, hc⟩ := List.mem_flatten.mp hc
  rw [(List.mem_replicate.mp hl).2] at hc
  exact h c hc
theorem sOk_ltr (c : Int) : sOk (ltr (c % 26)) := fun d hd => by
  have : d = 97 + (c % 26).toNat := by simpa [ltr] using hd
  omega
theorem sOk_cut {a : Str} (lo hi : Option Int) (h : sOk a) : sOk (cutS a lo hi) := fun c hc => by
  have e : (cutS a lo hi).cps.toList = (a.cps.toList.drop (HT.sIx a.length 0 lo)).take (HT.sIx a.length a.length hi - HT.sIx a.length 0 lo) := by unfold cutS; simp
  rw [e] at hc
  exact h c (List.mem_of_mem_drop (List.mem_of_mem_take hc))
theorem sOk_base (c : Int) : sOk (wBase c) := sOk_rep _ (sOk_ltr c)
theorem sOk_word (c : Int) (k : Nat) : sOk (wordF c k) := by
  unfold wordF
  split
  · exact sOk_rep _ (sOk_ltr c)
  · exact sOk_app (sOk_app (sOk_cut _ _ (sOk_base c)) (sOk_ltr _)) (sOk_cut _ _ (sOk_base c))
theorem words_ok (c : Int) (m : Nat) : ∀ x ∈ wordsF c m, PyData.strOk x = true := fun x h => by
  obtain ⟨k, _, rfl⟩ := List.mem_map.mp h
  exact sOk_ok (sOk_word c k)
end Lk
namespace Lk
open PySem L2 Vm
def nmF (ns : List Int) : List Str := wordsF (cellF ns (if cellF ns 5 % 8 = 3 then 4 else 5)) 8
theorem ws_ok (ns : List Int) : 0 < (wsF ns).length ∧ ∀ x ∈ wsF ns, OkT x := by
  have h : 0 < nWords ns := by unfold nWords; split <;> omega
  refine ⟨by unfold wsF; rw [len_words]; exact h, ?_⟩
  unfold wsF
  exact words_ok _ _
theorem nm_ok (ns : List Int) : (nmF ns).length = 8 ∧ ∀ x ∈ nmF ns, OkT x := ⟨len_words _ 8, words_ok _ _⟩
theorem v_three {fs : List Fnc} {st : VSt} : vSl (.tup (fs.map Fnc.pv)) none (some 3) st = .ok (.tup ((fs.take 3).map Fnc.pv)) st := by
  rw [v_slt]
  unfold cutP
  rw [show (3 : Int) = ((3 : Nat) : Int) from rfl, HT.sIx_none, HT.sIx_nat, List.drop_zero, Nat.sub_zero, List.map_take]
  congr 2
  rw [List.take_eq_take_iff]
  omega
theorem v_listt {xs : List PV} {st : VSt} : vListA [.tup xs] st = .ok (.lst xs) st := rfl
end Lk
namespace Lk
open PySem L2 Vm
theorem wrap_gd : ∀ (is : List Int) {rs : List Row}, (∀ i ∈ is, 0 ≤ i ∧ i < 1000) → Row.Gds rs → Row.Gds (wrapF rs is) ∧ Row.lvls (wrapF rs is) ≤ Row.lvls rs + is.length
  | [], rs, _, g => ⟨g, Nat.le_refl _⟩
  | i :: is, rs, h, g => by
    obtain ⟨h0, h1⟩ := h i List.mem_cons_self
    have g1 : Row.Gds [.when (.num (1 + i)) rs] := by
      unfold Row.Gds Row.Gd
      exact ⟨⟨⟨by omega, by omega⟩, Nat.zero_le _, g⟩, by unfold Row.Gds; trivial⟩
    have l1 : Row.lvls [.when (.num (1 + i)) rs] = Row.lvls rs + 1 := by
      rw [Row.lvls, Row.lvls, Row.lvl]; omega
    obtain ⟨a, b⟩ := wrap_gd is (fun j hj => h j (List.mem_cons_of_mem _ hj)) g1
    exact ⟨a, by rw [l1] at b; rw [List.length_cons]; show Row.lvls (wrapF [.when (.num (1 + i)) rs] is) ≤ _; omega⟩
theorem again_gd {f : Fnc} (g : f.Gd) (l : Row.lvls f.rows ≤ 2) (c : Int) : (againF f c).Gd := by
  have six_r : ∀ i ∈ six, 0 ≤ i ∧ i < 1000 := by unfold six; decide
  obtain ⟨a, b⟩ := wrap_gd six six_r g.rs
  have b' : Row.lvls (wrapF f.rows six) ≤ 8 := Nat.le_trans b (by show Row.lvls f.rows + 6 ≤ 8; omega)
  have gg : Row.Gds (if c / 4 % 4 = 1 then wrapF f.rows six else f.rows) := by
    split
    · exact a
    · exact g.rs
  have ll : Row.lvls (if c / 4 % 4 = 1 then wrapF f.rows six else f.rows) ≤ 8 := by
    split
    · exact b'
    · omega
  refine ⟨g.nm, g.ps, g.pl, ?_, ?_, g.rt⟩
  · unfold againF Row.Gds Row.Gd
    exact ⟨⟨by omega, by omega, gg⟩, by unfold Row.Gds; trivial⟩
  · unfold againF
    rw [Row.lvls, Row.lvls, Row.lvl]
    omega
end Lk
namespace Lk
open PySem L2 Vm
def tgtF : Row → Option Str
  | .set x _ => some x
  | .call x _ _ => x
  | _ => none
def blkF : Row → List Row
  | .when _ rs => rs
  | .again _ rs => rs
  | _ => []
theorem k_ts : decide (("tell" : Str) = "set") = false := by decide
theorem k_tc : decide (("tell" : Str) = "call") = false := by decide
theorem k_tw : decide (("tell" : Str) = "when") = false := by decide
theorem k_ta : decide (("tell" : Str) = "again") = false := by decide
theorem k_ws : decide (("when" : Str) = "set") = false := by decide
theorem k_wc : decide (("when" : Str) = "call") = false := by decide
theorem k_wa : decide (("when" : Str) = "again") = false := by decide
theorem k_wt : decide (("when" : Str) = "tell") = false := by decide
theorem k_as : decide (("again" : Str) = "set") = false := by decide
theorem k_ac : decide (("again" : Str) = "call") = false := by decide
theorem k_aw : decide (("again" : Str) = "when") = false := by decide
theorem k_at : decide (("again" : Str) = "tell") = false := by decide
theorem k_cs : decide (("call" : Str) = "set") = false := by decide
theorem k_cw : decide (("call" : Str) = "when") = false := by decide
theorem k_ca : decide (("call" : Str) = "again") = false := by decide
theorem k_ct : decide (("call" : Str) = "tell") = false := by decide
theorem k_sc : decide (("set" : Str) = "call") = false := by decide
theorem k_sw : decide (("set" : Str) = "when") = false := by decide
theorem k_sa : decide (("set" : Str) = "again") = false := by decide
end Lk
namespace Lk
open PySem L2 Vm
def ownT : Row → List Trm
  | .set _ t => [t]
  | .tell t => [t]
  | .call _ _ ts => ts
  | .when t _ => [t]
  | .again _ _ => []
def ownN (r : Row) : List Str := (ownT r).flatMap Trm.names
def tot : List Trm → Nat
  | [] => 0
  | t :: ts => t.size + tot ts
end Lk
namespace Lk
open PySem L2 Vm
mutual
def Row.sz : Row → Nat
  | .set _ t => t.size + 1
  | .tell t => t.size + 1
  | .call _ _ ts => tot ts + 1
  | .when t rs => t.size + Row.szs rs + 1
  | .again _ rs => Row.szs rs + 1
def Row.szs : List Row → Nat
  | [] => 0
  | r :: rs => r.sz + Row.szs rs
end
theorem szs_cons (r : Row) (rs : List Row) : Row.szs (r :: rs) = r.sz + Row.szs rs := by rw [Row.szs]
theorem szs_nil : Row.szs [] = 0 := by rw [Row.szs]
theorem sz_when (t : Trm) (rs : List Row) : (Row.when t rs).sz = t.size + Row.szs rs + 1 := by rw [Row.sz]
theorem sz_again (t : Int) (rs : List Row) : (Row.again t rs).sz = Row.szs rs + 1 := by rw [Row.sz]
theorem lvls_cons (r : Row) (rs : List Row) : Row.lvls (r :: rs) = max r.lvl (Row.lvls rs) := by rw [Row.lvls]
theorem lvl_when (t : Trm) (rs : List Row) : (Row.when t rs).lvl = Row.lvls rs + 1 := by rw [Row.lvl]
theorem lvl_again (t : Int) (rs : List Row) : (Row.again t rs).lvl = Row.lvls rs + 1 := by rw [Row.lvl]
theorem gds_cons (r : Row) (rs : List Row) : Row.Gds (r :: rs) ↔ r.Gd ∧ Row.Gds rs := by rw [Row.Gds]
theorem gd_when {t : Trm} {rs : List Row} (g : (Row.when t rs).Gd) : Row.Gds rs := by unfold Row.Gd at g; exact g.2.2
theorem gd_again {t : Int} {rs : List Row} (g : (Row.again t rs).Gd) : Row.Gds rs := by unfold Row.Gd at g; exact g.2.2
theorem blk_gd {r : Row} (g : r.Gd) : Row.Gds (blkF r) := by
  cases r with
  | when t rs => exact gd_when g
  | again m rs => exact gd_again g
  | _ => show Row.Gds []; unfold Row.Gds; trivial
theorem blk_sz (r : Row) : Row.szs (blkF r) ≤ r.sz := by
  cases r with
  | when t rs => rw [sz_when]; show Row.szs rs ≤ _; omega
  | again m rs => rw [sz_again]; show Row.szs rs ≤ _; omega
  | _ => show Row.szs [] ≤ _; rw [szs_nil]; omega
theorem sz_mem {r : Row} : ∀ {rs : List Row}, r ∈ rs → r.sz ≤ Row.szs rs
  | [], h => by cases h
  | s :: rs, h => by
    rw [szs_cons]
    rcases List.mem_cons.mp h with rfl | h
    · omega
    · have := sz_mem h; omega
theorem lvl_mem {r : Row} : ∀ {rs : List Row}, r ∈ rs → r.lvl ≤ Row.lvls rs
  | [], h => by cases h
  | s :: rs, h => by
    rw [lvls_cons]
    rcases List.mem_cons.mp h with rfl | h
    · omega
    · have := lvl_mem h; omega
theorem gd_mem {r : Row} : ∀ {rs : List Row}, Row.Gds rs → r ∈ rs → r.Gd
  | [], _, h => by cases h
  | s :: rs, g, h => by
    rw [gds_cons] at g
    rcases List.mem_cons.mp h with rfl | h
    · exact g.1
    · exact gd_mem g.2 h
def hasB : Row → Bool
  | .when _ _ => true
  | .again _ _ => true
  | _ => false
/-- a row's own names, term by term -/
def ownO (r : Row) : List Str := (ownT r).flatMap Trm.once
theorem szs_app : ∀ (as bs : List Row), Row.szs (as ++ bs) = Row.szs as + Row.szs bs
  | [], bs => by rw [szs_nil, Nat.zero_add]; rfl
  | a :: as, bs => by rw [List.cons_append, szs_cons, szs_cons, szs_app as bs, Nat.add_assoc]
end Lk
namespace Lk
open PySem L2 Vm
mutual
def Row.In (ws : List Str) : Row → Prop
  | .set x t => x ∈ ws ∧ ∀ y ∈ t.names, y ∈ ws
  | .tell t => ∀ y ∈ t.names, y ∈ ws
  | .call x _ ts => (∀ y, x = some y → y ∈ ws) ∧ ∀ t ∈ ts, ∀ y ∈ t.names, y ∈ ws
  | .when t rs => (∀ y ∈ t.names, y ∈ ws) ∧ Row.Ins ws rs
  | .again _ rs => Row.Ins ws rs
def Row.Ins (ws : List Str) : List Row → Prop
  | [] => True
  | r :: rs => r.In ws ∧ Row.Ins ws rs
end
theorem ins_cons {ws : List Str} (r : Row) (rs : List Row) : Row.Ins ws (r :: rs) ↔ r.In ws ∧ Row.Ins ws rs := by rw [Row.Ins]
theorem ins_nil {ws : List Str} : Row.Ins ws [] := by unfold Row.Ins; trivial
theorem in_mem {ws : List Str} {r : Row} : ∀ {rs : List Row}, Row.Ins ws rs → r ∈ rs → r.In ws
  | [], _, h => by cases h
  | s :: rs, g, h => by
    rw [ins_cons] at g
    rcases List.mem_cons.mp h with rfl | h
    · exact g.1
    · exact in_mem g.2 h
theorem ins_all {ws : List Str} : ∀ {rs : List Row}, (∀ r ∈ rs, r.In ws) → Row.Ins ws rs
  | [], _ => ins_nil
  | s :: rs, h => by
    rw [ins_cons]
    exact ⟨h s List.mem_cons_self, ins_all fun r hr => h r (List.mem_cons_of_mem _ hr)⟩
theorem blk_in {ws : List Str} {r : Row} (g : r.In ws) : Row.Ins ws (blkF r) := by
  cases r with
  | when t rs => unfold Row.In at g; exact g.2
  | again m rs => unfold Row.In at g; exact g
  | _ => exact ins_nil
theorem tgt_in {ws : List Str} {r : Row} (g : r.In ws) : ∀ y, tgtF r = some y → y ∈ ws := by
  cases r with
  | set x t => unfold Row.In at g; intro y h; cases h; exact g.1
  | call x f ts => unfold Row.In at g; exact g.1
  | _ => intro y h; cases h
theorem mem_once {t : Trm} {y : Str} : y ∈ t.once ↔ y ∈ t.names := by
  have key : ∀ (xs ks : List Str), y ∈ xs.foldl put ks ↔ y ∈ ks ∨ y ∈ xs := by
    intro xs
    induction xs with
    | nil => intro ks; simp
    | cons x xs ih =>
      intro ks
      rw [List.foldl_cons, ih, List.mem_cons]
      unfold put
      split
      · rename_i h
        constructor
        · rintro (h | h)
          · exact .inl h
          · exact .inr (.inr h)
        · rintro (h | rfl | h')
          · exact .inl h
          · exact .inl h
          · exact .inr h'
      · rw [List.mem_append, List.mem_singleton, or_assoc]
  unfold Trm.once
  rw [key]
  simp
theorem mem_ownO {r : Row} {y : Str} : y ∈ ownO r ↔ y ∈ ownN r := by
  unfold ownO ownN
  rw [List.mem_flatMap, List.mem_flatMap]
  constructor
  · rintro ⟨t, ht, h⟩; exact ⟨t, ht, mem_once.mp h⟩
  · rintro ⟨t, ht, h⟩; exact ⟨t, ht, mem_once.mpr h⟩
theorem mem_addS {l : List Str} {k y : Str} : y ∈ addS l k ↔ y ∈ l ∨ y = k := by
  unfold addS
  split
  · rename_i h
    constructor
    · exact .inl
    · rintro (h | rfl) <;> assumption
  · rw [List.mem_append, List.mem_singleton]
theorem mem_addsS {y : Str} : ∀ (xs l : List Str), y ∈ xs.foldl addS l ↔ y ∈ l ∨ y ∈ xs
  | [], l => by simp
  | x :: xs, l => by
    rw [List.foldl_cons, mem_addsS xs, mem_addS, List.mem_cons, or_assoc]
theorem mem_oneS {y : Str} {xs : List Str} : y ∈ oneS xs ↔ y ∈ xs := by unfold oneS; rw [mem_addsS]; simp
theorem nodup_len : ∀ {l m : List Str}, l.Nodup → (∀ x ∈ l, x ∈ m) → l.length ≤ m.length
  | [], m, _, _ => Nat.zero_le _
  | x :: l, m, nd, h => by
    obtain ⟨n1, n2⟩ := List.nodup_cons.mp nd
    have hx := h x List.mem_cons_self
    have := nodup_len (l := l) (m := m.erase x) n2 fun y hy => (List.mem_erase_of_ne fun e => n1 (by rw [← e]; exact hy)).mpr (h y (List.mem_cons_of_mem _ hy))
    rw [List.length_erase_of_mem hx] at this
    have : 0 < m.length := List.length_pos_of_mem hx
    rw [List.length_cons]
    omega
theorem mem_srtS {y : Str} {xs : List Str} : y ∈ srtS xs ↔ y ∈ xs := (srt_perm xs).mem_iff
end Lk
namespace Lk
open PySem L2 Vm
mutual
def sureB : Row → List Str
  | .set x _ => [x]
  | .call x _ _ => x.toList
  | .again m rs => if 0 < m then srtS (oneS (sureA rs)) else []
  | .tell _ => []
  | .when _ _ => []
/-- what the rows set, one behind the other, with repeats -/
def sureA : List Row → List Str
  | [] => []
  | r :: rs => sureB r ++ sureA rs
end
def sureF (rs : List Row) : List Str := srtS (oneS (sureA rs))
theorem sureA_nil : sureA [] = [] := by rw [sureA]
theorem sureA_cons (r : Row) (rs : List Row) : sureA (r :: rs) = sureB r ++ sureA rs := by rw [sureA]
theorem sureB_again (m : Int) (rs : List Row) : sureB (.again m rs) = if 0 < m then sureF rs else [] := by rw [sureB]; rfl
theorem mem_sureF {y : Str} {rs : List Row} : y ∈ sureF rs ↔ y ∈ sureA rs := by unfold sureF; rw [mem_srtS, mem_oneS]
end Lk
namespace Lk
open PySem L2 Vm
def addF (ah : List Str) (fd : List Str) (x : Str) : List Str := if x ∈ ah then fd else addS fd x
mutual
def firstB : Row → List Str
  | .when t rs => ownO (.when t rs) ++ srtS (firstA rs [] [])
  | .again m rs => if 0 < m then srtS (firstA rs [] []) else []
  | .set x t => ownO (.set x t)
  | .tell t => ownO (.tell t)
  | .call x f ts => ownO (.call x f ts)
def firstA : List Row → List Str → List Str → List Str
  | [], _, fd => fd
  | r :: rs, ah, fd => firstA rs ((sureB r).foldl addS ah) ((firstB r).foldl (addF ah) fd)
end
def firstF (rs : List Row) : List Str := srtS (firstA rs [] [])
theorem firstA_cons (r : Row) (rs : List Row) (ah fd : List Str) : firstA (r :: rs) ah fd = firstA rs ((sureB r).foldl addS ah) ((firstB r).foldl (addF ah) fd) := by rw [firstA]
theorem firstA_nil (ah fd : List Str) : firstA [] ah fd = fd := by rw [firstA]
theorem mem_addFs {ah : List Str} {y : Str} : ∀ (xs fd : List Str), y ∈ xs.foldl (addF ah) fd ↔ y ∈ fd ∨ (y ∉ ah ∧ y ∈ xs)
  | [], fd => by simp
  | x :: xs, fd => by
    rw [List.foldl_cons, mem_addFs xs]
    unfold addF
    split
    · rename_i h
      rw [List.mem_cons]
      constructor
      · rintro (h1 | ⟨h1, h2⟩)
        · exact .inl h1
        · exact .inr ⟨h1, .inr h2⟩
      · rintro (h1 | ⟨h1, rfl | h2⟩)
        · exact .inl h1
        · exact absurd h h1
        · exact .inr ⟨h1, h2⟩
    · rename_i h
      rw [mem_addS, List.mem_cons]
      constructor
      · rintro ((h1 | rfl) | ⟨h1, h2⟩)
        · exact .inl h1
        · exact .inr ⟨h, .inl rfl⟩
        · exact .inr ⟨h1, .inr h2⟩
      · rintro (h1 | ⟨h1, rfl | h2⟩)
        · exact .inl (.inl h1)
        · exact .inl (.inr rfl)
        · exact .inr ⟨h1, h2⟩
theorem mem_firstF {y : Str} {rs : List Row} : y ∈ firstF rs ↔ y ∈ firstA rs [] [] := by unfold firstF; rw [mem_srtS]
end Lk
namespace Lk
open PySem L2 Vm
/-- x is read first by the rows -/
def fstR (x : Str) : List Row → Bool
  | [] => false
  | r :: rs => decide (x ∈ firstB r) || (!decide (x ∈ sureB r) && fstR x rs)
theorem mem_firstA {x : Str} : ∀ (rs : List Row) (ah fd : List Str), x ∈ firstA rs ah fd ↔ x ∈ fd ∨ (x ∉ ah ∧ fstR x rs = true)
  | [], ah, fd => by rw [firstA_nil]; simp [fstR]
  | r :: rs, ah, fd => by
    rw [firstA_cons, mem_firstA rs, mem_addFs, mem_addsS]
    show _ ↔ x ∈ fd ∨ (x ∉ ah ∧ (decide (x ∈ firstB r) || (!decide (x ∈ sureB r) && fstR x rs)) = true)
    rw [Bool.or_eq_true, Bool.and_eq_true, decide_eq_true_eq, Bool.not_eq_true', decide_eq_false_iff_not]
    constructor
    · rintro ((h | ⟨h1, h2⟩) | ⟨h1, h2⟩)
      · exact .inl h
      · exact .inr ⟨h1, .inl h2⟩
      · exact .inr ⟨fun z => h1 (.inl z), .inr ⟨fun z => h1 (.inr z), h2⟩⟩
    · rintro (h | ⟨h1, h2 | ⟨h2, h3⟩⟩)
      · exact .inl (.inl h)
      · exact .inl (.inr ⟨h1, h2⟩)
      · exact .inr ⟨fun z => z.elim h1 h2, h3⟩
theorem mem_firstF' {x : Str} {rs : List Row} : x ∈ firstF rs ↔ fstR x rs = true := by rw [mem_firstF, mem_firstA]; simp
end Lk
namespace Lk
open PySem L2 Vm
mutual
def plcL (pl : List Int) : Int → List Row → List (List Int × Row)
  | _, [] => []
  | k, r :: rs => (pl ++ [k], r) :: (plcR (pl ++ [k]) r ++ plcL pl (k + 1) rs)
def plcR (pl : List Int) : Row → List (List Int × Row)
  | .when _ rs => plcL pl 0 rs
  | .again _ rs => plcL pl 0 rs
  | .set _ _ => []
  | .tell _ => []
  | .call _ _ _ => []
end
theorem plcL_nil (pl : List Int) (k : Int) : plcL pl k [] = [] := by rw [plcL]
theorem plcL_cons (pl : List Int) (k : Int) (r : Row) (rs : List Row) : plcL pl k (r :: rs) = (pl ++ [k], r) :: (plcR (pl ++ [k]) r ++ plcL pl (k + 1) rs) := by rw [plcL]
mutual
theorem plcL_len (pl : List Int) : ∀ (k : Int) (rs : List Row), (plcL pl k rs).length ≤ Row.szs rs
  | k, [] => by rw [plcL_nil]; exact Nat.zero_le _
  | k, r :: rs => by
    rw [plcL_cons, List.length_cons, List.length_append, szs_cons]
    have h1 := plcR_len (pl ++ [k]) r
    have h2 := plcL_len pl (k + 1) rs
    omega
theorem plcR_len (pl : List Int) : ∀ r : Row, (plcR pl r).length + 1 ≤ r.sz
  | .when t rs => by
    rw [plcR, sz_when]
    have := plcL_len pl 0 rs
    omega
  | .again t rs => by
    rw [plcR, sz_again]
    have := plcL_len pl 0 rs
    omega
  | .set x t => by rw [plcR, Row.sz]; show 0 + 1 ≤ _; omega
  | .tell t => by rw [plcR, Row.sz]; show 0 + 1 ≤ _; omega
  | .call x f ts => by rw [plcR, Row.sz]; show 0 + 1 ≤ _; omega
end
theorem len_szs : ∀ rs : List Row, rs.length ≤ Row.szs rs
  | [] => Nat.zero_le _
  | r :: rs => by
    rw [szs_cons, List.length_cons]
    have h3 := plcR_len [] r
    have := len_szs rs
    omega
end Lk
namespace Lk
open PySem L2 Vm
theorem forP_keep {j : IT} {xs : List PV} {st : VSt} {B : PV → VEnv → VSt → SR} {I : VEnv → Prop} (h : Itm j st = some xs) (hB : ∀ x ∈ xs, ∀ e, I e → ∃ e', I e' ∧ B x e st = .nx e' st) : ∀ (m : Nat), m ≤ xs.length → ∀ e, I e → ∃ e', I e' ∧ forP j xs.length B m e st = .nx e' st
  | 0, _, e, i => ⟨e, i, by unfold forP; rw [h]; simp⟩
  | m + 1, hm, e, i => by
    have hi : xs.length - (m + 1) < xs.length := by omega
    obtain ⟨e', i', q⟩ := hB xs[xs.length - (m + 1)] (List.getElem_mem hi) e i
    obtain ⟨e2, i2, q2⟩ := forP_keep h hB m (by omega) e' i'
    refine ⟨e2, i2, ?_⟩
    unfold forP
    rw [h]
    simp only [if_true]
    rw [List.getElem?_eq_getElem hi]
    show (match B xs[xs.length - (m + 1)] e st with
      | .nx e s => forP j xs.length B m e s
      | .ct e s => forP j xs.length B m e s
      | .bk e s => .nx e s
      | .rt p s => .rt p s
      | .ex c fs s => .ex c fs s
      | .bad => .bad) = _
    rw [q]
    exact q2
theorem for_keep {a : EM} {g : GM} {body : SM} {p : PV} {xs : List PV} {env : VEnv} {st : VSt} (I : VEnv → Prop) (h : a env st = .ok p st) (hs : seqOf st p = some xs) (hB : ∀ x ∈ xs, ∀ e, I e → ∃ e', I e' ∧ bodyP g body x e st = .nx e' st) (hI : I env) : ∃ e', I e' ∧ sFor (iSeq a) g body env st = .nx e' st := by
  have hj : Itm (.seq p) st = some xs := hs
  obtain ⟨e', i', q⟩ := forP_keep hj hB xs.length (Nat.le_refl _) env hI
  refine ⟨e', i', ?_⟩
  have hi : iSeq a env st = .ok (.seq p) st := by
    unfold iSeq
    rw [h]
    show (if (seqOf st p).isSome = true then _ else _) = _
    rw [hs]; rfl
  unfold sFor
  rw [hi]
  show (match Itm (.seq p) st with
    | some xs => forP (.seq p) xs.length (bodyP g body) xs.length env st
    | none => SR.bad) = _
  rw [hj]
  exact q
end Lk
namespace Lk
open PySem L2 Vm
theorem app_toList (a b : Str) : (a ++ b).cps.toList = a.cps.toList ++ b.cps.toList := by
  show (a.cps ++ b.cps).toList = _
  rw [Array.toList_append]
theorem wordA_inj {c : Int} {j k : Nat} (h : wA c j = wA c k) : j = k := by
  have := congrArg Str.length h
  unfold wA at this
  rw [len_repS, len_repS, len_ltr] at this
  omega
theorem wordB_inj {c : Int} {j k : Nat} (hj : j < 26) (hk : k < 26) (h : wB c j = wB c k) : j = k := by
  unfold wB at h
  have h1 := congrArg (fun s : Str => s.cps.toList) h
  simp only [app_toList] at h1
  rw [List.append_assoc, List.append_assoc] at h1
  have h2 := List.append_cancel_left h1
  have h3 : ((ltr ((c / 4992 + 5 * (j : Int)) % 26)).cps.toList ++ (cutS (wBase c) (some (wAt c + 1)) none).cps.toList).head? = _ := congrArg List.head? h2
  have h4 : some (97 + ((c / 4992 + 5 * (j : Int)) % 26).toNat) = some (97 + ((c / 4992 + 5 * (k : Int)) % 26).toNat) := h3
  have h5 := Option.some.inj h4
  omega
theorem words_nodup (c : Int) (m : Nat) (hm : m ≤ 26) : (wordsF c m).Nodup := by
  unfold wordsF
  rw [List.nodup_iff_pairwise_ne, List.pairwise_map]
  refine List.Pairwise.imp_of_mem (R := (· ≠ ·)) (fun {a b} ha hb hne h => hne ?_) (List.nodup_iff_pairwise_ne.mp List.nodup_range)
  rw [List.mem_range] at ha hb
  unfold wordF at h
  by_cases hc : c / 1664 % 3 = 1
  · rw [if_pos hc, if_pos hc] at h
    exact wordA_inj h
  · rw [if_neg hc, if_neg hc] at h
    exact wordB_inj (by omega) (by omega) h
theorem ws_len (ns : List Int) : (wsF ns).length ≤ 7 := by
  unfold wsF nWords
  rw [len_words]
  split <;> omega
theorem nm_nodup (ns : List Int) : (nmF ns).Nodup := words_nodup _ 8 (by omega)
theorem getD_in {ws : List Str} (hw : 0 < ws.length) {i : Int} (h0 : 0 ≤ i) (h1 : i < (ws.length : Int)) : ws.getD i.toNat "" ∈ ws := by
  have : i.toNat < ws.length := by omega
  rw [List.getD_eq_getElem?_getD, List.getElem?_eq_getElem this]
  exact List.getElem_mem _
theorem mod_in {ws : List Str} (hw : 0 < ws.length) (i : Int) : ws.getD (i % (ws.length : Int)).toNat "" ∈ ws := getD_in hw (Int.emod_nonneg _ (by omega)) (Int.emod_lt_of_pos _ (by omega))
section
variable {ws : List Str} (hw : 0 < ws.length)
include hw
theorem term_in (d : Nat) (c : Int) : ∀ y ∈ (termF ws d c).names, y ∈ ws := Trm.good_names (term_good hw d c)
theorem given_in {x : Str} (hx : x ∈ ws) (c : Int) : ∀ y ∈ (givenF ws x c).names, y ∈ ws := by
  unfold givenF
  split
  · intro y hy
    obtain rfl : y = x := by simpa [Trm.names] using hy
    exact hx
  · exact term_in hw 1 _
end
theorem given_size {ws : List Str} {x : Str} (c : Int) : (givenF ws x c).size ≤ 3 := by
  unfold givenF
  split
  · show 1 ≤ 3; omega
  · have := term_size ws 1 (c / 2); omega
/-- heads: their parameters are of the names, four at most -/
structure Fnc.Hd (ws : List Str) (f : Fnc) : Prop where
  pi : ∀ x ∈ f.pars, x ∈ ws
  pl : f.pars.length ≤ 4
theorem noFnc_hd {ws : List Str} : noFnc.Hd ws := ⟨(fun x h => by cases h), Nat.zero_le _⟩
theorem tot_map {α : Type} {f : α → Trm} {b : Nat} : ∀ {l : List α}, (∀ x ∈ l, (f x).size ≤ b) → tot (l.map f) ≤ l.length * b
  | [], _ => Nat.zero_le _
  | x :: l, h => by
    have h1 := tot_map (l := l) fun y hy => h y (List.mem_cons_of_mem _ hy)
    have h2 := h x List.mem_cons_self
    show (f x).size + tot (l.map f) ≤ (l.length + 1) * b
    rw [Nat.add_mul]; omega
section
variable {ws : List Str} (hw : 0 < ws.length)
include hw
theorem head_hd {hs : List Fnc} (g : ∀ h ∈ hs, h.Hd ws) (c : Int) : (headF hs c).Hd ws := getD_ok g noFnc_hd _
theorem call_dr {hs : List Fnc} (g : ∀ h ∈ hs, h.Hd ws) (c : Int) : (callF ws hs c).In ws ∧ (callF ws hs c).sz ≤ 13 := by
  have hh := head_hd hw g c
  unfold callF
  constructor
  · unfold Row.In
    refine ⟨fun y hy => ?_, fun t ht => ?_⟩
    · split at hy
      · cases hy
      · cases hy; exact mod_in hw _
    · obtain ⟨k, hk, rfl⟩ := List.mem_map.mp ht
      rw [List.mem_range] at hk
      have hp : (headF hs c).pars.getD k "" ∈ ws := by
        rw [List.getD_eq_getElem?_getD, List.getElem?_eq_getElem hk]
        exact hh.pi _ (List.getElem_mem _)
      exact given_in hw hp _
  · rw [Row.sz]
    have := tot_map (f := argF ws (headF hs c) c) (b := 3) (l := List.range (headF hs c).pars.length) fun k _ => given_size _
    rw [List.length_range] at this
    have h2 := hh.pl
    have : (headF hs c).pars.length * 3 ≤ 12 := by omega
    omega
theorem flat_dr {hs : List Fnc} (g : ∀ h ∈ hs, h.Hd ws) (c : Int) : (flatF ws hs c).In ws ∧ (flatF ws hs c).sz ≤ 13 := by
  unfold flatF
  split
  · refine ⟨by unfold Row.In; exact term_in hw _ _, ?_⟩
    rw [Row.sz]
    have := term_size ws 2 (mixedF c 3); omega
  · split
    · exact call_dr hw g _
    · refine ⟨by unfold Row.In; exact ⟨mod_in hw _, term_in hw _ _⟩, ?_⟩
      rw [Row.sz]
      have h1 := term_size ws (1 + c % 9 % 2).toNat (mixedF c 3)
      have h2 : (1 + c % 9 % 2).toNat ≤ 2 := by omega
      have h3 : 2 ^ ((1 + c % 9 % 2).toNat + 1) ≤ 2 ^ 3 := Nat.pow_le_pow_right (by omega) (by omega)
      omega
theorem few_hd {hs : List Fnc} (g : ∀ h ∈ hs, h.Hd ws) (c : Int) : ∀ h ∈ fewF hs c, h.Hd ws := fun h hh => g h (List.mem_of_mem_take hh)
theorem rows_dr {R : Int → Row} {b : Nat} (hR : ∀ c, (R c).In ws ∧ (R c).sz ≤ b) (c m : Int) : Row.Ins ws (rowsOf R c m) ∧ Row.szs (rowsOf R c m) ≤ m.toNat * b := by
  unfold rowsOf
  constructor
  · exact ins_all fun r hr => by
      obtain ⟨k, _, rfl⟩ := List.mem_map.mp hr
      exact (hR _).1
  · have key : ∀ l : List Nat, Row.szs (l.map fun (k : Nat) => R (mixedF c (20 + (k : Int)))) ≤ l.length * b := by
      intro l
      induction l with
      | nil => rw [List.map_nil, szs_nil]; exact Nat.zero_le _
      | cons k l ih =>
        rw [List.map_cons, szs_cons, List.length_cons, Nat.add_mul]
        have := (hR (mixedF c (20 + (k : Int)))).2
        omega
    have := key (List.range m.toNat)
    rwa [List.length_range] at this
theorem row_dr : ∀ (d : Nat) {hs : List Fnc}, (∀ h ∈ hs, h.Hd ws) → ∀ c : Int, (rowF ws d hs c).In ws ∧ (rowF ws d hs c).sz ≤ 15 * 4 ^ d
  | 0, hs, g, c => by
    have := flat_dr hw g c
    rw [rowF]
    exact ⟨this.1, by omega⟩
  | d + 1, hs, g, c => by
    have h1 := rows_dr hw (row_dr d (few_hd hw g c)) (mixedF c 3) (1 + c / 9 % 3)
    have h2 := flat_dr hw g c
    have h3 : (1 + c / 9 % 3).toNat * (15 * 4 ^ d) ≤ 3 * (15 * 4 ^ d) := Nat.mul_le_mul_right _ (by omega)
    have h4 : 1 ≤ 4 ^ d := Nat.one_le_pow _ _ (by omega)
    have h5 : 4 ^ (d + 1) = 4 * 4 ^ d := by rw [Nat.pow_succ, Nat.mul_comm]
    rw [rowF]
    split
    · refine ⟨by unfold Row.In; exact ⟨term_in hw _ _, h1.1⟩, ?_⟩
      rw [sz_when]
      have := term_size ws 1 (mixedF c 4)
      omega
    · split
      · refine ⟨by unfold Row.In; exact h1.1, ?_⟩
        rw [sz_again]
        omega
      · exact ⟨h2.1, by omega⟩
/-- a drawn function -/
structure Fnc.Dr (ws : List Str) (f : Fnc) : Prop where
  hd : f.Hd ws
  ri : Row.Ins ws f.rows
  rs : Row.szs f.rows ≤ 1900
  ti : ∀ y ∈ f.res.names, y ∈ ws
  tz : f.res.size ≤ 3
theorem pars_hd (c : Int) : (∀ x ∈ parsF ws c, x ∈ ws) ∧ (parsF ws c).length ≤ 4 := by
  have p := p6_r (c % 6)
  unfold parsF
  refine ⟨fun x hx => ?_, by rw [List.length_map, List.length_range]; omega⟩
  obtain ⟨k, _, rfl⟩ := List.mem_map.mp hx
  exact mod_in hw _
theorem function_dr {hs : List Fnc} (g : ∀ h ∈ hs, h.Hd ws) (x : Str) (c : Int) : (functionF ws hs x c).Dr ws := by
  have m := manyF_r c
  have r1 := rows_dr hw (row_dr hw 1 (hs := []) fun h z => by cases z) (mixedF c 5) (manyF c)
  have r2 := rows_dr hw (row_dr hw 2 g) (mixedF c 5) (manyF c)
  refine ⟨⟨(pars_hd hw c).1, (pars_hd hw c).2⟩, ?_, ?_, term_in hw 1 _, by have := term_size ws 1 (mixedF c 6); show (termF ws 1 (mixedF c 6)).size ≤ 3; omega⟩
  · show Row.Ins ws (if manyF c > 6 then _ else _)
    split
    · exact r1.1
    · exact r2.1
  · show Row.szs (if manyF c > 6 then _ else _) ≤ 1900
    split
    · have := r1.2; omega
    · have := r2.2; omega
end
end Lk
namespace Lk
open PySem L2 Vm
mutual
def Row.Cl (P : Str → Nat → Prop) : Row → Prop
  | .set _ _ => True
  | .tell _ => True
  | .call _ f ts => P f ts.length
  | .when _ rs => Row.Cls P rs
  | .again _ rs => Row.Cls P rs
def Row.Cls (P : Str → Nat → Prop) : List Row → Prop
  | [] => True
  | r :: rs => r.Cl P ∧ Row.Cls P rs
end
theorem cls_cons {P : Str → Nat → Prop} (r : Row) (rs : List Row) : Row.Cls P (r :: rs) ↔ r.Cl P ∧ Row.Cls P rs := by rw [Row.Cls]
theorem cls_nil {P : Str → Nat → Prop} : Row.Cls P [] := by unfold Row.Cls; trivial
theorem cl_mem {P : Str → Nat → Prop} {r : Row} : ∀ {rs : List Row}, Row.Cls P rs → r ∈ rs → r.Cl P
  | [], _, h => by cases h
  | s :: rs, g, h => by
    rw [cls_cons] at g
    rcases List.mem_cons.mp h with rfl | h
    · exact g.1
    · exact cl_mem g.2 h
theorem cls_all {P : Str → Nat → Prop} : ∀ {rs : List Row}, (∀ r ∈ rs, r.Cl P) → Row.Cls P rs
  | [], _ => cls_nil
  | s :: rs, h => by
    rw [cls_cons]
    exact ⟨h s List.mem_cons_self, cls_all fun r hr => h r (List.mem_cons_of_mem _ hr)⟩
theorem blk_cl {P : Str → Nat → Prop} {r : Row} (g : r.Cl P) : Row.Cls P (blkF r) := by
  cases r with
  | when t rs => unfold Row.Cl at g; exact g
  | again m rs => unfold Row.Cl at g; exact g
  | _ => exact cls_nil
mutual
theorem Row.Cl.mono {P Q : Str → Nat → Prop} (h : ∀ f k, P f k → Q f k) : ∀ r : Row, r.Cl P → r.Cl Q
  | .set _ _, _ => by unfold Row.Cl; trivial
  | .tell _, _ => by unfold Row.Cl; trivial
  | .call _ f ts, g => by unfold Row.Cl at g ⊢; exact h _ _ g
  | .when _ rs, g => by unfold Row.Cl at g ⊢; exact Row.Cls.mono h rs g
  | .again _ rs, g => by unfold Row.Cl at g ⊢; exact Row.Cls.mono h rs g
theorem Row.Cls.mono {P Q : Str → Nat → Prop} (h : ∀ f k, P f k → Q f k) : ∀ rs : List Row, Row.Cls P rs → Row.Cls Q rs
  | [], _ => cls_nil
  | r :: rs, g => by
    rw [cls_cons] at g ⊢
    exact ⟨Row.Cl.mono h r g.1, Row.Cls.mono h rs g.2⟩
end
/-- the functions that may be called -/
def CalF (hs : List Fnc) : Str → Nat → Prop := fun f k => ∃ h ∈ hs, h.name = f ∧ h.pars.length = k
theorem CalF.mono {as bs : List Fnc} (h : ∀ x ∈ as, x ∈ bs) : ∀ f k, CalF as f k → CalF bs f k := fun _ _ ⟨g, hg, e⟩ => ⟨g, h g hg, e⟩
theorem head_mem {hs : List Fnc} (hn : hs.isEmpty = false) (c : Int) : headF hs c ∈ hs := by
  have hl : 0 < hs.length := by cases hs with
    | nil => cases hn
    | cons _ _ => exact Nat.succ_pos _
  have h0 : 0 ≤ c / 7 % (hs.length : Int) := Int.emod_nonneg _ (by omega)
  have h1 : c / 7 % (hs.length : Int) < hs.length := Int.emod_lt_of_pos _ (by omega)
  have : (c / 7 % (hs.length : Int)).toNat < hs.length := by omega
  unfold headF
  rw [List.getD_eq_getElem?_getD, List.getElem?_eq_getElem this]
  exact List.getElem_mem _
theorem flat_cl (ws : List Str) (hs : List Fnc) (c : Int) : (flatF ws hs c).Cl (CalF hs) := by
  unfold flatF
  split
  · unfold Row.Cl; trivial
  · split
    · rename_i h
      unfold callF Row.Cl
      exact ⟨_, head_mem h.2.2 _, rfl, by rw [List.length_map, List.length_range]⟩
    · unfold Row.Cl; trivial
theorem rows_cl {P : Str → Nat → Prop} {R : Int → Row} (hR : ∀ c, (R c).Cl P) (c m : Int) : Row.Cls P (rowsOf R c m) := cls_all fun r hr => by
  obtain ⟨k, _, rfl⟩ := List.mem_map.mp hr
  exact hR _
theorem row_cl (ws : List Str) : ∀ (d : Nat) (hs : List Fnc) (c : Int), (rowF ws d hs c).Cl (CalF hs)
  | 0, hs, c => by rw [rowF]; exact flat_cl ws hs c
  | d + 1, hs, c => by
    have key : Row.Cls (CalF hs) (rowsOf (rowF ws d (fewF hs c)) (mixedF c 3) (1 + c / 9 % 3)) :=
      rows_cl (fun c' => Row.Cl.mono (CalF.mono fun x hx => List.mem_of_mem_take hx) _ (row_cl ws d (fewF hs c) c')) _ _
    rw [rowF]
    split
    · unfold Row.Cl; exact key
    · split
      · unfold Row.Cl; exact key
      · exact flat_cl ws hs c
theorem function_cl (ws : List Str) (hs : List Fnc) (x : Str) (c : Int) : Row.Cls (CalF hs) (functionF ws hs x c).rows := by
  show Row.Cls (CalF hs) (if manyF c > 6 then _ else _)
  split
  · exact Row.Cls.mono (CalF.mono fun x hx => by cases hx) _ (rows_cl (row_cl ws 1 []) _ _)
  · exact rows_cl (row_cl ws 2 hs) _ _
theorem wrap_cl {P : Str → Nat → Prop} : ∀ (is : List Int) {rs : List Row}, Row.Cls P rs → Row.Cls P (wrapF rs is)
  | [], rs, g => g
  | i :: is, rs, g => by
    have g1 : Row.Cls P [.when (.num (1 + i)) rs] := by
      rw [cls_cons]
      exact ⟨by unfold Row.Cl; exact g, cls_nil⟩
    exact wrap_cl is g1
theorem again_cl {P : Str → Nat → Prop} {f : Fnc} (g : Row.Cls P f.rows) (c : Int) : Row.Cls P (againF f c).rows := by
  unfold againF
  rw [cls_cons]
  refine ⟨?_, cls_nil⟩
  unfold Row.Cl
  split
  · exact wrap_cl six g
  · exact g
/-- a list of functions, each of which calls those ahead of it -/
def WfP (fs : List Fnc) : Prop := ∀ (i : Nat) (f : Fnc), fs[i]? = some f → Row.Cls (CalF (fs.take i)) f.rows
theorem WfP.snoc {fs : List Fnc} (h : WfP fs) {f : Fnc} (hf : Row.Cls (CalF fs) f.rows) : WfP (fs ++ [f]) := fun i g hg => by
  by_cases hi : i < fs.length
  · rw [List.getElem?_append_left hi] at hg
    rw [List.take_append_of_le_length (by omega)]
    exact h i g hg
  · rw [List.getElem?_append_right (by omega)] at hg
    have : i - fs.length = 0 := by
      by_cases h0 : i - fs.length = 0
      · exact h0
      · rw [List.getElem?_eq_none (by simp; omega)] at hg; cases hg
    rw [this] at hg
    cases hg
    have e : i = fs.length := by omega
    subst e
    rw [List.take_append_of_le_length (by omega), List.take_length]
    exact hf
theorem WfP.left {fs gs : List Fnc} (h : WfP (fs ++ gs)) : WfP fs := fun i f hf => by
  have hi := (List.getElem?_eq_some_iff.mp hf).1
  have := h i f (by rw [List.getElem?_append_left hi]; exact hf)
  rwa [List.take_append_of_le_length (by omega)] at this
theorem WfP.last {fs : List Fnc} {f : Fnc} (h : WfP (fs ++ [f])) : Row.Cls (CalF fs) f.rows := by
  have := h fs.length f (by simp)
  rwa [List.take_append_of_le_length (by omega), List.take_length] at this
theorem WfP.nil : WfP [] := fun i f h => by simp at h
theorem wf_loop {gs : List Fnc} {f : Fnc} (h : WfP (gs ++ [f])) (c : Int) : WfP (loopF gs f c) := by
  unfold loopF
  split
  · exact h
  · exact h.left.snoc (again_cl h.last c)
end Lk
namespace Lk
open PySem L2 Vm
def mx1 (c : Int) : Int := if c > 1 then c else 1
mutual
def workR (lk : Str → Int) : Row → Int
  | .set _ _ => 1
  | .tell _ => 1
  | .call _ f _ => 1 + lk f
  | .when _ rs => 1 + workF lk rs
  | .again c rs => 1 + mx1 c * workF lk rs
def workF (lk : Str → Int) : List Row → Int
  | [] => 0
  | r :: rs => workR lk r + workF lk rs
end
theorem workF_nil (lk : Str → Int) : workF lk [] = 0 := by rw [workF]
theorem workF_cons (lk : Str → Int) (r : Row) (rs : List Row) : workF lk (r :: rs) = workR lk r + workF lk rs := by rw [workF]
theorem work_fold (lk : Str → Int) : ∀ (rs : List Row) (a : Int), rs.foldl (fun a r => a + workR lk r) a = a + workF lk rs
  | [], a => by rw [workF_nil]; simp
  | r :: rs, a => by rw [List.foldl_cons, work_fold lk rs, workF_cons]; omega
def lkI (wk : List (Str × Int)) (f : Str) : Int := (lkE wk f).getD 0
theorem mx1_r {c : Int} (h : 0 ≤ c ∧ c < 10) : 1 ≤ mx1 c ∧ mx1 c < 10 := by unfold mx1; split <;> omega
theorem work_run {wk : List (Str × Int)} {a : Nat} {st : VSt} (hd : deref st (.loc a) = dE PV.int wk) {m : Nat} {rs : List Row} (g : Row.Gds rs) (hc : Row.Cls (fun f _ => hasE wk f = true) rs)
    (hw : ∀ r ∈ rs, hasB r = true → Fm D m i__law_work [.tup (Row.pvs (blkF r)), .loc a] st = .ok (.int (workF (lkI wk) (blkF r))) st) :
    Fm D (m + 1) i__law_work [.tup (Row.pvs rs), .loc a] st = .ok (.int (workF (lkI wk) rs)) st := by
  rw [c__law_work, b__law_work_q]
  obtain ⟨e', st', lp, z, rfl, es⟩ := forL_fold (B := bodyP (gName 3) (fb__law_work_0 (Fm D m))) (enc := Row.pv) (f := fun acc r => acc + workR (lkI wk) r)
    (R := fun acc e s => ∃ z, e = [some (.tup (Row.pvs rs)), some (.loc a), some (.int acc), z] ∧ s = st) rs 0 [some (.tup (Row.pvs rs)), some (.loc a), some (.int 0), none] st
    (fun pre r post hx e s ⟨z, he, hs⟩ => by
      subst he hs
      have hr : r ∈ rs := by rw [hx]; simp
      have gr := gd_mem g hr
      have cr := cl_mem hc hr
      have hwr := hw r hr
      generalize pre.foldl (fun acc r => acc + workR (lkI wk) r) 0 = acc
      refine ⟨_, _, ?_, some r.pv, rfl, rfl⟩
      cases r with
      | set x t =>
        rw [workR, Row.pv]
        unfold fb__law_work_0
        simp -implicitDefEqProofs (disch := omega) only [za,zb,zc,zd,ze,zf,zg,zh,zi,zj,zk,zm,zn,zo,zp,zq,zt,zu,zv,zw,zx,zy,zA,zB,zC,zD,zE,zF,zG,zH,zI,zJ,zK,zL,zM,zN,zO,zP,zQ,zR,zS,zT,zU,zV,zW,zX,zY,zZ,ya,yb,yc,yd,ye,yf,yg,yh,yi,yj,yk,yl,ym,yn,yo,yp,yq,yr,yt,yu,yv,yw,yx,yy,yz,yA,yB,yC,yD,yE,yF,yG,yH,yI,yJ,yK,yL,yM,yN,yO,yP,yQ,yR,yS,yT,yU,yV,yW,yX,yY,yZ,wa,wb,wc,wd,we,wg,wj,wm,wp,wq,lA9,lB9,lC9,lD9,lE9,lF9,lG9,lH9,wt,lI9,lJ9,lK9,lL9,lM9,lN9,lO9,lP9,lQ9,lR9,lS9,lT9,↓reduceIte,Nat.reduceAdd,Nat.reduceLeDiff, x_body, k_sc, k_sw, k_sa]
      | tell t =>
        rw [workR, Row.pv]
        unfold fb__law_work_0
        simp -implicitDefEqProofs (disch := omega) only [za,zb,zc,zd,ze,zf,zg,zh,zi,zj,zk,zm,zn,zo,zp,zq,zt,zu,zv,zw,zx,zy,zA,zB,zC,zD,zE,zF,zG,zH,zI,zJ,zK,zL,zM,zN,zO,zP,zQ,zR,zS,zT,zU,zV,zW,zX,zY,zZ,ya,yb,yc,yd,ye,yf,yg,yh,yi,yj,yk,yl,ym,yn,yo,yp,yq,yr,yt,yu,yv,yw,yx,yy,yz,yA,yB,yC,yD,yE,yF,yG,yH,yI,yJ,yK,yL,yM,yN,yO,yP,yQ,yR,yS,yT,yU,yV,yW,yX,yY,yZ,wa,wb,wc,wd,we,wg,wj,wm,wp,wq,lA9,lB9,lC9,lD9,lE9,lF9,lG9,lH9,wt,lI9,lJ9,lK9,lL9,lM9,lN9,lO9,lP9,lQ9,lR9,lS9,lT9,↓reduceIte,Nat.reduceAdd,Nat.reduceLeDiff, x_body, k_tc, k_tw, k_ta]
      | call x f ts =>
        unfold Row.Cl at cr
        have hl : lkE wk f = some (lkI wk f) := by
          unfold hasE at cr
          obtain ⟨v, hv⟩ := Option.isSome_iff_exists.mp cr
          unfold lkI; rw [hv]; rfl
        have vi := v_ixE hd hl
        rw [workR, Row.pv]
        unfold fb__law_work_0
        simp -implicitDefEqProofs (disch := omega) only [za,zb,zc,zd,ze,zf,zg,zh,zi,zj,zk,zm,zn,zo,zp,zq,zt,zu,zv,zw,zx,zy,zA,zB,zC,zD,zE,zF,zG,zH,zI,zJ,zK,zL,zM,zN,zO,zP,zQ,zR,zS,zT,zU,zV,zW,zX,zY,zZ,ya,yb,yc,yd,ye,yf,yg,yh,yi,yj,yk,yl,ym,yn,yo,yp,yq,yr,yt,yu,yv,yw,yx,yy,yz,yA,yB,yC,yD,yE,yF,yG,yH,yI,yJ,yK,yL,yM,yN,yO,yP,yQ,yR,yS,yT,yU,yV,yW,yX,yY,yZ,wa,wb,wc,wd,we,wg,wj,wm,wp,wq,lA9,lB9,lC9,lD9,lE9,lF9,lG9,lH9,wt,lI9,lJ9,lK9,lL9,lM9,lN9,lO9,lP9,lQ9,lR9,lS9,lT9,↓reduceIte,Nat.reduceAdd,Nat.reduceLeDiff, x_body, k_cw, k_ca, vi]
        rw [Int.add_assoc]
      | when t bs =>
        have hwr := hwr rfl
        rw [workR, Row.pv]
        simp only [blkF] at hwr
        unfold fb__law_work_0
        simp -implicitDefEqProofs (disch := omega) only [za,zb,zc,zd,ze,zf,zg,zh,zi,zj,zk,zm,zn,zo,zp,zq,zt,zu,zv,zw,zx,zy,zA,zB,zC,zD,zE,zF,zG,zH,zI,zJ,zK,zL,zM,zN,zO,zP,zQ,zR,zS,zT,zU,zV,zW,zX,zY,zZ,ya,yb,yc,yd,ye,yf,yg,yh,yi,yj,yk,yl,ym,yn,yo,yp,yq,yr,yt,yu,yv,yw,yx,yy,yz,yA,yB,yC,yD,yE,yF,yG,yH,yI,yJ,yK,yL,yM,yN,yO,yP,yQ,yR,yS,yT,yU,yV,yW,yX,yY,yZ,wa,wb,wc,wd,we,wg,wj,wm,wp,wq,lA9,lB9,lC9,lD9,lE9,lF9,lG9,lH9,wt,lI9,lJ9,lK9,lL9,lM9,lN9,lO9,lP9,lQ9,lR9,lS9,lT9,↓reduceIte,Nat.reduceAdd,Nat.reduceLeDiff, x_body, k_wc, k_wa, hwr]
        rw [Int.add_assoc]
      | again c bs =>
        have hwr := hwr rfl
        have hm : mx1 c = if c > 1 then c else 1 := rfl
        unfold Row.Gd at gr
        have hr1 := mx1_r ⟨gr.1, gr.2.1⟩
        have vm : ∀ s, vMul (.int (mx1 c)) (.int (workF (lkI wk) bs)) s = .ok (.int (mx1 c * workF (lkI wk) bs)) s := fun s => yJ (.inl (by omega))
        rw [workR, Row.pv]
        simp only [blkF] at hwr
        unfold fb__law_work_0
        simp -implicitDefEqProofs (disch := omega) only [za,zb,zc,zd,ze,zf,zg,zh,zi,zj,zk,zm,zn,zo,zp,zq,zt,zu,zv,zw,zx,zy,zA,zB,zC,zD,zE,zF,zG,zH,zI,zJ,zK,zL,zM,zN,zO,zP,zQ,zR,zS,zT,zU,zV,zW,zX,zY,zZ,ya,yb,yc,yd,ye,yf,yg,yh,yi,yj,yk,yl,ym,yn,yo,yp,yq,yr,yt,yu,yv,yw,yx,yy,yz,yA,yB,yC,yD,yE,yF,yG,yH,yI,yJ,yK,yL,yM,yN,yO,yP,yQ,yR,yS,yT,yU,yV,yW,yX,yY,yZ,wa,wb,wc,wd,we,wg,wj,wm,wp,wq,lA9,lB9,lC9,lD9,lE9,lF9,lG9,lH9,wt,lI9,lJ9,lK9,lL9,lM9,lN9,lO9,lP9,lQ9,lR9,lS9,lT9,↓reduceIte,Nat.reduceAdd,Nat.reduceLeDiff, x_body, k_ac, k_aw, hwr, ← hm, vm]
        rw [Int.add_assoc]) ⟨none, rfl, rfl⟩
  rw [work_fold, Int.zero_add, ← pvs_map, es] at lp
  have hf := Vm.for_tup (a := eVar 0) (g := gName 3) (body := fb__law_work_0 (Fm D m)) (xs := Row.pvs rs) (env := [some (.tup (Row.pvs rs)), some (.loc a), some (.int 0), none]) (st := st) (st' := st) rfl
  rw [lp] at hf
  unfold q__law_work_0 q__law_work_1 q__law_work_2
  simp -implicitDefEqProofs (disch := omega) only [za,zb,zc,zd,ze,zf,zg,zh,zi,zj,zk,zm,zn,zo,zp,zq,zt,zu,zv,zw,zx,zy,zA,zB,zC,zD,zE,zF,zG,zH,zI,zJ,zK,zL,zM,zN,zO,zP,zQ,zR,zS,zT,zU,zV,zW,zX,zY,zZ,ya,yb,yc,yd,ye,yf,yg,yh,yi,yj,yk,yl,ym,yn,yo,yp,yq,yr,yt,yu,yv,yw,yx,yy,yz,yA,yB,yC,yD,yE,yF,yG,yH,yI,yJ,yK,yL,yM,yN,yO,yP,yQ,yR,yS,yT,yU,yV,yW,yX,yY,yZ,wa,wb,wc,wd,we,wg,wj,wm,wp,wq,lA9,lB9,lC9,lD9,lE9,lF9,lG9,lH9,wt,lI9,lJ9,lK9,lL9,lM9,lN9,lO9,lP9,lQ9,lR9,lS9,lT9,↓reduceIte,Nat.reduceAdd,Nat.reduceLeDiff, hf]
mutual
theorem F_workR {wk : List (Str × Int)} {a : Nat} {st : VSt} (hd : deref st (.loc a) = dE PV.int wk) : ∀ r : Row, r.Gd → r.Cl (fun f _ => hasE wk f = true) → hasB r = true → ∀ n : Nat, r.lvl ≤ n → Fm D n i__law_work [.tup (Row.pvs (blkF r)), .loc a] st = .ok (.int (workF (lkI wk) (blkF r))) st
  | .when t rs, g, hc, _, n, h => by
    rw [lvl_when] at h
    unfold Row.Cl at hc
    obtain ⟨m, rfl⟩ := ge_add (k := 1) (n := n) (by omega)
    exact work_run hd (gd_when g) hc fun r hr hb => F_workRs hd rs (gd_when g) hc r hr hb m (by have := lvl_mem (show r ∈ rs from hr); omega)
  | .again t rs, g, hc, _, n, h => by
    rw [lvl_again] at h
    unfold Row.Cl at hc
    obtain ⟨m, rfl⟩ := ge_add (k := 1) (n := n) (by omega)
    exact work_run hd (gd_again g) hc fun r hr hb => F_workRs hd rs (gd_again g) hc r hr hb m (by have := lvl_mem (show r ∈ rs from hr); omega)
  | .set _ _, _, _, h, _, _ => by cases h
  | .tell _, _, _, h, _, _ => by cases h
  | .call _ _ _, _, _, h, _, _ => by cases h
theorem F_workRs {wk : List (Str × Int)} {a : Nat} {st : VSt} (hd : deref st (.loc a) = dE PV.int wk) : ∀ rs : List Row, Row.Gds rs → Row.Cls (fun f _ => hasE wk f = true) rs → ∀ r ∈ rs, hasB r = true → ∀ n : Nat, r.lvl ≤ n → Fm D n i__law_work [.tup (Row.pvs (blkF r)), .loc a] st = .ok (.int (workF (lkI wk) (blkF r))) st
  | [], _, _, r, h => by cases h
  | s :: rs, g, hc, r, h => by
    rw [gds_cons] at g
    rw [cls_cons] at hc
    rcases List.mem_cons.mp h with e | h
    · rw [e]; exact F_workR hd s g.1 hc.1
    · exact F_workRs hd rs g.2 hc.2 r h
end
theorem F_work {wk : List (Str × Int)} {a : Nat} {st : VSt} (hd : deref st (.loc a) = dE PV.int wk) {rs : List Row} (g : Row.Gds rs) (hc : Row.Cls (fun f _ => hasE wk f = true) rs) {n : Nat} (h : Row.lvls rs + 1 ≤ n) : Fm D n i__law_work [.tup (Row.pvs rs), .loc a] st = .ok (.int (workF (lkI wk) rs)) st := by
  obtain ⟨m, rfl⟩ := ge_add (k := 1) (n := n) (by omega)
  exact work_run hd g hc fun r hr hb => F_workRs hd rs g hc r hr hb m (by have := lvl_mem hr; omega)
/-- the function, bounded -/
def cut2 (f : Fnc) : Fnc := ⟨f.name, f.pars, f.rows.take 2, f.res⟩
def bnd1 (ws : List Str) (hs : List Fnc) (x : Str) (c : Int) (wk : List (Str × Int)) : Fnc := if workF (lkI wk) (functionF ws hs x c).rows > 500 then functionF ws [] x c else functionF ws hs x c
def bndF (ws : List Str) (hs : List Fnc) (x : Str) (c : Int) (wk : List (Str × Int)) : Fnc := if workF (lkI wk) (bnd1 ws hs x c wk).rows > 500 then cut2 (bnd1 ws hs x c wk) else bnd1 ws hs x c wk
theorem take_gds {rs : List Row} (g : Row.Gds rs) (n : Nat) : Row.Gds (rs.take n) := gds_all fun r hr => gd_mem g (List.mem_of_mem_take hr)
theorem take_lvls {rs : List Row} (n : Nat) : Row.lvls (rs.take n) ≤ Row.lvls rs := lvls_le fun r hr => lvl_mem (List.mem_of_mem_take hr)
theorem take_szs (rs : List Row) (n : Nat) : Row.szs (rs.take n) ≤ Row.szs rs := by
  have := szs_app (rs.take n) (rs.drop n)
  rw [List.take_append_drop] at this
  omega
theorem bnd1_is (ws : List Str) (hs : List Fnc) (x : Str) (c : Int) (wk : List (Str × Int)) : bnd1 ws hs x c wk = functionF ws [] x c ∨ bnd1 ws hs x c wk = functionF ws hs x c := by
  unfold bnd1
  split
  · exact .inl rfl
  · exact .inr rfl
theorem bnd_gd {ws : List Str} (hw : 0 < ws.length) (ho : ∀ x ∈ ws, OkT x) {hs : List Fnc} (g : ∀ h ∈ hs, h.Gd) (x : Str) (hx : OkT x) (c : Int) (wk : List (Str × Int)) : (bndF ws hs x c wk).Gd ∧ Row.lvls (bndF ws hs x c wk).rows ≤ 2 ∧ (bndF ws hs x c wk).name = x := by
  have lv : ∀ hs : List Fnc, (∀ h ∈ hs, h.Gd) → Row.lvls (functionF ws hs x c).rows ≤ 2 := fun hs g => by
    have r1 := gd_rows hw ho (hs := []) 1 (fun h z => by cases z) (mixedF c 5) (manyF c)
    have r2 := gd_rows hw ho 2 g (mixedF c 5) (manyF c)
    show Row.lvls (if manyF c > 6 then _ else _) ≤ 2
    split
    · exact Nat.le_trans r1.2 (by omega)
    · exact r2.2
  have k1 : (bnd1 ws hs x c wk).Gd ∧ Row.lvls (bnd1 ws hs x c wk).rows ≤ 2 ∧ (bnd1 ws hs x c wk).name = x := by
    rcases bnd1_is ws hs x c wk with e | e
    · rw [e]; exact ⟨gd_function hw ho (fun h z => by cases z) x hx c, lv [] fun h z => (by cases z), rfl⟩
    · rw [e]; exact ⟨gd_function hw ho g x hx c, lv hs g, rfl⟩
  unfold bndF
  split
  · obtain ⟨g1, l1, n1⟩ := k1
    have l2 := take_lvls (rs := (bnd1 ws hs x c wk).rows) 2
    refine ⟨⟨g1.nm, g1.ps, g1.pl, take_gds g1.rs 2, ?_, g1.rt⟩, ?_, n1⟩
    · exact Nat.le_trans l2 g1.lv
    · exact Nat.le_trans l2 l1
  · exact k1
theorem bnd_dr {ws : List Str} (hw : 0 < ws.length) {hs : List Fnc} (g : ∀ h ∈ hs, h.Hd ws) (x : Str) (c : Int) (wk : List (Str × Int)) : (bndF ws hs x c wk).Dr ws := by
  have k1 : (bnd1 ws hs x c wk).Dr ws := by
    rcases bnd1_is ws hs x c wk with e | e
    · rw [e]; exact function_dr hw (fun h z => by cases z) x c
    · rw [e]; exact function_dr hw g x c
  unfold bndF
  split
  · exact ⟨⟨k1.hd.pi, k1.hd.pl⟩, ins_all fun r hr => in_mem k1.ri (List.mem_of_mem_take hr), Nat.le_trans (take_szs _ 2) k1.rs, k1.ti, k1.tz⟩
  · exact k1
theorem bnd_cl (ws : List Str) (hs : List Fnc) (x : Str) (c : Int) (wk : List (Str × Int)) : Row.Cls (CalF hs) (bnd1 ws hs x c wk).rows ∧ Row.Cls (CalF hs) (bndF ws hs x c wk).rows := by
  have k1 : Row.Cls (CalF hs) (bnd1 ws hs x c wk).rows := by
    rcases bnd1_is ws hs x c wk with e | e
    · rw [e]; exact Row.Cls.mono (CalF.mono fun x hx => by cases hx) _ (function_cl ws [] x c)
    · rw [e]; exact function_cl ws hs x c
  refine ⟨k1, ?_⟩
  unfold bndF
  split
  · exact cls_all fun r hr => cl_mem k1 (List.mem_of_mem_take hr)
  · exact k1
theorem cut_to2 {a b c d : PV} {s : VSt} : vSl (.tup [a, b, c, d]) none (some 2) s = .ok (.tup [a, b]) s := by
  rw [v_slt]; exact congrArg (fun l => Res.ok (PV.tup l) s) rfl
theorem cut_fr3 {a b c d : PV} {s : VSt} : vSl (.tup [a, b, c, d]) (some 3) none s = .ok (.tup [d]) s := by
  rw [v_slt]; exact congrArg (fun l => Res.ok (PV.tup l) s) rfl
theorem cut_r2 {rs : List Row} {s : VSt} : vSl (.tup (Row.pvs rs)) none (some 2) s = .ok (.tup (Row.pvs (rs.take 2))) s := by
  rw [v_slt, pvs_map, pvs_map]
  unfold cutP
  rw [show (2 : Int) = ((2 : Nat) : Int) from rfl, HT.sIx_none, HT.sIx_nat, List.drop_zero, Nat.sub_zero, List.map_take]
  congr 2
  rw [List.take_eq_take_iff]
  omega
theorem v_f3 {f : Fnc} {st : VSt} : vIx f.pv (.int 3) st = .ok f.res.pv st := yA
theorem F_bounded {ws : List Str} {hs : List Fnc} (hw : 0 < ws.length) (ho : ∀ x ∈ ws, OkT x) (g : ∀ h ∈ hs, h.Gd) {wk : List (Str × Int)} (hk : ∀ h ∈ hs, hasE wk h.name = true) (hl : wk.length < 1000) {x : Str} (hx : OkT x) (c : Int) {a : Nat} {st : VSt} (hd : deref st (.loc a) = dE PV.int wk) {n : Nat} (h : 20 ≤ n) :
    Fm D n i__law_bounded [.int c, .str x, .lst (ws.map PV.str), .lst (hs.map Fnc.pv), .loc a] st = .ok (bndF ws hs x c wk).pv (st.set a (dE PV.int (putE wk x (workF (lkI wk) (bndF ws hs x c wk).rows)))) := by
  obtain ⟨m, rfl⟩ := ge_add (k := 14) (n := n) (by omega)
  rw [c__law_bounded, b__law_bounded_q]
  have f1 : ∀ s, Fm D (m + 13) i__law_function [.int c, .str x, .lst (ws.map PV.str), .lst (hs.map Fnc.pv)] s = .ok (functionF ws hs x c).pv s := fun s => by
    have := F_function hw (hsOk_of g) (m - 1) c x s
    rwa [show m - 1 + 14 = m + 13 by omega] at this
  have f2 : ∀ s, Fm D (m + 13) i__law_function [.int c, .str x, .lst (ws.map PV.str), .lst []] s = .ok (functionF ws [] x c).pv s := fun s => by
    have := F_function (hs := []) hw HsOk.nil (m - 1) c x s
    rwa [show m - 1 + 14 = m + 13 by omega] at this
  have lk : ∀ h k, CalF hs h k → hasE wk h = true := fun h k ⟨f, hf, e, _⟩ => e ▸ hk f hf
  have gA : (bnd1 ws hs x c wk).Gd := by
    rcases bnd1_is ws hs x c wk with e | e
    · rw [e]; exact gd_function hw ho (fun h z => by cases z) x hx c
    · rw [e]; exact gd_function hw ho g x hx c
  have gB := bnd_gd hw ho g x hx c wk
  obtain ⟨cA, cB⟩ := bnd_cl ws hs x c wk
  have g0 := gd_function hw ho g x hx c
  have w0 := F_work hd g0.rs (Row.Cls.mono lk _ (function_cl ws hs x c)) (n := m + 13) (by have := g0.lv; omega)
  have w1 := F_work hd gA.rs (Row.Cls.mono lk _ cA) (n := m + 13) (by have := gA.lv; omega)
  have w2 := F_work hd gB.1.rs (Row.Cls.mono lk _ cB) (n := m + 13) (by have := gB.2.1; omega)
  have q01 : (q__law_bounded_0 (Fm D (m + 13)) [some (.int c), some (.str x), some (.lst (ws.map PV.str)), some (.lst (hs.map Fnc.pv)), some (.loc a), none] st).bind (q__law_bounded_1 (Fm D (m + 13))) = .nx [some (.int c), some (.str x), some (.lst (ws.map PV.str)), some (.lst (hs.map Fnc.pv)), some (.loc a), some (bnd1 ws hs x c wk).pv] st := by
    unfold q__law_bounded_0 q__law_bounded_1 bnd1
    by_cases hq : workF (lkI wk) (functionF ws hs x c).rows > 500
    · have hqd : decide (500 < workF (lkI wk) (functionF ws hs x c).rows) = true := decide_eq_true hq
      rw [if_pos hq]
      simp -implicitDefEqProofs (disch := omega) only [za,zb,zc,zd,ze,zf,zg,zh,zi,zj,zk,zm,zn,zo,zp,zq,zt,zu,zv,zw,zx,zy,zA,zB,zC,zD,zE,zF,zG,zH,zI,zJ,zK,zL,zM,zN,zO,zP,zQ,zR,zS,zT,zU,zV,zW,zX,zY,zZ,ya,yb,yc,yd,ye,yf,yg,yh,yi,yj,yk,yl,ym,yn,yo,yp,yq,yr,yt,yu,yv,yw,yx,yy,yz,yA,yB,yC,yD,yE,yF,yG,yH,yI,yJ,yK,yL,yM,yN,yO,yP,yQ,yR,yS,yT,yU,yV,yW,yX,yY,yZ,wa,wb,wc,wd,we,wg,wj,wm,wp,wq,lA9,lB9,lC9,lD9,lE9,lF9,lG9,lH9,wt,lI9,lJ9,lK9,lL9,lM9,lN9,lO9,lP9,lQ9,lR9,lS9,lT9,↓reduceIte,Nat.reduceAdd,Nat.reduceLeDiff, f1, f2, v_f2, w0, hqd]
    · have hqd : decide (500 < workF (lkI wk) (functionF ws hs x c).rows) = false := decide_eq_false hq
      rw [if_neg hq]
      simp -implicitDefEqProofs (disch := omega) only [za,zb,zc,zd,ze,zf,zg,zh,zi,zj,zk,zm,zn,zo,zp,zq,zt,zu,zv,zw,zx,zy,zA,zB,zC,zD,zE,zF,zG,zH,zI,zJ,zK,zL,zM,zN,zO,zP,zQ,zR,zS,zT,zU,zV,zW,zX,zY,zZ,ya,yb,yc,yd,ye,yf,yg,yh,yi,yj,yk,yl,ym,yn,yo,yp,yq,yr,yt,yu,yv,yw,yx,yy,yz,yA,yB,yC,yD,yE,yF,yG,yH,yI,yJ,yK,yL,yM,yN,yO,yP,yQ,yR,yS,yT,yU,yV,yW,yX,yY,yZ,wa,wb,wc,wd,we,wg,wj,wm,wp,wq,lA9,lB9,lC9,lD9,lE9,lF9,lG9,lH9,wt,lI9,lJ9,lK9,lL9,lM9,lN9,lO9,lP9,lQ9,lR9,lS9,lT9,↓reduceIte,Nat.reduceAdd,Nat.reduceLeDiff, f1, v_f2, w0, hqd]
  have q2 : q__law_bounded_2 (Fm D (m + 13)) [some (.int c), some (.str x), some (.lst (ws.map PV.str)), some (.lst (hs.map Fnc.pv)), some (.loc a), some (bnd1 ws hs x c wk).pv] st = .nx [some (.int c), some (.str x), some (.lst (ws.map PV.str)), some (.lst (hs.map Fnc.pv)), some (.loc a), some (bndF ws hs x c wk).pv] st := by
    unfold q__law_bounded_2 bndF
    generalize bnd1 ws hs x c wk = f at w1 ⊢
    by_cases hq : workF (lkI wk) f.rows > 500
    · have hqd : decide (500 < workF (lkI wk) f.rows) = true := decide_eq_true hq
      rw [if_pos hq]
      have c1 : ∀ s, vSl f.pv none (some 2) s = .ok (.tup [.str f.name, .tup (f.pars.map PV.str)]) s := fun s => cut_to2
      have c2 : ∀ s, vSl f.pv (some 3) none s = .ok (.tup [f.res.pv]) s := fun s => cut_fr3
      have c3 : (cut2 f).pv = .tup [.str f.name, .tup (f.pars.map PV.str), .tup (Row.pvs (f.rows.take 2)), f.res.pv] := rfl
      have c4 : ∀ (a b : List PV) s, a.length + b.length ≤ 10 → vAdd (.tup a) (.tup b) s = .ok (.tup (a ++ b)) s := fun a b s hh => v_addt (by omega)
      simp -implicitDefEqProofs (disch := (simp only [List.length_cons, List.length_nil, List.length_append]; omega)) only [za,zb,zc,zd,ze,zf,zg,zh,zi,zj,zk,zm,zn,zo,zp,zq,zt,zu,zv,zw,zx,zy,zA,zB,zC,zD,zE,zF,zG,zH,zI,zJ,zK,zL,zM,zN,zO,zP,zQ,zR,zS,zT,zU,zV,zW,zX,zY,zZ,ya,yb,yc,yd,ye,yf,yg,yh,yi,yj,yk,yl,ym,yn,yo,yp,yq,yr,yt,yu,yv,yw,yx,yy,yz,yA,yB,yC,yD,yE,yF,yG,yH,yI,yJ,yK,yL,yM,yN,yO,yP,yQ,yR,yS,yT,yU,yV,yW,yX,yY,yZ,wa,wb,wc,wd,we,wg,wj,wm,wp,wq,lA9,lB9,lC9,lD9,lE9,lF9,lG9,lH9,wt,lI9,lJ9,lK9,lL9,lM9,lN9,lO9,lP9,lQ9,lR9,lS9,lT9,↓reduceIte,Nat.reduceAdd,Nat.reduceLeDiff, v_f2, w1, hqd, c1, c2, c3, cut_r2, c4, List.cons_append, List.nil_append]
    · have hqd : decide (500 < workF (lkI wk) f.rows) = false := decide_eq_false hq
      rw [if_neg hq]
      simp -implicitDefEqProofs (disch := omega) only [za,zb,zc,zd,ze,zf,zg,zh,zi,zj,zk,zm,zn,zo,zp,zq,zt,zu,zv,zw,zx,zy,zA,zB,zC,zD,zE,zF,zG,zH,zI,zJ,zK,zL,zM,zN,zO,zP,zQ,zR,zS,zT,zU,zV,zW,zX,zY,zZ,ya,yb,yc,yd,ye,yf,yg,yh,yi,yj,yk,yl,ym,yn,yo,yp,yq,yr,yt,yu,yv,yw,yx,yy,yz,yA,yB,yC,yD,yE,yF,yG,yH,yI,yJ,yK,yL,yM,yN,yO,yP,yQ,yR,yS,yT,yU,yV,yW,yX,yY,yZ,wa,wb,wc,wd,we,wg,wj,wm,wp,wq,lA9,lB9,lC9,lD9,lE9,lF9,lG9,lH9,wt,lI9,lJ9,lK9,lL9,lM9,lN9,lO9,lP9,lQ9,lR9,lS9,lT9,↓reduceIte,Nat.reduceAdd,Nat.reduceLeDiff, v_f2, w1, hqd]
  have hput := r_put (enc := PV.int) (d := eVar 4) (k := eVar 1) (v := eApp (Fm D (m + 13) i__law_work) (aCons (eBin vIx (eVar 5) (eC (.int 2))) (aCons (eVar 4) aNil))) (env := [some (.int c), some (.str x), some (.lst (ws.map PV.str)), some (.lst (hs.map Fnc.pv)), some (.loc a), some (bndF ws hs x c wk).pv]) (st := st) (st1 := st) (st2 := st) (st3 := st) (n := a) (x := x) (a := workF (lkI wk) (bndF ws hs x c wk).rows) (l := wk)
    (by simp -implicitDefEqProofs (disch := omega) only [za,zb,zc,zd,ze,zf,zg,zh,zi,zj,zk,zm,zn,zo,zp,zq,zt,zu,zv,zw,zx,zy,zA,zB,zC,zD,zE,zF,zG,zH,zI,zJ,zK,zL,zM,zN,zO,zP,zQ,zR,zS,zT,zU,zV,zW,zX,zY,zZ,ya,yb,yc,yd,ye,yf,yg,yh,yi,yj,yk,yl,ym,yn,yo,yp,yq,yr,yt,yu,yv,yw,yx,yy,yz,yA,yB,yC,yD,yE,yF,yG,yH,yI,yJ,yK,yL,yM,yN,yO,yP,yQ,yR,yS,yT,yU,yV,yW,yX,yY,yZ,wa,wb,wc,wd,we,wg,wj,wm,wp,wq,lA9,lB9,lC9,lD9,lE9,lF9,lG9,lH9,wt,lI9,lJ9,lK9,lL9,lM9,lN9,lO9,lP9,lQ9,lR9,lS9,lT9,↓reduceIte,Nat.reduceAdd,Nat.reduceLeDiff, v_f2, w2]) rfl rfl hd (by omega) rfl
  have fz : ∀ s, freeze s st.length (bndF ws hs x c wk).pv = (bndF ws hs x c wk).pv := fun s => freeze_pure _ (Fnc.pure _)
  have tk : ∀ p, (st.set a p).take st.length = st.set a p := fun p => List.take_of_length_le (by rw [List.length_set]; exact Nat.le_refl _)
  show endI false st.length (((q__law_bounded_0 (Fm D (m + 13)) [some (.int c), some (.str x), some (.lst (ws.map PV.str)), some (.lst (hs.map Fnc.pv)), some (.loc a), none] st).bind (sCons (q__law_bounded_1 (Fm D (m + 13))) _))) = _
  rw [Vm.sb_ass, q01, zm, zO, q2, zm, zO]
  unfold q__law_bounded_3 q__law_bounded_4
  rw [hput]
  have ol : wt st.length (bndF ws hs x c wk).pv = false := rfl
  simp -implicitDefEqProofs (disch := omega) only [za,zb,zc,zd,ze,zf,zg,zh,zi,zj,zk,zm,zn,zo,zp,zq,zt,zu,zv,zw,zx,zy,zA,zB,zC,zD,zE,zF,zG,zH,zI,zJ,zK,zL,zM,zN,zO,zP,zQ,zR,zS,zT,zU,zV,zW,zX,zY,zZ,ya,yb,yc,yd,ye,yf,yg,yh,yi,yj,yk,yl,ym,yn,yo,yp,yq,yr,yt,yu,yv,yw,yx,yy,yz,yA,yB,yC,yD,yE,yF,yG,yH,yI,yJ,yK,yL,yM,yN,yO,yP,yQ,yR,yS,yT,yU,yV,yW,yX,yY,yZ,wa,wb,wc,wd,we,wg,wj,wm,wp,wq,lA9,lB9,lC9,lD9,lE9,lF9,lG9,lH9,wt,lI9,lJ9,lK9,lL9,lM9,lN9,lO9,lP9,lQ9,lR9,lS9,lT9,↓reduceIte,Nat.reduceAdd,Nat.reduceLeDiff, fz, tk, ol]
end Lk
namespace Lk
open PySem L2 Vm
def f0B (ns : List Int) (k : Nat) (fs : List Fnc) (wk : List (Str × Int)) : Fnc := bndF (wsF ns) (fs.take 3) ((nmF ns).getD k "") (cellF ns (7 + k)) wk
def w0B (ns : List Int) (k : Nat) (fs : List Fnc) (wk : List (Str × Int)) : List (Str × Int) := putE wk ((nmF ns).getD k "") (workF (lkI wk) (f0B ns k fs wk).rows)
def emptyB (ns : List Int) (k : Nat) : Prop := k = 0 ∧ cellF ns 6 / 4096 % 8 = 1
instance (ns : List Int) (k : Nat) : Decidable (emptyB ns k) := by unfold emptyB; exact inferInstance
def stepB (ns : List Int) (k : Nat) (fs : List Fnc) (wk : List (Str × Int)) : Fnc := if emptyB ns k then ⟨(nmF ns).getD 0 "", [], [], (f0B ns k fs wk).res⟩ else f0B ns k fs wk
def wkB (ns : List Int) (k : Nat) (fs : List Fnc) (wk : List (Str × Int)) : List (Str × Int) := if emptyB ns k then putE (w0B ns k fs wk) ((nmF ns).getD 0 "") 0 else w0B ns k fs wk
def progB (ns : List Int) : Nat → Nat → List Fnc → List (Str × Int) → List Fnc
  | 0, _, fs, _ => fs
  | m + 1, k, fs, wk => progB ns m (k + 1) (fs ++ [stepB ns k fs wk]) (wkB ns k fs wk)
/-- what stands behind k functions -/
structure StB (ns : List Int) (k : Nat) (fs : List Fnc) (wk : List (Str × Int)) : Prop where
  gd : ∀ f ∈ fs, f.Gd ∧ Row.lvls f.rows ≤ 2
  dr : ∀ f ∈ fs, f.Dr (wsF ns)
  wf : WfP fs
  nm : fs.map Fnc.name = (List.range k).map (fun j => (nmF ns).getD j "")
  hk : ∀ f ∈ fs, hasE wk f.name = true
  wl : wk.length ≤ 2 * k
theorem hasE_put {α : Type} {l : List (Str × α)} {x y : Str} {a : α} : hasE (putE l x a) y = true ↔ y = x ∨ hasE l y = true := by
  unfold hasE
  rw [lk_put]
  by_cases h : y = x
  · rw [if_pos h]; simp [h]
  · rw [if_neg h]; simp [h]
theorem StB.len {ns : List Int} {k : Nat} {fs : List Fnc} {wk : List (Str × Int)} (h : StB ns k fs wk) : fs.length = k := by
  have := congrArg List.length h.nm
  simpa using this
theorem StB.step {ns : List Int} {k : Nat} {fs : List Fnc} {wk : List (Str × Int)} (h : StB ns k fs wk) : StB ns (k + 1) (fs ++ [stepB ns k fs wk]) (wkB ns k fs wk) := by
  have g3 : ∀ f ∈ fs.take 3, f.Gd := fun f hf => (h.gd f (List.mem_of_mem_take hf)).1
  have hx := getD_ok (nm_ok ns).2 ok_nil k
  have b1 := bnd_gd (ws_ok ns).1 (ws_ok ns).2 g3 ((nmF ns).getD k "") hx (cellF ns (7 + k)) wk
  have b2 := bnd_dr (hs := fs.take 3) (ws_ok ns).1 (fun f hf => (h.dr f (List.mem_of_mem_take hf)).hd) ((nmF ns).getD k "") (cellF ns (7 + k)) wk
  have b3 := (bnd_cl (wsF ns) (fs.take 3) ((nmF ns).getD k "") (cellF ns (7 + k)) wk).2
  have key : (stepB ns k fs wk).Gd ∧ Row.lvls (stepB ns k fs wk).rows ≤ 2 ∧ (stepB ns k fs wk).name = (nmF ns).getD k "" ∧ (stepB ns k fs wk).Dr (wsF ns) ∧ Row.Cls (CalF fs) (stepB ns k fs wk).rows := by
    unfold stepB
    split
    · rename_i e
      exact ⟨⟨getD_ok (nm_ok ns).2 ok_nil 0, fun x h => (by cases h), Nat.zero_le _, by unfold Row.Gds; trivial, by unfold Row.lvls; exact Nat.zero_le _, b1.1.rt⟩, by unfold Row.lvls; exact Nat.zero_le _, by rw [e.1], ⟨⟨(fun x h => by cases h), Nat.zero_le _⟩, ins_nil, by rw [szs_nil]; omega, b2.ti, b2.tz⟩, cls_nil⟩
    · exact ⟨b1.1, b1.2.1, b1.2.2, b2, Row.Cls.mono (CalF.mono fun x hx => List.mem_of_mem_take hx) _ b3⟩
  have kw : hasE (w0B ns k fs wk) ((nmF ns).getD k "") = true ∧ (∀ f ∈ fs, hasE (w0B ns k fs wk) f.name = true) ∧ (w0B ns k fs wk).length ≤ wk.length + 1 := by
    unfold w0B
    exact ⟨hasE_put.mpr (.inl rfl), fun f hf => hasE_put.mpr (.inr (h.hk f hf)), put_lenE _ _ _⟩
  have kw2 : hasE (wkB ns k fs wk) ((nmF ns).getD k "") = true ∧ (∀ f ∈ fs, hasE (wkB ns k fs wk) f.name = true) ∧ (wkB ns k fs wk).length ≤ wk.length + 2 := by
    unfold wkB
    split
    · exact ⟨hasE_put.mpr (.inr kw.1), fun f hf => hasE_put.mpr (.inr (kw.2.1 f hf)), by have := put_lenE (w0B ns k fs wk) ((nmF ns).getD 0 "") 0; have := kw.2.2; omega⟩
    · exact ⟨kw.1, kw.2.1, by have := kw.2.2; omega⟩
  refine ⟨fun f hf => ?_, fun f hf => ?_, h.wf.snoc key.2.2.2.2, ?_, fun f hf => ?_, by have := kw2.2.2; have := h.wl; omega⟩
  · rcases List.mem_append.mp hf with z | z
    · exact h.gd f z
    · obtain rfl : f = stepB ns k fs wk := by simpa using z
      exact ⟨key.1, key.2.1⟩
  · rcases List.mem_append.mp hf with z | z
    · exact h.dr f z
    · obtain rfl : f = stepB ns k fs wk := by simpa using z
      exact key.2.2.2.1
  · rw [List.map_append, h.nm, List.range_succ, List.map_append]
    show _ ++ [(stepB ns k fs wk).name] = _ ++ [(nmF ns).getD k ""]
    rw [key.2.2.1]
  · rcases List.mem_append.mp hf with z | z
    · exact kw2.2.1 f z
    · obtain rfl : f = stepB ns k fs wk := by simpa using z
      rw [key.2.2.1]
      exact kw2.1
theorem StB.nil (ns : List Int) : StB ns 0 [] [] := ⟨fun f h => (by cases h), fun f h => (by cases h), WfP.nil, rfl, fun f h => (by cases h), Nat.zero_le _⟩
theorem progB_st (ns : List Int) : ∀ (m k : Nat) (fs : List Fnc) (wk : List (Str × Int)), StB ns k fs wk → ∃ wk', StB ns (k + m) (progB ns m k fs wk) wk'
  | 0, k, fs, wk, h => ⟨wk, h⟩
  | m + 1, k, fs, wk, h => by
    obtain ⟨wk', h'⟩ := progB_st ns m (k + 1) _ _ h.step
    exact ⟨wk', by rw [show k + (m + 1) = k + 1 + m by omega]; exact h'⟩
abbrev fr9 (ns : List Int) (p w c k f : Option PV) : VEnv := [some (.scr ns), some (.int 4), some (.lst ((wsF ns).map PV.str)), some (.lst ((nmF ns).map PV.str)), p, w, c, k, f]
theorem progB_one (n : Nat) (ns : List Int) (k : Nat) (hk : k < 8) (fs : List Fnc) (wk : List (Str × Int)) (h : StB ns k fs wk) (c y z : Option PV) (st : VSt) :
    ∃ z', bodyP (gName 7) (fb__law_program_0 (Fm D (n + 22))) (.int (0 + (k : Int))) (fr9 ns (some (.tup (fs.map Fnc.pv))) (some (.loc st.length)) c y z) (st ++ [dE PV.int wk]) = .nx (fr9 ns (some (.tup ((fs ++ [stepB ns k fs wk]).map Fnc.pv))) (some (.loc st.length)) c (some (.int (0 + (k : Int)))) z') (st ++ [dE PV.int (wkB ns k fs wk)]) := by
  have hlen := h.len
  generalize hi : (0 + (k : Int)) = i
  have g3 : ∀ f ∈ fs.take 3, f.Gd := fun f hf => (h.gd f (List.mem_of_mem_take hf)).1
  have c4 : ∀ s, Fm D (n + 22) i__law_cell [.scr ns, .int 6] s = .ok (.int (cellF ns 6)) s := fun s => F_cell (n + 21) ns 6 s
  have ck : ∀ s, Fm D (n + 22) i__law_cell [.scr ns, .int (7 + i)] s = .ok (.int (cellF ns (7 + k))) s := fun s => by
    have := F_cell (n + 21) ns (7 + k) s
    rwa [show ((7 + k : Nat) : Int) = 7 + i by omega] at this
  have nl := (nm_ok ns).1
  have vn : ∀ s, vIx (.lst ((nmF ns).map PV.str)) (.int i) s = .ok (.str ((nmF ns).getD k "")) s := fun s => by
    have := v_word (ws := nmF ns) (i := i) (st := s) (by omega) (by omega)
    rwa [show i.toNat = k by omega] at this
  have vn0 : ∀ s, vIx (.lst ((nmF ns).map PV.str)) (.int 0) s = .ok (.str ((nmF ns).getD 0 "")) s := fun s => v_word (ws := nmF ns) (i := 0) (st := s) (by omega) (by omega)
  have hx := getD_ok (nm_ok ns).2 ok_nil k
  have ff := F_bounded (ws_ok ns).1 (ws_ok ns).2 g3 (wk := wk) (fun f hf => h.hk f (List.mem_of_mem_take hf)) (by have := h.wl; omega) hx (cellF ns (7 + k)) (a := st.length) (st := st ++ [dE PV.int wk]) deref_end (n := n + 22) (by omega)
  rw [set_end] at ff
  have ff : Fm D (n + 22) i__law_bounded [.int (cellF ns (7 + k)), .str ((nmF ns).getD k ""), .lst ((wsF ns).map PV.str), .lst ((fs.take 3).map Fnc.pv), .loc st.length] (st ++ [dE PV.int wk]) = .ok (f0B ns k fs wk).pv (st ++ [dE PV.int (w0B ns k fs wk)]) := ff
  have va : ∀ (f : Fnc) (s : VSt), vAdd (.tup (fs.map Fnc.pv)) (.tup [f.pv]) s = .ok (.tup ((fs ++ [f]).map Fnc.pv)) s := fun f s => by
    rw [v_addt (by rw [List.length_map]; show fs.length + 1 ≤ _; omega), List.map_append]; rfl
  have wl0 : (w0B ns k fs wk).length < 1000000 := by unfold w0B; have := put_lenE wk ((nmF ns).getD k "") (workF (lkI wk) (f0B ns k fs wk).rows); have := h.wl; omega
  unfold fb__law_program_0 stepB wkB
  generalize f0B ns k fs wk = f0 at ff ⊢
  generalize w0B ns k fs wk = w0 at ff wl0 ⊢
  generalize cellF ns (7 + k) = x at ck ff
  by_cases k0 : k = 0
  · have i0 : decide (i = 0) = true := decide_eq_true (by omega)
    by_cases k1 : cellF ns 6 / 4096 % 8 = 1
    · have k1' : decide (cellF ns 6 / 4096 % 8 = 1) = true := decide_eq_true k1
      have va' : ∀ s, vAdd (.tup (fs.map Fnc.pv)) (.tup [.tup [.str ((nmF ns).getD 0 ""), .tup [], .tup [], f0.res.pv]]) s = .ok (.tup ((fs ++ [(⟨(nmF ns).getD 0 "", [], [], f0.res⟩ : Fnc)]).map Fnc.pv)) s := fun s => by
        have := va ⟨(nmF ns).getD 0 "", [], [], f0.res⟩ s
        rw [show (⟨(nmF ns).getD 0 "", [], [], f0.res⟩ : Fnc).pv = .tup [.str ((nmF ns).getD 0 ""), .tup [], .tup [], f0.res.pv] from by unfold Fnc.pv; rw [pvs_map]; rfl] at this
        exact this
      have pt := r_put (enc := PV.int) (d := eVar 5) (k := eBin vIx (eVar 3) (eC (.int 0))) (v := eC (.int 0)) (env := fr9 ns (some (.tup (fs.map Fnc.pv))) (some (.loc st.length)) c (some (.int i)) (some (.tup [.str ((nmF ns).getD 0 ""), .tup [], .tup [], f0.res.pv]))) (st := st ++ [dE PV.int w0]) (st1 := st ++ [dE PV.int w0]) (st2 := st ++ [dE PV.int w0]) (st3 := st ++ [dE PV.int w0]) (n := st.length) (x := (nmF ns).getD 0 "") (a := 0) (l := w0) rfl rfl
        (by simp -implicitDefEqProofs (disch := omega) only [za,zb,zc,zd,ze,zf,zg,zh,zi,zj,zk,zm,zn,zo,zp,zq,zt,zu,zv,zw,zx,zy,zA,zB,zC,zD,zE,zF,zG,zH,zI,zJ,zK,zL,zM,zN,zO,zP,zQ,zR,zS,zT,zU,zV,zW,zX,zY,zZ,ya,yb,yc,yd,ye,yf,yg,yh,yi,yj,yk,yl,ym,yn,yo,yp,yq,yr,yt,yu,yv,yw,yx,yy,yz,yA,yB,yC,yD,yE,yF,yG,yH,yI,yJ,yK,yL,yM,yN,yO,yP,yQ,yR,yS,yT,yU,yV,yW,yX,yY,yZ,wa,wb,wc,wd,we,wg,wj,wm,wp,wq,lA9,lB9,lC9,lD9,lE9,lF9,lG9,lH9,wt,lI9,lJ9,lK9,lL9,lM9,lN9,lO9,lP9,lQ9,lR9,lS9,lT9,↓reduceIte,Nat.reduceAdd,Nat.reduceLeDiff, vn0]) deref_end wl0 rfl
      rw [set_end] at pt
      rw [if_pos ⟨k0, k1⟩, if_pos ⟨k0, k1⟩]
      refine ⟨some (.tup [.str ((nmF ns).getD 0 ""), .tup [], .tup [], f0.res.pv]), ?_⟩
      simp -implicitDefEqProofs (disch := omega) only [za,zb,zc,zd,ze,zf,zg,zh,zi,zj,zk,zm,zn,zo,zp,zq,zt,zu,zv,zw,zx,zy,zA,zB,zC,zD,zE,zF,zG,zH,zI,zJ,zK,zL,zM,zN,zO,zP,zQ,zR,zS,zT,zU,zV,zW,zX,zY,zZ,ya,yb,yc,yd,ye,yf,yg,yh,yi,yj,yk,yl,ym,yn,yo,yp,yq,yr,yt,yu,yv,yw,yx,yy,yz,yA,yB,yC,yD,yE,yF,yG,yH,yI,yJ,yK,yL,yM,yN,yO,yP,yQ,yR,yS,yT,yU,yV,yW,yX,yY,yZ,wa,wb,wc,wd,we,wg,wj,wm,wp,wq,lA9,lB9,lC9,lD9,lE9,lF9,lG9,lH9,wt,lI9,lJ9,lK9,lL9,lM9,lN9,lO9,lP9,lQ9,lR9,lS9,lT9,↓reduceIte,Nat.reduceAdd,Nat.reduceLeDiff, x_body, c4, ck, vn, vn0, ff, va', v_f3, v_three, v_listt, i0, k1, pt, Int.reduceAdd]
    · have k1' : decide (cellF ns 6 / 4096 % 8 = 1) = false := decide_eq_false k1
      rw [if_neg fun z => k1 z.2, if_neg fun z => k1 z.2]
      refine ⟨some f0.pv, ?_⟩
      simp -implicitDefEqProofs (disch := omega) only [za,zb,zc,zd,ze,zf,zg,zh,zi,zj,zk,zm,zn,zo,zp,zq,zt,zu,zv,zw,zx,zy,zA,zB,zC,zD,zE,zF,zG,zH,zI,zJ,zK,zL,zM,zN,zO,zP,zQ,zR,zS,zT,zU,zV,zW,zX,zY,zZ,ya,yb,yc,yd,ye,yf,yg,yh,yi,yj,yk,yl,ym,yn,yo,yp,yq,yr,yt,yu,yv,yw,yx,yy,yz,yA,yB,yC,yD,yE,yF,yG,yH,yI,yJ,yK,yL,yM,yN,yO,yP,yQ,yR,yS,yT,yU,yV,yW,yX,yY,yZ,wa,wb,wc,wd,we,wg,wj,wm,wp,wq,lA9,lB9,lC9,lD9,lE9,lF9,lG9,lH9,wt,lI9,lJ9,lK9,lL9,lM9,lN9,lO9,lP9,lQ9,lR9,lS9,lT9,↓reduceIte,Nat.reduceAdd,Nat.reduceLeDiff, x_body, c4, ck, vn, ff, va, v_three, v_listt, i0, k1', Int.reduceAdd]
  · have i0 : decide (i = 0) = false := decide_eq_false (by omega)
    rw [if_neg fun z => k0 z.1, if_neg fun z => k0 z.1]
    refine ⟨some f0.pv, ?_⟩
    simp -implicitDefEqProofs (disch := omega) only [za,zb,zc,zd,ze,zf,zg,zh,zi,zj,zk,zm,zn,zo,zp,zq,zt,zu,zv,zw,zx,zy,zA,zB,zC,zD,zE,zF,zG,zH,zI,zJ,zK,zL,zM,zN,zO,zP,zQ,zR,zS,zT,zU,zV,zW,zX,zY,zZ,ya,yb,yc,yd,ye,yf,yg,yh,yi,yj,yk,yl,ym,yn,yo,yp,yq,yr,yt,yu,yv,yw,yx,yy,yz,yA,yB,yC,yD,yE,yF,yG,yH,yI,yJ,yK,yL,yM,yN,yO,yP,yQ,yR,yS,yT,yU,yV,yW,yX,yY,yZ,wa,wb,wc,wd,we,wg,wj,wm,wp,wq,lA9,lB9,lC9,lD9,lE9,lF9,lG9,lH9,wt,lI9,lJ9,lK9,lL9,lM9,lN9,lO9,lP9,lQ9,lR9,lS9,lT9,↓reduceIte,Nat.reduceAdd,Nat.reduceLeDiff, x_body, ck, vn, ff, va, v_three, v_listt, i0, Int.reduceAdd]
theorem progB_loop (n : Nat) (ns : List Int) (c : Option PV) (st : VSt) : ∀ (m k : Nat) (fs : List Fnc) (wk : List (Str × Int)) (y z : Option PV), k + m ≤ 8 → StB ns k fs wk →
    ∃ y' z' wk', forL (bodyP (gName 7) (fb__law_program_0 (Fm D (n + 22)))) ((List.range' k m).map fun (j : Nat) => PV.int (0 + (j : Int))) (fr9 ns (some (.tup (fs.map Fnc.pv))) (some (.loc st.length)) c y z) (st ++ [dE PV.int wk]) = .nx (fr9 ns (some (.tup ((progB ns m k fs wk).map Fnc.pv))) (some (.loc st.length)) c y' z') (st ++ [wk'])
  | 0, k, fs, wk, y, z, _, _ => ⟨y, z, dE PV.int wk, rfl⟩
  | m + 1, k, fs, wk, y, z, hk, h => by
    obtain ⟨z1, e1⟩ := progB_one n ns k (by omega) fs wk h c y z st
    obtain ⟨y', z', wk', e2⟩ := progB_loop n ns c st m (k + 1) _ _ (some (.int (0 + (k : Int)))) z1 (by omega) h.step
    refine ⟨y', z', wk', ?_⟩
    rw [List.range'_succ, List.map_cons, forL_cons, e1]
    exact e2
def cntN (ns : List Int) : Int := if cellF ns 6 / 64 % 8 = 1 then 1 + (cellF ns 6 + 2) % 4 + 4 else 1 + (cellF ns 6 + 2) % 4
theorem cntN_r (ns : List Int) : 1 ≤ cntN ns ∧ cntN ns ≤ 8 := by
  unfold cntN
  split <;> omega
def builtF (ns : List Int) : List Fnc := progB ns (cntN ns).toNat 0 [] []
theorem built_st (ns : List Int) : ∃ wk, StB ns (cntN ns).toNat (builtF ns) wk := by
  have := progB_st ns (cntN ns).toNat 0 [] [] (StB.nil ns)
  rwa [Nat.zero_add] at this
theorem prog_ne (ns : List Int) : builtF ns ≠ [] := fun z => by
  obtain ⟨wk, h⟩ := built_st ns
  have := h.len
  obtain ⟨r1, r2⟩ := cntN_r ns
  rw [z] at this
  have : 0 = (cntN ns).toNat := this
  omega
/-- the drawn functions ahead of the last one, the last one, the program -/
def headsF (ns : List Int) : List Fnc := (builtF ns).dropLast
def lastF (ns : List Int) : Fnc := (builtF ns).getLast (prog_ne ns)
def progF (ns : List Int) : List Fnc := loopF (headsF ns) (lastF ns) (cellF ns 6 / 4)
theorem heads_last (ns : List Int) : headsF ns ++ [lastF ns] = builtF ns := List.dropLast_concat_getLast (prog_ne ns)
theorem heads_gd (ns : List Int) : ∀ h ∈ headsF ns ++ [lastF ns], h.Gd ∧ Row.lvls h.rows ≤ 2 := by
  rw [heads_last]
  obtain ⟨wk, h⟩ := built_st ns
  exact h.gd
theorem heads_dr (ns : List Int) : ∀ h ∈ headsF ns ++ [lastF ns], h.Dr (wsF ns) := by
  rw [heads_last]
  obtain ⟨wk, h⟩ := built_st ns
  exact h.dr
theorem heads_wf (ns : List Int) : WfP (headsF ns ++ [lastF ns]) := by
  rw [heads_last]
  obtain ⟨wk, h⟩ := built_st ns
  exact h.wf
theorem heads_nm (ns : List Int) : (headsF ns ++ [lastF ns]).map Fnc.name = (List.range (cntN ns).toNat).map (fun j => (nmF ns).getD j "") := by
  rw [heads_last]
  obtain ⟨wk, h⟩ := built_st ns
  exact h.nm
theorem heads_len (ns : List Int) : (headsF ns).length ≤ 7 := by
  obtain ⟨wk, h⟩ := built_st ns
  have := h.len
  obtain ⟨r1, r2⟩ := cntN_r ns
  unfold headsF
  rw [List.length_dropLast]
  omega
theorem F_program (n : Nat) (ns : List Int) (st : VSt) : Fm D (n + 23) i__law_program [.scr ns, .int 4] st = .ok (.tup ((progF ns).map Fnc.pv)) st := by
  obtain ⟨r1, r2⟩ := cntN_r ns
  have hne := prog_ne ns
  have hsp := heads_last ns
  have hgl := heads_gd ns (lastF ns) (List.mem_append_right _ (by simp))
  have hhl := heads_len ns
  have fl : ∀ s, Fm D (n + 22) i__law_looped [.tup ((builtF ns).map Fnc.pv), .int (cellF ns 6 / 4)] s = .ok (.tup ((progF ns).map Fnc.pv)) s := fun s => by
    rw [← hsp]
    exact F_looped (n + 21) (headsF ns) (lastF ns) hgl.1 (by omega) (cellF ns 6 / 4) s
  obtain ⟨y, z, wk', lp⟩ := progB_loop n ns (some (.int (cntN ns))) st (cntN ns).toNat 0 [] [] none none (by omega) (StB.nil ns)
  rw [c__law_program]
  have c2 : ∀ s, Fm D (n + 22) i__law_cell [.scr ns, .int 4] s = .ok (.int (cellF ns 4)) s := fun s => F_cell (n + 21) ns 4 s
  have c3 : ∀ s, Fm D (n + 22) i__law_cell [.scr ns, .int 5] s = .ok (.int (cellF ns 5)) s := fun s => F_cell (n + 21) ns 5 s
  have c4 : ∀ s, Fm D (n + 22) i__law_cell [.scr ns, .int 6] s = .ok (.int (cellF ns 6)) s := fun s => F_cell (n + 21) ns 6 s
  have hv : ∀ s, Fm D (n + 22) i__law_variables [.scr ns, .int 4] s = .ok (.lst ((wsF ns).map PV.str)) s := fun s => F_vars (n + 20) ns s
  have q0 : q__law_program_0 (Fm D (n + 22)) [some (.scr ns), some (.int 4), none, none, none, none, none, none, none] st = .nx [some (.scr ns), some (.int 4), some (.lst ((wsF ns).map PV.str)), none, none, none, none, none, none] st := by
    unfold q__law_program_0
    simp -implicitDefEqProofs (disch := omega) only [za,zb,zc,zd,ze,zf,zg,zh,zi,zj,zk,zm,zn,zo,zp,zq,zt,zu,zv,zw,zx,zy,zA,zB,zC,zD,zE,zF,zG,zH,zI,zJ,zK,zL,zM,zN,zO,zP,zQ,zR,zS,zT,zU,zV,zW,zX,zY,zZ,ya,yb,yc,yd,ye,yf,yg,yh,yi,yj,yk,yl,ym,yn,yo,yp,yq,yr,yt,yu,yv,yw,yx,yy,yz,yA,yB,yC,yD,yE,yF,yG,yH,yI,yJ,yK,yL,yM,yN,yO,yP,yQ,yR,yS,yT,yU,yV,yW,yX,yY,yZ,wa,wb,wc,wd,we,wg,wj,wm,wp,wq,lA9,lB9,lC9,lD9,lE9,lF9,lG9,lH9,wt,lI9,lJ9,lK9,lL9,lM9,lN9,lO9,lP9,lQ9,lR9,lS9,lT9,↓reduceIte,Nat.reduceAdd,Nat.reduceLeDiff, hv]
  have q1 : q__law_program_1 (Fm D (n + 22)) [some (.scr ns), some (.int 4), some (.lst ((wsF ns).map PV.str)), none, none, none, none, none, none] st = .nx [some (.scr ns), some (.int 4), some (.lst ((wsF ns).map PV.str)), some (.lst ((nmF ns).map PV.str)), none, none, none, none, none] st := by
    unfold q__law_program_1 nmF
    by_cases k : cellF ns 5 % 8 = 3
    · have w : ∀ s, Fm D (n + 22) i__law_words [.int (cellF ns 4), .int 8] s = .ok (.lst ((wordsF (cellF ns 4) 8).map PV.str)) s := fun s => F_words (n + 21) _ 8 (by omega) s
      rw [if_pos k]
      simp -implicitDefEqProofs (disch := omega) only [za,zb,zc,zd,ze,zf,zg,zh,zi,zj,zk,zm,zn,zo,zp,zq,zt,zu,zv,zw,zx,zy,zA,zB,zC,zD,zE,zF,zG,zH,zI,zJ,zK,zL,zM,zN,zO,zP,zQ,zR,zS,zT,zU,zV,zW,zX,zY,zZ,ya,yb,yc,yd,ye,yf,yg,yh,yi,yj,yk,yl,ym,yn,yo,yp,yq,yr,yt,yu,yv,yw,yx,yy,yz,yA,yB,yC,yD,yE,yF,yG,yH,yI,yJ,yK,yL,yM,yN,yO,yP,yQ,yR,yS,yT,yU,yV,yW,yX,yY,yZ,wa,wb,wc,wd,we,wg,wj,wm,wp,wq,lA9,lB9,lC9,lD9,lE9,lF9,lG9,lH9,wt,lI9,lJ9,lK9,lL9,lM9,lN9,lO9,lP9,lQ9,lR9,lS9,lT9,↓reduceIte,Nat.reduceAdd,Nat.reduceLeDiff, c2, c3, k, w, Int.reduceAdd, Int.reduceSub]
    · have w : ∀ s, Fm D (n + 22) i__law_words [.int (cellF ns 5), .int 8] s = .ok (.lst ((wordsF (cellF ns 5) 8).map PV.str)) s := fun s => F_words (n + 21) _ 8 (by omega) s
      have k' : decide (cellF ns 5 % 8 = 3) = false := decide_eq_false k
      rw [if_neg k]
      simp -implicitDefEqProofs (disch := omega) only [za,zb,zc,zd,ze,zf,zg,zh,zi,zj,zk,zm,zn,zo,zp,zq,zt,zu,zv,zw,zx,zy,zA,zB,zC,zD,zE,zF,zG,zH,zI,zJ,zK,zL,zM,zN,zO,zP,zQ,zR,zS,zT,zU,zV,zW,zX,zY,zZ,ya,yb,yc,yd,ye,yf,yg,yh,yi,yj,yk,yl,ym,yn,yo,yp,yq,yr,yt,yu,yv,yw,yx,yy,yz,yA,yB,yC,yD,yE,yF,yG,yH,yI,yJ,yK,yL,yM,yN,yO,yP,yQ,yR,yS,yT,yU,yV,yW,yX,yY,yZ,wa,wb,wc,wd,we,wg,wj,wm,wp,wq,lA9,lB9,lC9,lD9,lE9,lF9,lG9,lH9,wt,lI9,lJ9,lK9,lL9,lM9,lN9,lO9,lP9,lQ9,lR9,lS9,lT9,↓reduceIte,Nat.reduceAdd,Nat.reduceLeDiff, c2, c3, k', w, Int.reduceAdd, Int.sub_zero]
  have b1 : boxV (.dct [] []) st = .ok (.loc st.length) (st ++ [dE PV.int []]) := box1 rfl
  have q23 : (q__law_program_2 (Fm D (n + 22)) [some (.scr ns), some (.int 4), some (.lst ((wsF ns).map PV.str)), some (.lst ((nmF ns).map PV.str)), none, none, none, none, none] st).bind (q__law_program_3 (Fm D (n + 22))) = .nx (fr9 ns (some (.tup [])) (some (.loc st.length)) none none none) (st ++ [dE PV.int []]) := by
    unfold q__law_program_2 q__law_program_3
    simp -implicitDefEqProofs (disch := omega) only [za,zb,zc,zd,ze,zf,zg,zh,zi,zj,zk,zm,zn,zo,zp,zq,zt,zu,zv,zw,zx,zy,zA,zB,zC,zD,zE,zF,zG,zH,zI,zJ,zK,zL,zM,zN,zO,zP,zQ,zR,zS,zT,zU,zV,zW,zX,zY,zZ,ya,yb,yc,yd,ye,yf,yg,yh,yi,yj,yk,yl,ym,yn,yo,yp,yq,yr,yt,yu,yv,yw,yx,yy,yz,yA,yB,yC,yD,yE,yF,yG,yH,yI,yJ,yK,yL,yM,yN,yO,yP,yQ,yR,yS,yT,yU,yV,yW,yX,yY,yZ,wa,wb,wc,wd,we,wg,wj,wm,wp,wq,lA9,lB9,lC9,lD9,lE9,lF9,lG9,lH9,wt,lI9,lJ9,lK9,lL9,lM9,lN9,lO9,lP9,lQ9,lR9,lS9,lT9,↓reduceIte,Nat.reduceAdd,Nat.reduceLeDiff, b1]
  have q45 : ∃ q, q = cntN ns ∧ (q__law_program_4 (Fm D (n + 22)) (fr9 ns (some (.tup [])) (some (.loc st.length)) none none none) (st ++ [dE PV.int []])).bind (q__law_program_5 (Fm D (n + 22))) = .nx (fr9 ns (some (.tup [])) (some (.loc st.length)) (some (.int q)) none none) (st ++ [dE PV.int []]) := by
    unfold q__law_program_4 q__law_program_5 cntN
    by_cases k : cellF ns 6 / 64 % 8 = 1
    · refine ⟨_, by rw [if_pos k], ?_⟩
      simp -implicitDefEqProofs (disch := omega) only [za,zb,zc,zd,ze,zf,zg,zh,zi,zj,zk,zm,zn,zo,zp,zq,zt,zu,zv,zw,zx,zy,zA,zB,zC,zD,zE,zF,zG,zH,zI,zJ,zK,zL,zM,zN,zO,zP,zQ,zR,zS,zT,zU,zV,zW,zX,zY,zZ,ya,yb,yc,yd,ye,yf,yg,yh,yi,yj,yk,yl,ym,yn,yo,yp,yq,yr,yt,yu,yv,yw,yx,yy,yz,yA,yB,yC,yD,yE,yF,yG,yH,yI,yJ,yK,yL,yM,yN,yO,yP,yQ,yR,yS,yT,yU,yV,yW,yX,yY,yZ,wa,wb,wc,wd,we,wg,wj,wm,wp,wq,lA9,lB9,lC9,lD9,lE9,lF9,lG9,lH9,wt,lI9,lJ9,lK9,lL9,lM9,lN9,lO9,lP9,lQ9,lR9,lS9,lT9,↓reduceIte,Nat.reduceAdd,Nat.reduceLeDiff, c4, k, Int.reduceAdd]
    · have k' : decide (cellF ns 6 / 64 % 8 = 1) = false := decide_eq_false k
      refine ⟨_, by rw [if_neg k], ?_⟩
      simp -implicitDefEqProofs (disch := omega) only [za,zb,zc,zd,ze,zf,zg,zh,zi,zj,zk,zm,zn,zo,zp,zq,zt,zu,zv,zw,zx,zy,zA,zB,zC,zD,zE,zF,zG,zH,zI,zJ,zK,zL,zM,zN,zO,zP,zQ,zR,zS,zT,zU,zV,zW,zX,zY,zZ,ya,yb,yc,yd,ye,yf,yg,yh,yi,yj,yk,yl,ym,yn,yo,yp,yq,yr,yt,yu,yv,yw,yx,yy,yz,yA,yB,yC,yD,yE,yF,yG,yH,yI,yJ,yK,yL,yM,yN,yO,yP,yQ,yR,yS,yT,yU,yV,yW,yX,yY,yZ,wa,wb,wc,wd,we,wg,wj,wm,wp,wq,lA9,lB9,lC9,lD9,lE9,lF9,lG9,lH9,wt,lI9,lJ9,lK9,lL9,lM9,lN9,lO9,lP9,lQ9,lR9,lS9,lT9,↓reduceIte,Nat.reduceAdd,Nat.reduceLeDiff, c4, k', Int.reduceAdd]
  obtain ⟨q, rfl, q45⟩ := q45
  have q6 : q__law_program_6 (Fm D (n + 22)) (fr9 ns (some (.tup [])) (some (.loc st.length)) (some (.int (cntN ns))) none none) (st ++ [dE PV.int []]) = .nx (fr9 ns (some (.tup ((builtF ns).map Fnc.pv))) (some (.loc st.length)) (some (.int (cntN ns))) y z) (st ++ [wk']) := by
    have hf := for_rng (a := eVar 6) (g := gName 7) (body := fb__law_program_0 (Fm D (n + 22))) (env := fr9 ns (some (.tup [])) (some (.loc st.length)) (some (.int (cntN ns))) none none) (st := st ++ [dE PV.int []]) (st' := st ++ [dE PV.int []]) (i := cntN ns) rfl (by omega) (by omega)
    rw [List.range_eq_range'] at hf
    exact hf.trans lp
  have q7 : q__law_program_7 (Fm D (n + 22)) (fr9 ns (some (.tup ((builtF ns).map Fnc.pv))) (some (.loc st.length)) (some (.int (cntN ns))) y z) (st ++ [wk']) = .rt (.tup ((progF ns).map Fnc.pv)) (st ++ [wk']) := by
    unfold q__law_program_7
    simp -implicitDefEqProofs (disch := omega) only [za,zb,zc,zd,ze,zf,zg,zh,zi,zj,zk,zm,zn,zo,zp,zq,zt,zu,zv,zw,zx,zy,zA,zB,zC,zD,zE,zF,zG,zH,zI,zJ,zK,zL,zM,zN,zO,zP,zQ,zR,zS,zT,zU,zV,zW,zX,zY,zZ,ya,yb,yc,yd,ye,yf,yg,yh,yi,yj,yk,yl,ym,yn,yo,yp,yq,yr,yt,yu,yv,yw,yx,yy,yz,yA,yB,yC,yD,yE,yF,yG,yH,yI,yJ,yK,yL,yM,yN,yO,yP,yQ,yR,yS,yT,yU,yV,yW,yX,yY,yZ,wa,wb,wc,wd,we,wg,wj,wm,wp,wq,lA9,lB9,lC9,lD9,lE9,lF9,lG9,lH9,wt,lI9,lJ9,lK9,lL9,lM9,lN9,lO9,lP9,lQ9,lR9,lS9,lT9,↓reduceIte,Nat.reduceAdd,Nat.reduceLeDiff, c4, fl, Int.reduceAdd]
  have fz : ∀ (s : VSt) (fs : List Fnc), freeze s st.length (.tup (fs.map Fnc.pv)) = .tup (fs.map Fnc.pv) := fun s fs => freeze_pure (.tup (fs.map Fnc.pv)) (fncs_pure fs)
  rw [b__law_program_q, zO, q0, zm, zO, q1, zm, zO]
  show endI false st.length ((q__law_program_2 (Fm D (n + 22)) [some (.scr ns), some (.int 4), some (.lst ((wsF ns).map PV.str)), some (.lst ((nmF ns).map PV.str)), none, none, none, none, none] st).bind (sCons (q__law_program_3 (Fm D (n + 22))) _)) = _
  rw [Vm.sb_ass, q23, zm, zO]
  show endI false st.length ((q__law_program_4 (Fm D (n + 22)) (fr9 ns (some (.tup [])) (some (.loc st.length)) none none none) (st ++ [dE PV.int []])).bind (sCons (q__law_program_5 (Fm D (n + 22))) _)) = _
  rw [Vm.sb_ass, q45, zm, zO, q6, zm, zO, q7, zn, we, fz, take_app]
  exact Eq.trans rfl rfl
theorem F_program' {n : Nat} (h : 23 ≤ n) (ns : List Int) (st : VSt) : Fm D n i__law_program [.scr ns, .int 4] st = .ok (.tup ((progF ns).map Fnc.pv)) st := by
  obtain ⟨m, rfl⟩ := ge_add h
  exact F_program m ns st
end Lk
namespace Lk
open PySem L2 Vm
theorem wrap_dr {ws : List Str} : ∀ (is : List Int) {rs : List Row}, Row.Ins ws rs → Row.Ins ws (wrapF rs is) ∧ Row.szs (wrapF rs is) ≤ Row.szs rs + 2 * is.length
  | [], rs, g => ⟨g, Nat.le_refl _⟩
  | i :: is, rs, g => by
    have g1 : Row.Ins ws [.when (.num (1 + i)) rs] := by
      rw [ins_cons]
      exact ⟨by unfold Row.In; exact ⟨(fun y hy => by cases hy), g⟩, ins_nil⟩
    obtain ⟨a, b⟩ := wrap_dr is g1
    rw [szs_cons, sz_when, szs_nil] at b
    exact ⟨a, by rw [List.length_cons]; have : (Trm.num (1 + i)).size = 1 := rfl; show Row.szs (wrapF [.when (.num (1 + i)) rs] is) ≤ _; omega⟩
/-- a function of the drawn program -/
structure Fnc.Pd (ws : List Str) (f : Fnc) : Prop where
  gd : f.Gd
  hd : f.Hd ws
  ri : Row.Ins ws f.rows
  rs : Row.szs f.rows ≤ 2000
  lv : Row.lvls f.rows ≤ 9
  ti : ∀ y ∈ f.res.names, y ∈ ws
  tz : f.res.size ≤ 3
theorem again_pd {ws : List Str} {f : Fnc} (g : f.Gd) (l : Row.lvls f.rows ≤ 2) (d : f.Dr ws) (c : Int) : (againF f c).Pd ws := by
  have ag := again_gd g l c
  obtain ⟨a, b⟩ := wrap_dr six d.ri
  have b' : Row.szs (wrapF f.rows six) ≤ 1912 := Nat.le_trans b (by have := d.rs; show Row.szs f.rows + 2 * 6 ≤ _; omega)
  refine ⟨ag, ⟨d.hd.pi, d.hd.pl⟩, ?_, ?_, ag.lv, d.ti, d.tz⟩
  · unfold againF
    rw [ins_cons]
    refine ⟨?_, ins_nil⟩
    unfold Row.In
    split
    · exact a
    · exact d.ri
  · unfold againF
    rw [szs_cons, szs_nil, sz_again]
    have := d.rs
    split <;> omega
theorem prog_pd (ns : List Int) : ∀ f ∈ progF ns, f.Pd (wsF ns) := fun f hf => by
  have g := heads_gd ns
  have d := heads_dr ns
  have key : ∀ h ∈ headsF ns ++ [lastF ns], h.Pd (wsF ns) := fun h hh => ⟨(g h hh).1, (d h hh).hd, (d h hh).ri, Nat.le_trans (d h hh).rs (by omega), (g h hh).1.lv, (d h hh).ti, (d h hh).tz⟩
  have gl := g (lastF ns) (List.mem_append_right _ (by simp))
  have dl := d (lastF ns) (List.mem_append_right _ (by simp))
  unfold progF loopF at hf
  split at hf
  · exact key f hf
  · rcases List.mem_append.mp hf with z | z
    · exact key f (List.mem_append_left _ z)
    · obtain rfl : f = againF (lastF ns) (cellF ns 6 / 4) := by simpa using z
      exact again_pd gl.1 gl.2 dl _
theorem prog_len (ns : List Int) : 1 ≤ (progF ns).length ∧ (progF ns).length ≤ 8 := by
  have := heads_len ns
  unfold progF loopF
  split <;> (rw [List.length_append]; show 1 ≤ _ + 1 ∧ _ + 1 ≤ 8; omega)
end Lk
namespace Lk
open PySem L2 Vm
theorem prog_wf (ns : List Int) : WfP (progF ns) := wf_loop (heads_wf ns) _
theorem prog_nm (ns : List Int) : ((progF ns).map Fnc.name).Nodup := by
  obtain ⟨r1, r2⟩ := cntN_r ns
  have e : (progF ns).map Fnc.name = (headsF ns ++ [lastF ns]).map Fnc.name := by
    unfold progF loopF
    split
    · rfl
    · rw [List.map_append, List.map_append]; rfl
  rw [e, heads_nm]
  have nl := (nm_ok ns).1
  have : (List.range (cntN ns).toNat).map (fun j => (nmF ns).getD j "") = (nmF ns).take (cntN ns).toNat := by
    apply List.ext_getElem?
    intro i
    rw [List.getElem?_map, List.getElem?_take]
    by_cases h : i < (cntN ns).toNat
    · rw [List.getElem?_range h, if_pos h]
      have hi : i < (nmF ns).length := by omega
      rw [List.getElem?_eq_getElem hi]
      show some ((nmF ns).getD i "") = _
      rw [List.getD_eq_getElem?_getD, List.getElem?_eq_getElem hi]; rfl
    · rw [if_neg h, List.getElem?_eq_none (by simp; omega)]; rfl
  rw [this]
  exact List.Nodup.sublist (List.take_sublist _ _) (nm_nodup ns)
end Lk
namespace Lk
open PySem L2 Vm
theorem blk_lvl {r s : Row} (h : s ∈ blkF r) : s.lvl + 1 ≤ r.lvl := by
  cases r with
  | when t rs => rw [lvl_when]; have := lvl_mem (show s ∈ rs from h); omega
  | again m rs => rw [lvl_again]; have := lvl_mem (show s ∈ rs from h); omega
  | _ => cases h
/-- a row of the drawn program -/
structure Row.Pd (ws : List Str) (r : Row) : Prop where
  gd : r.Gd
  ri : r.In ws
  rs : r.sz ≤ 2000
  lv : r.lvl ≤ 9
theorem Row.Pd.blk {ws : List Str} {r : Row} (p : r.Pd ws) : ∀ s ∈ blkF r, s.Pd ws := fun s hs =>
  ⟨gd_mem (blk_gd p.gd) hs, in_mem (blk_in p.ri) hs, by have h1 := sz_mem hs; have h2 := blk_sz r; have := p.rs; omega, by have h1 := blk_lvl hs; have := p.lv; omega⟩
theorem F_cell' {n : Nat} (h : 1 ≤ n) (ns : List Int) (k : Nat) (st : VSt) : Fm D n i__law_cell [.scr ns, .int (k : Int)] st = .ok (.int (cellF ns k)) st := by
  obtain ⟨m, rfl⟩ := ge_add h
  exact F_cell m ns k st
end Lk
namespace Lk
open PySem L2 Vm
mutual
def setR : Row → List Str
  | .when _ rs => srtS (oneS (setA rs))
  | .again _ rs => srtS (oneS (setA rs))
  | .set x _ => srtS (oneS [x])
  | .tell _ => srtS (oneS [])
  | .call x _ _ => srtS (oneS x.toList)
def setA : List Row → List Str
  | [] => []
  | r :: rs => setR r ++ setA rs
end
end Lk
namespace Lk
open PySem L2 Vm
theorem while_s {c : EM} {b : SM} {m : Nat} {env : VEnv} {st : VSt} : whileP c b (m + 1) env st = (c env st).s (onBS fun k s => if k = true then match b env s with
      | .nx e s => whileP c b m e s
      | .ct e s => whileP c b m e s
      | .bk e s => .nx e s
      | .rt p s => .rt p s
      | .ex c fs s => .ex c fs s
      | .bad => .bad
    else .nx env s) := rfl
theorem while_f {c : EM} {b : SM} {m : Nat} {env : VEnv} {st st1 : VSt} (hc : c env st = .ok (.bl false) st1) : whileP c b (m + 1) env st = .nx env st1 := by
  rw [while_s, hc, zk, zt, if_neg (by decide)]
end Lk
namespace Lk
open PySem L2 Vm
theorem filter_one {fs : List Fnc} (nd : (fs.map Fnc.name).Nodup) {h : Fnc} (hh : h ∈ fs) : fs.filter (fun g => decide (g.name = h.name)) = [h] := by
  induction fs with
  | nil => cases hh
  | cons g fs ih =>
    rw [List.map_cons, List.nodup_cons] at nd
    rcases List.mem_cons.mp hh with rfl | hm
    · rw [List.filter_cons_of_pos (by simp), List.filter_eq_nil_iff.mpr fun x hx => by
        simp only [decide_eq_true_eq]
        exact fun e => nd.1 (by rw [← e]; exact List.mem_map_of_mem hx)]
    · rw [List.filter_cons_of_neg (by
        simp only [decide_eq_true_eq]
        exact fun e => nd.1 (by rw [e]; exact List.mem_map_of_mem hm)), ih nd.2 hm]
end Lk
namespace Lk
open PySem L2 Vm
/-- rows that may be gone through -/
structure RowsOk (ws : List Str) (L : Nat) (rs : List Row) : Prop where
  gd : Row.Gds rs
  ri : Row.Ins ws rs
  sz : Row.szs rs < 900000
  lv : Row.lvls rs ≤ L
theorem RowsOk.blk {ws : List Str} {L : Nat} {rs : List Row} (k : RowsOk ws L rs) {r : Row} (h : r ∈ rs) : RowsOk ws L (blkF r) :=
  ⟨blk_gd (gd_mem k.gd h), blk_in (in_mem k.ri h), by have h1 := sz_mem h; have h2 := blk_sz r; have := k.sz; omega, by
    refine lvls_le fun s hs => ?_
    have h1 : s.lvl + 1 ≤ r.lvl := by
      cases r with
      | when t rs => rw [lvl_when]; have := lvl_mem (show s ∈ rs from hs); omega
      | again m rs => rw [lvl_again]; have := lvl_mem (show s ∈ rs from hs); omega
      | _ => cases hs
    have h2 := lvl_mem h
    have := k.lv
    omega⟩
theorem drop_mem {α : Type} {l : List α} {n : Nat} {x : α} (h : x ∈ l.drop n) : x ∈ l := List.mem_of_mem_drop h
theorem szs_drop (rs : List Row) (n : Nat) : Row.szs (rs.drop n) ≤ Row.szs rs := by
  have := szs_app (rs.take n) (rs.drop n)
  rw [List.take_append_drop] at this
  omega
theorem gds_of {rs : List Row} (h : ∀ r ∈ rs, r.Gd) : Row.Gds rs := gds_all h
theorem RowsOk.drop {ws : List Str} {L : Nat} {rs : List Row} (k : RowsOk ws L rs) (n : Nat) : RowsOk ws L (rs.drop n) :=
  ⟨gds_of fun r hr => gd_mem k.gd (drop_mem hr), ins_all fun r hr => in_mem k.ri (drop_mem hr), Nat.lt_of_le_of_lt (szs_drop rs n) k.sz, lvls_le fun r hr => Nat.le_trans (lvl_mem (drop_mem hr)) k.lv⟩
end Lk
namespace Lk
open PySem L2 Vm
inductive AkP : Nat → PV → Prop
  | non {d : Nat} : AkP d .non
  | str {d : Nat} {x : Str} : AkP d (.str x)
  | int {d : Nat} {i : Int} : AkP d (.int i)
  | tup {d : Nat} {xs : List PV} (h : ∀ x ∈ xs, AkP d x) (hl : xs.length ≤ 1000000) : AkP (d + 1) (.tup xs)
theorem AkP.mono {d : Nat} {p : PV} (h : AkP d p) : ∀ {e : Nat}, d ≤ e → AkP e p := by
  induction h with
  | non => exact fun _ => .non
  | str => exact fun _ => .str
  | int => exact fun _ => .int
  | tup h hl ih =>
    intro e he
    obtain ⟨k, rfl⟩ : ∃ k, e = k + 1 := ⟨e - 1, by omega⟩
    exact .tup (fun x hx => ih x hx (by omega)) hl
end Lk
namespace Lk
open PySem L2 Vm
def setB : Row → List Row → Row
  | .when t _, qs => .when t qs
  | .again n _, qs => .again n qs
  | .set x t, _ => .set x t
  | .tell t, _ => .tell t
  | .call x f ts, _ => .call x f ts
end Lk
namespace Lk
open PySem L2 Vm
structure Fnc.Ok (ws : List Str) (L Z : Nat) (f : Fnc) : Prop where
  nm : OkT f.name
  ps : ∀ x ∈ f.pars, x ∈ ws
  pl : f.pars.length ≤ 100
  gd : Row.Gds f.rows
  ri : Row.Ins ws f.rows
  sz : Row.szs f.rows ≤ Z
  lv : Row.lvls f.rows ≤ L
  rt : f.res.Good OkT ∧ f.res.depth ≤ 2
  ti : ∀ y ∈ f.res.names, y ∈ ws
structure PgOk (ws : List Str) (L Z : Nat) (fs : List Fnc) : Prop where
  wk : ∀ x ∈ ws, OkT x
  wl : ws.length < 64
  zz : Z ≤ 499000
  ok : ∀ f ∈ fs, f.Ok ws L Z
  ln : fs.length ≤ 100
  wf : WfP fs
  nd : (fs.map Fnc.name).Nodup
theorem PgOk.at {ws : List Str} {L Z : Nat} {fs : List Fnc} (P : PgOk ws L Z fs) {i : Nat} {f : Fnc} (h : fs[i]? = some f) : f.Ok ws L Z := P.ok f (List.mem_of_getElem? h)
theorem Fnc.Ok.mono {ws : List Str} {L Z L' Z' : Nat} {f : Fnc} (k : f.Ok ws L Z) (hL : L ≤ L') (hZ : Z ≤ Z') : f.Ok ws L' Z' := ⟨k.nm, k.ps, k.pl, k.gd, k.ri, Nat.le_trans k.sz hZ, Nat.le_trans k.lv hL, k.rt, k.ti⟩
end Lk
namespace Lk
open PySem L2 Vm
mutual
def Row.dp (W : Str → Nat) : Row → Nat
  | .call _ g _ => W g
  | .when _ rs => Row.dps W rs + 1
  | .again _ rs => Row.dps W rs + 1
  | _ => 0
def Row.dps (W : Str → Nat) : List Row → Nat
  | [] => 0
  | r :: rs => max (Row.dp W r) (Row.dps W rs)
end
section
variable {W : Str → Nat}
theorem dps_cons (r : Row) (rs : List Row) : Row.dps W (r :: rs) = max (Row.dp W r) (Row.dps W rs) := by rw [Row.dps]
theorem dp_mem {r : Row} : ∀ {rs : List Row}, r ∈ rs → Row.dp W r ≤ Row.dps W rs
  | a :: rs, h => by
    rw [dps_cons]
    rcases List.mem_cons.mp h with rfl | h
    · omega
    · have := dp_mem h; omega
theorem dp_hasB {r : Row} (h : hasB r = true) : Row.dp W r = Row.dps W (blkF r) + 1 := by
  cases r with
  | when t rs => rw [Row.dp]; rfl
  | again n rs => rw [Row.dp]; rfl
  | _ => cases h
end
mutual
theorem dp_cl {W V : Str → Nat} {P : Str → Nat → Prop} (e : ∀ g n, P g n → W g = V g) : ∀ r : Row, r.Cl P → Row.dp W r = Row.dp V r
  | .call _ g _, h => by unfold Row.Cl at h; rw [Row.dp, Row.dp]; exact e _ _ h
  | .set _ _, _ => by simp only [Row.dp]
  | .tell _, _ => by simp only [Row.dp]
  | .when t rs, h => by unfold Row.Cl at h; rw [Row.dp, Row.dp, dps_cl e rs h]
  | .again t rs, h => by unfold Row.Cl at h; rw [Row.dp, Row.dp, dps_cl e rs h]
theorem dps_cl {W V : Str → Nat} {P : Str → Nat → Prop} (e : ∀ g n, P g n → W g = V g) : ∀ rs : List Row, Row.Cls P rs → Row.dps W rs = Row.dps V rs
  | [], _ => by rw [Row.dps, Row.dps]
  | r :: rs, h => by unfold Row.Cls at h; rw [dps_cons, dps_cons, dp_cl e r h.1, dps_cl e rs h.2]
end
/-- the deepest that a function's rows lie, all put in -/
def Dp (W : Str → Nat) (L : Nat) (fs : List Fnc) : Prop := ∀ f ∈ fs, Row.dps W f.rows ≤ W f.name ∧ W f.name ≤ L
theorem sur_cons {y : Str} (r : Row) (bs : List Row) : y ∈ sureF (r :: bs) ↔ y ∈ sureB r ∨ y ∈ sureF bs := by
  rw [mem_sureF, mem_sureF, sureA_cons, List.mem_append]
theorem fst_cons {y : Str} (r : Row) (bs : List Row) : y ∈ firstF (r :: bs) ↔ y ∈ firstB r ∨ (y ∉ sureB r ∧ y ∈ firstF bs) := by
  rw [mem_firstF', mem_firstF', fstR, Bool.or_eq_true, Bool.and_eq_true, decide_eq_true_eq, Bool.not_eq_true', decide_eq_false_iff_not]
end Lk
namespace Lk
open PySem L2 Vm
abbrev Cel := Str → Int
def opW (k : Nat) (a b : Int) : Int := match k with
  | 0 => (a + b) % 1000003
  | 1 => (a + -b) % 1000003
  | _ => a * b % 1000003
def Trm.wo (c : Cel) : Trm → Int
  | .num n => n
  | .name x => c x
  | .bin k a b => opW k (a.wo c) (b.wo c)
theorem wo_agree {c d : Cel} : ∀ t : Trm, (∀ x ∈ t.names, c x = d x) → t.wo c = t.wo d
  | .num n, _ => rfl
  | .name x, h => h x (by rw [Trm.names]; exact List.mem_cons_self)
  | .bin k a b, h => by
    rw [Trm.wo, Trm.wo, wo_agree a fun x hx => h x (by rw [Trm.names]; exact List.mem_append_left _ hx), wo_agree b fun x hx => h x (by rw [Trm.names]; exact List.mem_append_right _ hx)]
def updC (c : Cel) (x : Str) (v : Int) : Cel := fun y => if y = x then v else c y
def updO (c : Cel) (x : Option Str) (v : Int) : Cel := match x with
  | some y => updC c y v
  | none => c
theorem updC_eq {c : Cel} {x : Str} {v : Int} : updC c x v x = v := if_pos rfl
theorem updC_ne {c : Cel} {x y : Str} {v : Int} (h : y ≠ x) : updC c x v y = c y := if_neg h
def iterS {α : Type} : Nat → (α → α) → α → α
  | 0, _, a => a
  | n + 1, f, a => iterS n f (f a)
/-- what a function of the name gives for numbers: its result, and what is told -/
abbrev Sem := Str → List Int → Int × List Int
mutual
def Row.go (E : Sem) : Row → Cel × List Int → Cel × List Int
  | .set x t => fun s => (updC s.1 x (t.wo s.1), s.2)
  | .tell t => fun s => (s.1, s.2 ++ [t.wo s.1])
  | .call x g ts => fun s => (updO s.1 x (E g (ts.map (Trm.wo s.1))).1, s.2 ++ (E g (ts.map (Trm.wo s.1))).2)
  | .when t rs => fun s => if t.wo s.1 = 0 then s else Row.gos E rs s
  | .again n rs => fun s => iterS n.toNat (Row.gos E rs) s
def Row.gos (E : Sem) : List Row → Cel × List Int → Cel × List Int
  | [] => fun s => s
  | r :: rs => fun s => Row.gos E rs (Row.go E r s)
end
theorem gos_nil {E : Sem} {s : Cel × List Int} : Row.gos E [] s = s := by rw [Row.gos]
theorem gos_cons {E : Sem} {r : Row} {rs : List Row} {s : Cel × List Int} : Row.gos E (r :: rs) s = Row.gos E rs (Row.go E r s) := by rw [Row.gos]
/-- two runs that tell alike and agree on the names of M -/
def Agr (M : Str → Prop) (s t s' t' : Cel × List Int) : Prop := (∃ u, s'.2 = s.2 ++ u ∧ t'.2 = t.2 ++ u) ∧ ∀ y, M y → s'.1 y = t'.1 y
theorem Agr.then {M N : Str → Prop} {s t s' t' s2 t2 : Cel × List Int} (a : Agr M s t s' t') (b : Agr N s' t' s2 t2) : Agr N s t s2 t2 := by
  obtain ⟨⟨u, e1, e2⟩, _⟩ := a
  obtain ⟨⟨v, f1, f2⟩, h⟩ := b
  exact ⟨⟨u ++ v, by rw [f1, e1, List.append_assoc], by rw [f2, e2, List.append_assoc]⟩, h⟩
theorem Agr.sub {M N : Str → Prop} {s t s' t' : Cel × List Int} (a : Agr M s t s' t') (h : ∀ y, N y → M y) : Agr N s t s' t' := ⟨a.1, fun y hy => a.2 y (h y hy)⟩
theorem Agr.refl {M : Str → Prop} {s t : Cel × List Int} (h : ∀ y, M y → s.1 y = t.1 y) : Agr M s t s t := ⟨⟨[], (List.append_nil _).symm, (List.append_nil _).symm⟩, h⟩
theorem agr_iter {M N : Str → Prop} {f g : Cel × List Int → Cel × List Int} (hN : ∀ y, M y → N y) (h : ∀ s t : Cel × List Int, (∀ y, M y → s.1 y = t.1 y) → Agr N s t (f s) (g t)) : ∀ (n : Nat) (s t : Cel × List Int), (∀ y, M y → s.1 y = t.1 y) → Agr (fun y => M y ∨ (0 < n ∧ N y)) s t (iterS n f s) (iterS n g t)
  | 0, s, t, e => Agr.refl fun y hy => by
    rcases hy with hy | hy
    · exact e y hy
    · exact absurd hy.1 (Nat.lt_irrefl _)
  | n + 1, s, t, e => by
    have h1 := h s t e
    -- from the first turn on they agree on N
    have key : ∀ (n : Nat) (s t : Cel × List Int), (∀ y, N y → s.1 y = t.1 y) → Agr N s t (iterS n f s) (iterS n g t) := fun n => by
      induction n with
      | zero => exact fun s t e => Agr.refl e
      | succ n ih =>
        intro s t e
        have h2 := h s t fun y hy => e y (hN y hy)
        exact h2.then (ih (f s) (g t) h2.2)
    exact (h1.then (key n (f s) (g t) h1.2)).sub fun y hy => hy.elim (hN y) fun z => z.2
theorem fstB_when {y : Str} {t : Trm} {rs : List Row} : y ∈ firstB (.when t rs) ↔ y ∈ t.names ∨ y ∈ firstF rs := by
  rw [firstB]
  show y ∈ ownO (.when t rs) ++ firstF rs ↔ _
  rw [List.mem_append, mem_ownO]
  show y ∈ [t].flatMap Trm.names ∨ _ ↔ _
  simp
theorem fstB_again {y : Str} {n : Int} {rs : List Row} : y ∈ firstB (.again n rs) ↔ 0 < n ∧ y ∈ firstF rs := by
  rw [firstB]
  by_cases h : 0 < n
  · rw [if_pos h]
    exact ⟨fun z => ⟨h, z⟩, fun z => z.2⟩
  · rw [if_neg h]
    exact ⟨fun z => (by cases z), fun z => absurd z.1 h⟩
theorem fstB_set {y x : Str} {t : Trm} : y ∈ firstB (.set x t) ↔ y ∈ t.names := by
  rw [firstB, mem_ownO]
  show y ∈ [t].flatMap Trm.names ↔ _
  simp
theorem fstB_tell {y : Str} {t : Trm} : y ∈ firstB (.tell t) ↔ y ∈ t.names := by
  rw [firstB, mem_ownO]
  show y ∈ [t].flatMap Trm.names ↔ _
  simp
theorem fstB_call {y : Str} {x : Option Str} {g : Str} {ts : List Trm} : y ∈ firstB (.call x g ts) ↔ ∃ t ∈ ts, y ∈ t.names := by
  rw [firstB, mem_ownO]
  show y ∈ ts.flatMap Trm.names ↔ _
  exact List.mem_flatMap
theorem map_agree {c d : Cel} {ts : List Trm} (h : ∀ y, (∃ t ∈ ts, y ∈ t.names) → c y = d y) : ts.map (Trm.wo c) = ts.map (Trm.wo d) :=
  List.map_congr_left fun t ht => wo_agree t fun x hx => h x ⟨t, ht, hx⟩
mutual
/-- what is agreed on, with all that is first read, is agreed on behind a row, with all that is surely set -/
theorem go_agree {E : Sem} : ∀ (r : Row) {M : Str → Prop} (s t : Cel × List Int), (∀ y, y ∈ firstB r → M y) → (∀ y, M y → s.1 y = t.1 y) → Agr (fun y => M y ∨ y ∈ sureB r) s t (Row.go E r s) (Row.go E r t)
  | .set x u, M, s, t, hf, e => by
    have w : u.wo s.1 = u.wo t.1 := wo_agree u fun y hy => e y (hf y (fstB_set.mpr hy))
    rw [Row.go]
    refine ⟨⟨[], (List.append_nil _).symm, (List.append_nil _).symm⟩, fun y hy => ?_⟩
    show updC s.1 x (u.wo s.1) y = updC t.1 x (u.wo t.1) y
    rw [w]
    by_cases h : y = x
    · rw [h, updC_eq, updC_eq]
    · rw [updC_ne h, updC_ne h]
      rcases hy with hy | hy
      · exact e y hy
      · rw [sureB] at hy; exact absurd (List.mem_singleton.mp hy) h
  | .tell u, M, s, t, hf, e => by
    have w : u.wo s.1 = u.wo t.1 := wo_agree u fun y hy => e y (hf y (fstB_tell.mpr hy))
    rw [Row.go]
    refine ⟨⟨[u.wo s.1], rfl, by rw [w]⟩, fun y hy => ?_⟩
    rcases hy with hy | hy
    · exact e y hy
    · rw [sureB] at hy; cases hy
  | .call x g ts, M, s, t, hf, e => by
    have w : ts.map (Trm.wo s.1) = ts.map (Trm.wo t.1) := map_agree fun y hy => e y (hf y (fstB_call.mpr hy))
    rw [Row.go]
    refine ⟨⟨(E g (ts.map (Trm.wo s.1))).2, rfl, by rw [w]⟩, fun y hy => ?_⟩
    show updO s.1 x (E g (ts.map (Trm.wo s.1))).1 y = updO t.1 x (E g (ts.map (Trm.wo t.1))).1 y
    rw [w]
    cases x with
    | none =>
      rcases hy with hy | hy
      · exact e y hy
      · rw [sureB] at hy; cases hy
    | some z =>
      show updC _ z _ y = updC _ z _ y
      by_cases h : y = z
      · rw [h, updC_eq, updC_eq]
      · rw [updC_ne h, updC_ne h]
        rcases hy with hy | hy
        · exact e y hy
        · rw [sureB] at hy; exact absurd (List.mem_singleton.mp hy) h
  | .when u rs, M, s, t, hf, e => by
    have w : u.wo s.1 = u.wo t.1 := wo_agree u fun y hy => e y (hf y (fstB_when.mpr (.inl hy)))
    rw [Row.go]
    show Agr _ s t (if u.wo s.1 = 0 then s else Row.gos E rs s) (if u.wo t.1 = 0 then t else Row.gos E rs t)
    rw [w]
    have ns : ∀ y, (M y ∨ y ∈ sureB (.when u rs)) → M y := fun y hy => hy.elim id fun z => by rw [sureB] at z; cases z
    by_cases h : u.wo t.1 = 0
    · rw [if_pos h, if_pos h]
      exact Agr.refl fun y hy => e y (ns y hy)
    · rw [if_neg h, if_neg h]
      exact (gos_agree rs s t (fun y hy => hf y (fstB_when.mpr (.inr hy))) e).sub fun y hy => .inl (ns y hy)
  | .again n rs, M, s, t, hf, e => by
    rw [Row.go]
    show Agr _ s t (iterS n.toNat (Row.gos E rs) s) (iterS n.toNat (Row.gos E rs) t)
    by_cases h : 0 < n
    · refine (agr_iter (M := M) (N := fun y => M y ∨ y ∈ sureF rs) (fun y hy => .inl hy) (fun s t e => gos_agree rs s t (fun y hy => hf y (fstB_again.mpr ⟨h, hy⟩)) e) n.toNat s t e).sub fun y hy => ?_
      rcases hy with hy | hy
      · exact .inl hy
      · rw [sureB_again, if_pos h] at hy
        exact .inr ⟨by omega, .inr hy⟩
    · rw [show n.toNat = 0 by omega]
      refine Agr.refl fun y hy => ?_
      rcases hy with hy | hy
      · exact e y hy
      · rw [sureB_again, if_neg h] at hy; cases hy
theorem gos_agree {E : Sem} : ∀ (rs : List Row) {M : Str → Prop} (s t : Cel × List Int), (∀ y, y ∈ firstF rs → M y) → (∀ y, M y → s.1 y = t.1 y) → Agr (fun y => M y ∨ y ∈ sureF rs) s t (Row.gos E rs s) (Row.gos E rs t)
  | [], M, s, t, hf, e => by
    rw [gos_nil, gos_nil]
    refine Agr.refl fun y hy => hy.elim (e y) fun z => ?_
    rw [mem_sureF, sureA_nil] at z; cases z
  | r :: rs, M, s, t, hf, e => by
    rw [gos_cons, gos_cons]
    have h1 := go_agree (E := E) r s t (fun y hy => hf y ((fst_cons r rs).mpr (.inl hy))) e
    have h2 := gos_agree (E := E) rs (M := fun y => M y ∨ y ∈ sureB r) (Row.go E r s) (Row.go E r t) (fun y hy => by
      by_cases hs : y ∈ sureB r
      · exact .inr hs
      · exact .inl (hf y ((fst_cons r rs).mpr (.inr ⟨hs, hy⟩)))) h1.2
    refine (h1.then h2).sub fun y hy => ?_
    rcases hy with hy | hy
    · exact .inl (.inl hy)
    · rcases (sur_cons r rs).mp hy with hy | hy
      · exact .inl (.inr hy)
      · exact .inr hy
end
end Lk
namespace Lk
open PySem L2 Vm
theorem iter_congr {α : Type} {f g : α → α} (h : ∀ a, f a = g a) : ∀ (n : Nat) (a : α), iterS n f a = iterS n g a := fun n a => by
  rw [show f = g from funext h]
mutual
theorem go_cl {E F : Sem} {P : Str → Nat → Prop} (e : ∀ g n, P g n → E g = F g) : ∀ r : Row, r.Cl P → ∀ s, Row.go E r s = Row.go F r s
  | .set _ _, _, s => by rw [Row.go, Row.go]
  | .tell _, _, s => by rw [Row.go, Row.go]
  | .call x g ts, h, s => by
    unfold Row.Cl at h
    rw [Row.go, Row.go]
    show (updO s.1 x (E g (ts.map (Trm.wo s.1))).1, s.2 ++ (E g (ts.map (Trm.wo s.1))).2) = (updO s.1 x (F g (ts.map (Trm.wo s.1))).1, s.2 ++ (F g (ts.map (Trm.wo s.1))).2)
    rw [e g _ h]
  | .when t rs, h, s => by
    unfold Row.Cl at h
    rw [Row.go, Row.go]
    show (if t.wo s.1 = 0 then s else Row.gos E rs s) = (if t.wo s.1 = 0 then s else Row.gos F rs s)
    rw [gos_cl e rs h s]
  | .again n rs, h, s => by
    unfold Row.Cl at h
    rw [Row.go, Row.go]
    exact iter_congr (gos_cl e rs h) n.toNat s
theorem gos_cl {E F : Sem} {P : Str → Nat → Prop} (e : ∀ g n, P g n → E g = F g) : ∀ rs : List Row, Row.Cls P rs → ∀ s, Row.gos E rs s = Row.gos F rs s
  | [], _, s => by rw [gos_nil, gos_nil]
  | r :: rs, h, s => by
    unfold Row.Cls at h
    rw [gos_cons, gos_cons, go_cl e r h.1 s, gos_cl e rs h.2]
end
def parC (ps : List Str) (vs : List Int) : Cel := (ps.zip vs).foldl (fun c p => updC c p.1 p.2) fun _ => 0
/-- a function gone through -/
def callS (E : Sem) (h : Fnc) (vs : List Int) : Int × List Int := (h.res.wo (Row.gos E h.rows (parC h.pars vs, [])).1, (Row.gos E h.rows (parC h.pars vs, [])).2)
def semP (fs : List Fnc) : Sem := fs.foldl (fun E f => fun g vs => if g = f.name then callS E f vs else E g vs) fun _ _ => (0, [])
theorem sem_app (fs : List Fnc) (f : Fnc) : semP (fs ++ [f]) = fun g vs => if g = f.name then callS (semP fs) f vs else semP fs g vs := by
  unfold semP
  rw [List.foldl_append]; rfl
theorem callS_cl {E F : Sem} {P : Str → Nat → Prop} (e : ∀ g n, P g n → E g = F g) {h : Fnc} (c : Row.Cls P h.rows) : callS E h = callS F h := funext fun vs => by
  unfold callS
  rw [gos_cl e h.rows c]
/-- what each function says is what is reckoned with the whole program -/
def FixP (E : Sem) (fs : List Fnc) : Prop := ∀ q ∈ fs, E q.name = callS E q
theorem sem_take {fs : List Fnc} (nd : (fs.map Fnc.name).Nodup) : ∀ (k i : Nat) (q : Fnc), i < k → fs[i]? = some q → semP (fs.take k) q.name = callS (semP (fs.take i)) q
  | 0, i, q, h, _ => absurd h (Nat.not_lt_zero _)
  | k + 1, i, q, h, hq => by
    have hi := (List.getElem?_eq_some_iff.mp hq).1
    by_cases hk : k < fs.length
    · have e : fs.take (k + 1) = fs.take k ++ [fs[k]] := (List.take_append_getElem hk).symm
      rw [e, sem_app]
      by_cases hik : i = k
      · subst hik
        obtain rfl : fs[i] = q := by
          rw [List.getElem?_eq_getElem hk] at hq; exact Option.some.inj hq
        funext vs
        exact if_pos rfl
      · have ne : q.name ≠ fs[k].name := fun z => by
          have h1 : (fs.map Fnc.name)[i]'(by rw [List.length_map]; omega) = (fs.map Fnc.name)[k]'(by rw [List.length_map]; exact hk) := by
            rw [List.getElem_map, List.getElem_map, ← z, (List.getElem?_eq_some_iff.mp hq).2]
          exact hik ((List.getElem_inj nd).mp h1)
        funext vs
        show (if q.name = fs[k].name then _ else semP (fs.take k) q.name vs) = _
        rw [if_neg ne, sem_take nd k i q (by omega) hq]
    · have e : fs.take (k + 1) = fs.take k := by rw [List.take_of_length_le (by omega), List.take_of_length_le (by omega)]
      rw [e]
      exact sem_take nd k i q (by omega) hq
theorem sem_fix {fs : List Fnc} (wf : WfP fs) (nd : (fs.map Fnc.name).Nodup) : FixP (semP fs) fs := fun q hq => by
  obtain ⟨i, hi⟩ := List.mem_iff_getElem?.mp hq
  have hl := (List.getElem?_eq_some_iff.mp hi).1
  have h1 := sem_take nd fs.length i q hl hi
  rw [List.take_length] at h1
  rw [h1]
  refine callS_cl (P := CalF (fs.take i)) (fun g n ⟨p, hp, e, _⟩ => ?_) (wf i q hi)
  obtain ⟨j, hj⟩ := List.mem_iff_getElem?.mp hp
  have hji : j < i := by
    have := (List.getElem?_eq_some_iff.mp hj).1
    rw [List.length_take] at this; omega
  rw [List.getElem?_take_of_lt hji] at hj
  have h2 := sem_take nd fs.length j p (by omega) hj
  rw [List.take_length] at h2
  rw [← e, sem_take nd i j p hji hj, h2]
end Lk
namespace Lk
open PySem L2 Vm
def hdF (f : Fnc) : Str × Nat := (f.name, f.pars.length)
/-- the last function has so many parameters, and says so much -/
def Say (n : Nat) (sp : List Int → Int × List Int) (fs : List Fnc) : Prop := ∃ nm, (fs.map hdF).getLast? = some (nm, n) ∧ semP fs nm = sp
theorem pickL {α : Type} {enc : α → PV} {xs : List α} {c : Int} (h : 0 < xs.length) : ∃ x ∈ xs, ∀ s : VSt, vIx (.lst (xs.map enc)) (.int (c % (xs.length : Int))) s = .ok (enc x) s := by
  have i0 : 0 ≤ c % (xs.length : Int) := Int.emod_nonneg _ (by omega)
  have i1 : c % (xs.length : Int) < xs.length := Int.emod_lt_of_pos _ (by omega)
  have hlt : (c % (xs.length : Int)).toNat < xs.length := by omega
  refine ⟨xs[(c % (xs.length : Int)).toNat], List.getElem_mem _, fun s => ?_⟩
  rw [v_ixl, at_in i0 (by rw [List.length_map]; exact i1), List.getElem_map]
  exact yT
theorem Fnc.Pd.okG {ws : List Str} {f : Fnc} (p : f.Pd ws) : f.Ok ws 9 2000 := ⟨p.gd.nm, p.hd.pi, by have := p.hd.pl; omega, p.gd.rs, p.ri, p.rs, p.lv, p.gd.rt, p.ti⟩
theorem prog_ok (ns : List Int) : PgOk (wsF ns) 9 2000 (progF ns) := ⟨(ws_ok ns).2, by have := ws_len ns; omega, by omega, fun f hf => (prog_pd ns f hf).okG, by have := prog_len ns; omega, prog_wf ns, prog_nm ns⟩
mutual
theorem dp_lv {W : Str → Nat} {P : Str → Nat → Prop} {B : Nat} (e : ∀ g n, P g n → W g ≤ B) : ∀ r : Row, r.Cl P → Row.dp W r ≤ r.lvl + B
  | .call _ g _, h => by unfold Row.Cl at h; rw [Row.dp]; have := e _ _ h; omega
  | .set _ _, _ => by simp only [Row.dp]; omega
  | .tell _, _ => by simp only [Row.dp]; omega
  | .when t rs, h => by unfold Row.Cl at h; rw [Row.dp, lvl_when]; have := dps_lv e rs h; omega
  | .again t rs, h => by unfold Row.Cl at h; rw [Row.dp, lvl_again]; have := dps_lv e rs h; omega
theorem dps_lv {W : Str → Nat} {P : Str → Nat → Prop} {B : Nat} (e : ∀ g n, P g n → W g ≤ B) : ∀ rs : List Row, Row.Cls P rs → Row.dps W rs ≤ Row.lvls rs + B
  | [], _ => by rw [Row.dps]; exact Nat.zero_le _
  | r :: rs, h => by unfold Row.Cls at h; rw [dps_cons, lvls_cons]; have := dp_lv e r h.1; have := dps_lv e rs h.2; omega
end
/-- functions one behind the other, each deep by two, the last one by nine -/
theorem dp_first : ∀ (gs : List Fnc) (n : Nat), gs.length = n → ((gs.map Fnc.name).Nodup) → WfP gs → (∀ f ∈ gs, Row.lvls f.rows ≤ 2) → ∃ W : Str → Nat, (∀ f ∈ gs, Row.dps W f.rows ≤ W f.name) ∧ ∀ f ∈ gs, W f.name ≤ 2 * n := by
  intro gs n hn nd wf lv
  obtain ⟨W, hW⟩ : ∃ W : Str → Nat, W = fun g => 2 * ((gs.map Fnc.name).idxOf g + 1) := ⟨_, rfl⟩
  have at_ : ∀ i f, gs[i]? = some f → (gs.map Fnc.name).idxOf f.name = i := fun i f h => by
    have hi := (List.getElem?_eq_some_iff.mp h).1
    have hl : i < (gs.map Fnc.name).length := by rw [List.length_map]; exact hi
    have e : (gs.map Fnc.name)[i] = f.name := by rw [List.getElem_map, (List.getElem?_eq_some_iff.mp h).2]
    rw [← e]
    exact nd.idxOf_getElem i hl
  refine ⟨W, fun f hf => ?_, fun f hf => ?_⟩
  · obtain ⟨i, hi⟩ := List.mem_iff_getElem?.mp hf
    have h1 := dps_lv (W := W) (B := 2 * i) (fun g m ⟨q, hq, e1, _⟩ => by
      obtain ⟨j, hj⟩ := List.mem_iff_getElem?.mp hq
      have hji : j < i := by
        have := (List.getElem?_eq_some_iff.mp hj).1
        rw [List.length_take] at this; omega
      rw [List.getElem?_take_of_lt hji] at hj
      rw [hW, ← e1]
      show 2 * ((gs.map Fnc.name).idxOf q.name + 1) ≤ 2 * i
      rw [at_ j q hj]; omega) f.rows (wf i f hi)
    have h2 := lv f hf
    have h3 : W f.name = 2 * (i + 1) := by
      rw [hW]
      show 2 * ((gs.map Fnc.name).idxOf f.name + 1) = _
      rw [at_ i f hi]
    omega
  · obtain ⟨i, hi⟩ := List.mem_iff_getElem?.mp hf
    have h2 := (List.getElem?_eq_some_iff.mp hi).1
    rw [hW]
    show 2 * ((gs.map Fnc.name).idxOf f.name + 1) ≤ _
    rw [at_ i f hi]; omega
theorem prog_dp (ns : List Int) : PgOk (wsF ns) 23 2000 (progF ns) ∧ ∃ W : Str → Nat, Dp W 23 (progF ns) := by
  have P := prog_ok ns
  obtain ⟨l1, l2⟩ := prog_len ns
  obtain ⟨x, e⟩ : ∃ x, progF ns = headsF ns ++ [x] := by
    unfold progF loopF
    split
    · exact ⟨_, rfl⟩
    · exact ⟨_, rfl⟩
  have hl : (headsF ns).length ≤ 7 := heads_len ns
  have nd := P.nd
  have wf := P.wf
  rw [e] at nd wf
  have tk : (headsF ns ++ [x]).take (headsF ns).length = headsF ns := List.take_left' rfl
  have wf1 : WfP (headsF ns) := fun i f hf => by
    have hi := (List.getElem?_eq_some_iff.mp hf).1
    have := wf i f (by rw [List.getElem?_append_left hi]; exact hf)
    rwa [List.take_append_of_le_length (by omega)] at this
  have nd1 : ((headsF ns).map Fnc.name).Nodup := by
    rw [List.map_append] at nd
    exact (List.nodup_append.mp nd).1
  have nx : x.name ∉ (headsF ns).map Fnc.name := fun h => by
    rw [List.map_append] at nd
    exact (List.nodup_append.mp nd).2.2 _ h x.name (by simp) rfl
  obtain ⟨W, d1, d2⟩ := dp_first (headsF ns) _ rfl nd1 wf1 fun f hf => (heads_gd ns f (List.mem_append_left _ hf)).2
  obtain ⟨V, hV⟩ : ∃ V : Str → Nat, V = fun g => if g = x.name then 23 else W g := ⟨_, rfl⟩
  have Vn : ∀ f ∈ headsF ns, V f.name = W f.name := fun f hf => by
    rw [hV]
    exact if_neg fun z => nx (by rw [← z]; exact List.mem_map_of_mem hf)
  have cx := wf (headsF ns).length x (by rw [List.getElem?_append_right (Nat.le_refl _), Nat.sub_self]; rfl)
  rw [tk] at cx
  refine ⟨?_, V, fun f hf => ?_⟩
  · exact ⟨P.wk, P.wl, P.zz, fun f hf => (P.ok f hf).mono (by decide) (Nat.le_refl _), P.ln, P.wf, P.nd⟩
  · have hlv := (P.ok f hf).lv
    rw [e] at hf
    rcases List.mem_append.mp hf with hm | hm
    · have h1 := d1 f hm
      have h2 := d2 f hm
      obtain ⟨i, hi⟩ := List.mem_iff_getElem?.mp hm
      have h3 : Row.dps V f.rows = Row.dps W f.rows := (dps_cl (P := CalF ((headsF ns).take i)) (fun g n ⟨q, hq, e1, _⟩ => by
        have := Vn q (List.mem_of_mem_take hq)
        rw [← e1, this]) _ (wf1 i f hi)).symm
      rw [h3, Vn f hm]
      omega
    · obtain rfl := List.mem_singleton.mp hm
      have h1 := dps_lv (W := V) (B := 14) (fun g n ⟨q, hq, e1, _⟩ => by
        have h1 := d2 q hq
        rw [← e1, Vn q hq]; omega) _ cx
      have h2 : V f.name = 23 := by rw [hV]; exact if_pos rfl
      rw [h2]
      omega
theorem iter_keep {α : Type} {f : α → α} {P : α → Prop} (h : ∀ a, P a → P (f a)) : ∀ (n : Nat) (a : α), P a → P (iterS n f a)
  | 0, _, p => p
  | n + 1, a, p => iter_keep h n (f a) (h a p)
theorem v_at {xs : List PV} {k : Nat} {x : PV} {s : VSt} (h : xs[k]? = some x) : vIx (.tup xs) (.int (k : Int)) s = .ok x s := by
  rw [v_ixt, atI_nat (v := x) h]; exact yT
end Lk
namespace Lk
open PySem L2 Vm
def Rg (v : Int) : Prop := 0 ≤ v ∧ v < 1000003
def RgC (c : Cel) : Prop := ∀ y, Rg (c y)
def RgE (E : Sem) : Prop := ∀ g vs, (∀ v ∈ vs, Rg v) → Rg (E g vs).1
theorem rg_mod (v : Int) : Rg (v % 1000003) := ⟨Int.emod_nonneg _ (by decide), Int.emod_lt_of_pos _ (by decide)⟩
theorem wo_rg {c : Cel} (h : RgC c) : ∀ t : Trm, t.Good OkT → Rg (t.wo c)
  | .num n, g => g
  | .name x, _ => h x
  | .bin k a b, _ => by
    rw [Trm.wo]
    unfold opW
    split <;> exact rg_mod _
theorem updC_rg {c : Cel} (h : RgC c) {x : Str} {v : Int} (hv : Rg v) : RgC (updC c x v) := fun y => by
  unfold updC
  split
  · exact hv
  · exact h y
theorem updO_rg {c : Cel} (h : RgC c) {x : Option Str} {v : Int} (hv : Rg v) : RgC (updO c x v) := by
  cases x with
  | none => exact h
  | some y => exact updC_rg h hv
mutual
theorem go_rg {E : Sem} (hE : RgE E) : ∀ (r : Row), r.Gd → ∀ s : Cel × List Int, RgC s.1 → RgC (Row.go E r s).1
  | .set x t, g, s, h => by unfold Row.Gd at g; rw [Row.go]; exact updC_rg h (wo_rg h t g.2.1)
  | .tell t, g, s, h => by rw [Row.go]; exact h
  | .call x f ts, g, s, h => by
    unfold Row.Gd at g
    rw [Row.go]
    refine updO_rg h (hE f _ fun v hv => ?_)
    obtain ⟨t, ht, rfl⟩ := List.mem_map.mp hv
    exact wo_rg h t (g.2.2 t ht).1
  | .when t rs, g, s, h => by
    rw [Row.go]
    show RgC (if t.wo s.1 = 0 then s else Row.gos E rs s).1
    split
    · exact h
    · exact gos_rg hE rs (gd_when g) s h
  | .again n rs, g, s, h => by
    rw [Row.go]
    exact iter_keep (P := fun a : Cel × List Int => RgC a.1) (fun a p => gos_rg hE rs (gd_again g) a p) n.toNat s h
theorem gos_rg {E : Sem} (hE : RgE E) : ∀ (rs : List Row), Row.Gds rs → ∀ s : Cel × List Int, RgC s.1 → RgC (Row.gos E rs s).1
  | [], _, s, h => by rw [gos_nil]; exact h
  | r :: rs, g, s, h => by
    rw [gds_cons] at g
    rw [gos_cons]
    exact gos_rg hE rs g.2 _ (go_rg hE r g.1 s h)
end
theorem par_rg : ∀ (ps : List Str) (vs : List Int) (c : Cel), RgC c → (∀ v ∈ vs, Rg v) → RgC ((ps.zip vs).foldl (fun c p => updC c p.1 p.2) c)
  | [], _, c, h, _ => h
  | p :: ps, [], c, h, _ => h
  | p :: ps, v :: vs, c, h, hv => par_rg ps vs _ (updC_rg h (hv v List.mem_cons_self)) fun w hw => hv w (List.mem_cons_of_mem _ hw)
theorem call_rg {E : Sem} (hE : RgE E) {f : Fnc} (g : Row.Gds f.rows) (gt : f.res.Good OkT) {vs : List Int} (hv : ∀ v ∈ vs, Rg v) : Rg (callS E f vs).1 :=
  wo_rg (gos_rg hE f.rows g _ (par_rg f.pars vs _ (fun _ => ⟨Int.le_refl _, by decide⟩) hv)) f.res gt
theorem sem_rg : ∀ (fs : List Fnc), (∀ f ∈ fs, Row.Gds f.rows ∧ f.res.Good OkT) → RgE (semP fs) := by
  have key : ∀ (n : Nat) (fs : List Fnc), fs.length = n → (∀ f ∈ fs, Row.Gds f.rows ∧ f.res.Good OkT) → RgE (semP fs) := by
    intro n
    induction n with
    | zero =>
      intro fs h _
      rw [List.length_eq_zero_iff.mp h]
      exact fun g vs _ => (show Rg 0 from ⟨by decide, by decide⟩)
    | succ n ih =>
      intro fs h hg
      have ne : fs ≠ [] := fun z => by rw [z] at h; cases h
      rw [← List.dropLast_concat_getLast ne] at hg ⊢
      have i := ih fs.dropLast (by rw [List.length_dropLast]; omega) fun f hf => hg f (List.mem_append_left _ hf)
      have gl := hg (fs.getLast ne) (List.mem_append_right _ List.mem_cons_self)
      rw [sem_app]
      intro g vs hv
      show Rg (if g = (fs.getLast ne).name then callS (semP fs.dropLast) (fs.getLast ne) vs else semP fs.dropLast g vs).1
      split
      · exact call_rg i gl.1 gl.2 hv
      · exact i g vs hv
  exact fun fs => key _ fs rfl
/-- what is told stays told -/
theorem gos_ext {E : Sem} (rs : List Row) (s : Cel × List Int) : s.2.length ≤ (Row.gos E rs s).2.length := by
  obtain ⟨⟨u, e, _⟩, _⟩ := gos_agree (E := E) rs (M := fun _ => True) s s (fun _ _ => trivial) fun _ _ => rfl
  rw [e, List.length_append]; omega
theorem iter_ext {f : Cel × List Int → Cel × List Int} (h : ∀ s, s.2.length ≤ (f s).2.length) : ∀ (n : Nat) (s : Cel × List Int), s.2.length ≤ (iterS n f s).2.length
  | 0, _ => Nat.le_refl _
  | n + 1, s => Nat.le_trans (h s) (iter_ext h n (f s))
theorem iter_work {f : Cel × List Int → Cel × List Int} {w : Int} (h : ∀ s, ((f s).2.length : Int) ≤ s.2.length + w) : ∀ (n : Nat) (s : Cel × List Int), ((iterS n f s).2.length : Int) ≤ s.2.length + n * w
  | 0, s => by show (s.2.length : Int) ≤ _; omega
  | n + 1, s => by
    have h1 := h s
    have h2 := iter_work h n (f s)
    show ((iterS n f (f s)).2.length : Int) ≤ _
    rw [show ((n + 1 : Nat) : Int) * w = n * w + w by rw [Int.natCast_add, Int.add_mul]; simp]
    generalize (n : Int) * w = z at *
    omega
section
variable {E : Sem} {lk : Str → Int} (hE : ∀ g vs, ((E g vs).2.length : Int) ≤ lk g)
include hE
theorem lk_nn (g : Str) : 0 ≤ lk g := by have := hE g []; omega
mutual
theorem work_nn : ∀ r : Row, 0 ≤ workR lk r
  | .set _ _ => by rw [workR]; decide
  | .tell _ => by rw [workR]; decide
  | .call _ f _ => by rw [workR]; have := lk_nn hE f; omega
  | .when _ rs => by rw [workR]; have := works_nn rs; omega
  | .again c rs => by
    rw [workR]
    have h1 : 0 ≤ mx1 c := by unfold mx1; split <;> omega
    have := Int.mul_nonneg h1 (works_nn rs)
    omega
theorem works_nn : ∀ rs : List Row, 0 ≤ workF lk rs
  | [] => by rw [workF_nil]; decide
  | r :: rs => by rw [workF_cons]; have := work_nn r; have := works_nn rs; omega
end
mutual
theorem go_work : ∀ (r : Row) (s : Cel × List Int), ((Row.go E r s).2.length : Int) ≤ s.2.length + workR lk r
  | .set x t, s => by rw [Row.go, workR]; show (s.2.length : Int) ≤ _; omega
  | .tell t, s => by rw [Row.go, workR]; show ((s.2 ++ [_]).length : Int) ≤ _; rw [List.length_append]; show ((s.2.length + 1 : Nat) : Int) ≤ _; omega
  | .call x f ts, s => by
    have := hE f (ts.map (Trm.wo s.1))
    rw [Row.go, workR]
    show ((s.2 ++ (E f (ts.map (Trm.wo s.1))).2).length : Int) ≤ _
    rw [List.length_append]; omega
  | .when t rs, s => by
    have h1 := gos_work rs s
    have h2 := works_nn hE rs
    rw [Row.go, workR]
    show ((if t.wo s.1 = 0 then s else Row.gos E rs s).2.length : Int) ≤ _
    split <;> omega
  | .again n rs, s => by
    have h1 := iter_work (fun s => gos_work rs s) n.toNat s
    have h2 := works_nn hE rs
    have h3 : ((n.toNat : Nat) : Int) ≤ mx1 n := by unfold mx1; split <;> omega
    have h4 := Int.mul_le_mul_of_nonneg_right h3 h2
    rw [Row.go, workR]
    show ((iterS n.toNat (Row.gos E rs) s).2.length : Int) ≤ _
    generalize (n.toNat : Int) * workF lk rs = z at *
    generalize mx1 n * workF lk rs = y at *
    omega
theorem gos_work : ∀ (rs : List Row) (s : Cel × List Int), ((Row.gos E rs s).2.length : Int) ≤ s.2.length + workF lk rs
  | [], s => by rw [gos_nil, workF_nil]; omega
  | r :: rs, s => by
    have h1 := go_work r s
    have h2 := gos_work rs (Row.go E r s)
    rw [gos_cons, workF_cons]; omega
end
theorem call_work (f : Fnc) (vs : List Int) : ((callS E f vs).2.length : Int) ≤ workF lk f.rows := by
  have := gos_work hE f.rows (parC f.pars vs, [])
  show ((Row.gos E f.rows (parC f.pars vs, [])).2.length : Int) ≤ _
  have e : ((parC f.pars vs, ([] : List Int)).2.length : Int) = 0 := rfl
  omega
end
theorem w_arith {K K' S W m : Int} (hK : K = 9 * K') (h1 : 1 ≤ K') (hS : 0 ≤ S) (hW : 0 ≤ W) (h : W ≤ K' * S) (hm : m ≤ 9) {T : Int} (hT : S + 1 ≤ T) : 1 + m * W ≤ K * T := by
  have a1 := Int.mul_le_mul_of_nonneg_right hm hW
  have a2 := Int.mul_le_mul_of_nonneg_left hT (show 0 ≤ K by omega)
  have a3 : K * (S + 1) = 9 * (K' * S) + K := by rw [Int.mul_add, Int.mul_one, hK, Int.mul_assoc]
  generalize m * W = x at *
  generalize K' * S = y at *
  generalize K * T = z at *
  omega
mutual
theorem work_sz {lk : Str → Int} (hl : ∀ g, 0 ≤ lk g) : ∀ (d : Nat) (r : Row), r.Gd → r.Cl (fun _ _ => False) → r.lvl ≤ d → 0 ≤ workR lk r ∧ workR lk r ≤ 9 ^ d * (r.sz : Int)
  | d, .set x t, _, _, _ => by
    have p : (1 : Int) ≤ 9 ^ d := Int.pow_pos (by decide)
    rw [workR, Row.sz]
    have := Int.mul_le_mul p (show (1 : Int) ≤ ((t.size + 1 : Nat) : Int) by omega) (by decide) (by omega)
    exact ⟨by decide, by rw [Int.mul_one] at this; exact this⟩
  | d, .tell t, _, _, _ => by
    have p : (1 : Int) ≤ 9 ^ d := Int.pow_pos (by decide)
    rw [workR, Row.sz]
    have := Int.mul_le_mul p (show (1 : Int) ≤ ((t.size + 1 : Nat) : Int) by omega) (by decide) (by omega)
    exact ⟨by decide, by rw [Int.mul_one] at this; exact this⟩
  | d, .call x f ts, _, c, _ => by unfold Row.Cl at c; exact c.elim
  | 0, .when t rs, _, _, h => by rw [lvl_when] at h; omega
  | 0, .again t rs, _, _, h => by rw [lvl_again] at h; omega
  | d + 1, .when t rs, g, c, h => by
    unfold Row.Cl at c
    rw [lvl_when] at h
    obtain ⟨h1, h2⟩ := works_sz hl d rs (gd_when g) c (by omega)
    have p : (1 : Int) ≤ 9 ^ d := Int.pow_pos (by decide)
    rw [workR, sz_when]
    have := w_arith (K := 9 ^ (d + 1)) (K' := 9 ^ d) (S := (Row.szs rs : Int)) (W := workF lk rs) (m := 1) (by rw [Int.pow_succ, Int.mul_comm]) p (by omega) h1 h2 (by decide) (T := ((t.size + Row.szs rs + 1 : Nat) : Int)) (by omega)
    rw [Int.one_mul] at this
    exact ⟨by omega, this⟩
  | d + 1, .again n rs, g, c, h => by
    unfold Row.Cl at c
    rw [lvl_again] at h
    obtain ⟨h1, h2⟩ := works_sz hl d rs (gd_again g) c (by omega)
    have p : (1 : Int) ≤ 9 ^ d := Int.pow_pos (by decide)
    have g' := g
    unfold Row.Gd at g'
    have hm := mx1_r ⟨g'.1, g'.2.1⟩
    rw [workR, sz_again]
    have := w_arith (K := 9 ^ (d + 1)) (K' := 9 ^ d) (S := (Row.szs rs : Int)) (W := workF lk rs) (m := mx1 n) (by rw [Int.pow_succ, Int.mul_comm]) p (by omega) h1 h2 (by omega) (T := ((Row.szs rs + 1 : Nat) : Int)) (by omega)
    have h0 := Int.mul_nonneg (show 0 ≤ mx1 n by omega) h1
    exact ⟨by omega, this⟩
theorem works_sz {lk : Str → Int} (hl : ∀ g, 0 ≤ lk g) : ∀ (d : Nat) (rs : List Row), Row.Gds rs → Row.Cls (fun _ _ => False) rs → Row.lvls rs ≤ d → 0 ≤ workF lk rs ∧ workF lk rs ≤ 9 ^ d * (Row.szs rs : Int)
  | d, [], _, _, _ => by rw [workF_nil, szs_nil]; exact ⟨by decide, by rw [show ((0 : Nat) : Int) = 0 from rfl, Int.mul_zero]; exact Int.le_refl _⟩
  | d, r :: rs, g, c, h => by
    rw [gds_cons] at g
    rw [cls_cons] at c
    rw [lvls_cons] at h
    obtain ⟨a1, a2⟩ := work_sz hl d r g.1 c.1 (by omega)
    obtain ⟨b1, b2⟩ := works_sz hl d rs g.2 c.2 (by omega)
    rw [workF_cons, szs_cons]
    rw [show ((r.sz + Row.szs rs : Nat) : Int) = r.sz + Row.szs rs by omega, Int.mul_add]
    exact ⟨by omega, by omega⟩
end
end Lk
namespace Lk
open PySem L2 Vm
structure WkOk (fs : List Fnc) (wk : List (Str × Int)) : Prop where
  tl : ∀ g vs, ((semP fs g vs).2.length : Int) ≤ lkI wk g
  le : ∀ g, lkI wk g ≤ 162000
theorem lkI_put {wk : List (Str × Int)} {x g : Str} {v : Int} : lkI (putE wk x v) g = if g = x then v else lkI wk g := by
  unfold lkI
  rw [lk_put]
  split <;> rfl
theorem wk_nil : WkOk [] [] := ⟨fun g vs => by show ((0 : Nat) : Int) ≤ 0; decide, fun g => by show (0 : Int) ≤ _; decide⟩
theorem bnd_work {ws : List Str} (hw : 0 < ws.length) (ho : ∀ x ∈ ws, OkT x) {hs : List Fnc} (x : Str) (hx : OkT x) (c : Int) {wk : List (Str × Int)} (nn : ∀ g, 0 ≤ lkI wk g) : workF (lkI wk) (bndF ws hs x c wk).rows ≤ 162000 := by
  unfold bndF
  split
  · rename_i h
    have e1 : bnd1 ws hs x c wk = functionF ws [] x c := by
      unfold bnd1 at h ⊢
      split
      · rfl
      · rename_i h2
        rw [if_neg h2] at h
        exact absurd h h2
    rw [e1]
    have g := gd_function hw ho (hs := []) (fun h z => by cases z) x hx c
    have d := function_dr (hs := []) hw (fun h z => by cases z) x c
    have cl := function_cl ws [] x c
    have lv : Row.lvls (functionF ws [] x c).rows ≤ 2 := by
      have r1 := gd_rows hw ho (hs := []) 1 (fun h z => by cases z) (mixedF c 5) (manyF c)
      have r2 := gd_rows hw ho (hs := []) 2 (fun h z => by cases z) (mixedF c 5) (manyF c)
      show Row.lvls (if manyF c > 6 then _ else _) ≤ 2
      split
      · exact Nat.le_trans r1.2 (by omega)
      · exact r2.2
    have l2 := take_lvls (rs := (functionF ws [] x c).rows) 2
    have z2 := take_szs (functionF ws [] x c).rows 2
    have zr := d.rs
    have k := (works_sz (lk := lkI wk) nn 2 ((functionF ws [] x c).rows.take 2) (take_gds g.rs 2) (cls_all fun r hr => cl_mem (Row.Cls.mono (fun f k ⟨h, hm, _⟩ => by cases hm) _ cl) (List.mem_of_mem_take hr)) (by omega)).2
    rw [show (9 : Int) ^ 2 = 81 from rfl] at k
    show workF (lkI wk) ((functionF ws [] x c).rows.take 2) ≤ _
    omega
  · omega
theorem wk_step {ns : List Int} {k : Nat} {fs : List Fnc} {wk : List (Str × Int)} (S : StB ns k fs wk) (h : WkOk fs wk) : WkOk (fs ++ [stepB ns k fs wk]) (wkB ns k fs wk) ∧ workF (lkI wk) (stepB ns k fs wk).rows ≤ 162000 := by
  have nn := lk_nn h.tl
  have hx := getD_ok (nm_ok ns).2 ok_nil k
  have b := bnd_work (hs := fs.take 3) (ws_ok ns).1 (ws_ok ns).2 ((nmF ns).getD k "") hx (cellF ns (7 + k)) nn
  have b1 := bnd_gd (ws_ok ns).1 (ws_ok ns).2 (hs := fs.take 3) (fun f hf => (S.gd f (List.mem_of_mem_take hf)).1) ((nmF ns).getD k "") hx (cellF ns (7 + k)) wk
  have b0 := works_nn h.tl (f0B ns k fs wk).rows
  have b : workF (lkI wk) (f0B ns k fs wk).rows ≤ 162000 := b
  have n0 : (f0B ns k fs wk).name = (nmF ns).getD k "" := b1.2.2
  unfold stepB wkB w0B
  by_cases e : emptyB ns k
  · rw [if_pos e, if_pos e]
    obtain rfl := e.1
    refine ⟨⟨fun g vs => ?_, fun g => ?_⟩, by rw [workF_nil]; decide⟩
    · rw [sem_app, lkI_put, lkI_put]
      show (((if g = (nmF ns).getD 0 "" then callS (semP fs) ⟨(nmF ns).getD 0 "", [], [], (f0B ns 0 fs wk).res⟩ vs else semP fs g vs).2.length : Nat) : Int) ≤ _
      by_cases z : g = (nmF ns).getD 0 ""
      · rw [if_pos z, if_pos z]
        unfold callS
        rw [gos_nil]; exact Int.le_refl _
      · rw [if_neg z, if_neg z, if_neg z]; exact h.tl g vs
    · rw [lkI_put, lkI_put]
      have := h.le g
      by_cases z : g = (nmF ns).getD 0 ""
      · rw [if_pos z]; decide
      · rw [if_neg z, if_neg z]; exact this
  · rw [if_neg e, if_neg e]
    refine ⟨⟨fun g vs => ?_, fun g => ?_⟩, b⟩
    · rw [sem_app, lkI_put, n0]
      show (((if g = (nmF ns).getD k "" then callS (semP fs) (f0B ns k fs wk) vs else semP fs g vs).2.length : Nat) : Int) ≤ _
      by_cases z : g = (nmF ns).getD k ""
      · rw [if_pos z, if_pos z]; exact call_work h.tl _ vs
      · rw [if_neg z, if_neg z]; exact h.tl g vs
    · rw [lkI_put]
      have := h.le g
      split <;> omega
theorem progB_wk (ns : List Int) : ∀ (m k : Nat) (fs : List Fnc) (wk : List (Str × Int)), StB ns k fs wk → WkOk fs wk → ∃ gs wk' f, progB ns (m + 1) k fs wk = gs ++ [f] ∧ WkOk gs wk' ∧ workF (lkI wk') f.rows ≤ 162000
  | 0, k, fs, wk, S, h => ⟨fs, wk, stepB ns k fs wk, rfl, h, (wk_step S h).2⟩
  | m + 1, k, fs, wk, S, h => progB_wk ns m (k + 1) _ _ S.step (wk_step S h).1
theorem wrap_work {lk : Str → Int} : ∀ (is : List Int) (rs : List Row), workF lk (wrapF rs is) = workF lk rs + is.length
  | [], rs => by show workF lk rs = _; simp
  | i :: is, rs => by
    show workF lk (wrapF [.when (.num (1 + i)) rs] is) = _
    rw [wrap_work is, workF_cons, workF_nil, workR, List.length_cons]; omega
/-- the drawn program tells no more -/
theorem prog_told (ns : List Int) (g : Str) (vs : List Int) : (semP (progF ns) g vs).2.length ≤ 490000 := by
  have c := cntN_r ns
  obtain ⟨m, hm⟩ : ∃ m, (cntN ns).toNat = m + 1 := ⟨(cntN ns).toNat - 1, by omega⟩
  obtain ⟨gs, wk, f, e, W, hf⟩ := progB_wk ns m 0 [] [] (StB.nil ns) wk_nil
  have eb : builtF ns = gs ++ [f] := by
    unfold builtF
    rw [hm, e]
  have e2 := heads_last ns
  rw [eb] at e2
  obtain ⟨e3, e4⟩ := List.append_inj' e2 rfl
  have e4 : lastF ns = f := (List.cons.inj e4).1
  have nn := lk_nn W.tl
  have key : ∀ q : Fnc, workF (lkI wk) q.rows ≤ 490000 → (semP (gs ++ [q]) g vs).2.length ≤ 490000 := fun q hq => by
    rw [sem_app]
    show (if g = q.name then callS (semP gs) q vs else semP gs g vs).2.length ≤ _
    split
    · have := call_work W.tl q vs; omega
    · have := W.tl g vs; have := W.le g; omega
  unfold progF loopF
  rw [e3, e4]
  split
  · exact key f (by omega)
  · refine key (againF f _) ?_
    have b0 := works_nn W.tl f.rows
    generalize cellF ns 6 / 4 = c
    show workF (lkI wk) [Row.again (2 + c / 2 % 2) (if c / 4 % 4 = 1 then wrapF f.rows six else f.rows)] ≤ _
    rw [workF_cons, workF_nil, workR]
    have hm : mx1 (2 + c / 2 % 2) ≤ 3 := by unfold mx1; split <;> omega
    have hW : workF (lkI wk) (if c / 4 % 4 = 1 then wrapF f.rows six else f.rows) ≤ 162006 ∧ 0 ≤ workF (lkI wk) (if c / 4 % 4 = 1 then wrapF f.rows six else f.rows) := by
      split
      · rw [wrap_work]
        have : (six.length : Int) = 6 := rfl
        omega
      · omega
    generalize workF (lkI wk) (if c / 4 % 4 = 1 then wrapF f.rows six else f.rows) = w at *
    have := Int.mul_le_mul_of_nonneg_right hm hW.2
    omega
end Lk
namespace Lk
open PySem L2 Vm
def celE (l : List (Str × Int)) : Cel := fun y => (lkE l y).getD 0
theorem cel_put {l : List (Str × Int)} {x : Str} {v : Int} : celE (putE l x v) = updC (celE l) x v := funext fun y => by
  unfold celE updC
  rw [lk_put]
  split <;> rfl
def KOk (ws : List Str) (l : List (Str × Int)) : Prop := (l.map Prod.fst).Nodup ∧ ∀ x ∈ l.map Prod.fst, x ∈ ws
theorem KOk.put {ws : List Str} {l : List (Str × Int)} (h : KOk ws l) {x : Str} (hx : x ∈ ws) (v : Int) : KOk ws (putE l x v) := by
  unfold putE
  by_cases e : hasE l x = true
  · rw [if_pos e]
    unfold KOk
    rw [List.map_map]
    exact h
  · rw [if_neg e]
    have nx : x ∉ l.map Prod.fst := fun z => e (hasE_iff.mpr z)
    unfold KOk
    rw [List.map_append]
    refine ⟨List.nodup_append.mpr ⟨h.1, List.nodup_cons.mpr ⟨fun z => (by cases z), List.nodup_nil⟩, fun a ha b hb e2 => ?_⟩, fun y hy => ?_⟩
    · obtain rfl := List.mem_singleton.mp (show b ∈ [x] from hb)
      exact nx (by rw [← e2]; exact ha)
    · rcases List.mem_append.mp hy with hy | hy
      · exact h.2 y hy
      · rw [List.mem_singleton.mp (show y ∈ [x] from hy)]; exact hx
theorem KOk.len {ws : List Str} {l : List (Str × Int)} (h : KOk ws l) : l.length ≤ ws.length := by
  have := nodup_len h.1 h.2
  rwa [List.length_map] at this
theorem v_getE {st : VSt} {p : PV} {x : Str} {l : List (Str × Int)} (h : deref st p = dE PV.int l) : vGet p (.str x) (.int 0) st = .ok (.int (celE l x)) st := by
  unfold vGet
  rw [h]
  unfold dE
  dsimp only
  rw [show keyP (.str x) = some (Sum.inr x) from rfl]
  dsimp only
  rw [kl_E]
  unfold celE
  cases lkE l x <;> rfl
theorem isd_E {st : VSt} {p : PV} {l : List (Str × Int)} (h : deref st p = dE PV.int l) : isDct st p = true := by
  unfold isDct
  rw [h]
  rfl
theorem F_worth {st : VSt} {a : Nat} {l : List (Str × Int)} (hd : deref st (.loc a) = dE PV.int l) (hc : RgC (celE l)) : ∀ (t : Trm), t.Good OkT → ∀ n, t.depth + 1 ≤ n → Fm D n i__law_worth [t.pv, .loc a] st = .ok (.int (t.wo (celE l))) st
  | .num v, _, n, h => by
    obtain ⟨n, rfl⟩ := ge_add (k := 1) (n := n) (by omega)
    have d1 : decide (("num" : Str) = "num") = true := by decide
    rw [c__law_worth, b__law_worth_q]
    unfold q__law_worth_0
    show _ = Res.ok (PV.int v) st
    rw [Trm.pv]
    simp -implicitDefEqProofs (disch := omega) only [za,zb,zc,zd,ze,zf,zg,zh,zi,zj,zk,zm,zn,zo,zp,zq,zt,zu,zv,zw,zx,zy,zA,zB,zC,zD,zE,zF,zG,zH,zI,zJ,zK,zL,zM,zN,zO,zP,zQ,zR,zS,zT,zU,zV,zW,zX,zY,zZ,ya,yb,yc,yd,ye,yf,yg,yh,yi,yj,yk,yl,ym,yn,yo,yp,yq,yr,yt,yu,yv,yw,yx,yy,yz,yA,yB,yC,yD,yE,yF,yG,yH,yI,yJ,yK,yL,yM,yN,yO,yP,yQ,yR,yS,yT,yU,yV,yW,yX,yY,yZ,wa,wb,wc,wd,we,wg,wj,wm,wp,wq,lA9,lB9,lC9,lD9,lE9,lF9,lG9,lH9,wt,lI9,lJ9,lK9,lL9,lM9,lN9,lO9,lP9,lQ9,lR9,lS9,lT9,↓reduceIte,Nat.reduceAdd,Nat.reduceLeDiff, d1]
  | .name x, _, n, h => by
    obtain ⟨n, rfl⟩ := ge_add (k := 1) (n := n) (by omega)
    have d1 : decide (("name" : Str) = "num") = false := by decide
    have d2 : decide (("name" : Str) = "name") = true := by decide
    have isd := isd_E hd
    have vg := v_getE (x := x) hd
    rw [c__law_worth, b__law_worth_q]
    unfold q__law_worth_0 q__law_worth_1
    show _ = Res.ok (PV.int (celE l x)) st
    rw [Trm.pv]
    simp -implicitDefEqProofs (disch := omega) only [za,zb,zc,zd,ze,zf,zg,zh,zi,zj,zk,zm,zn,zo,zp,zq,zt,zu,zv,zw,zx,zy,zA,zB,zC,zD,zE,zF,zG,zH,zI,zJ,zK,zL,zM,zN,zO,zP,zQ,zR,zS,zT,zU,zV,zW,zX,zY,zZ,ya,yb,yc,yd,ye,yf,yg,yh,yi,yj,yk,yl,ym,yn,yo,yp,yq,yr,yt,yu,yv,yw,yx,yy,yz,yA,yB,yC,yD,yE,yF,yG,yH,yI,yJ,yK,yL,yM,yN,yO,yP,yQ,yR,yS,yT,yU,yV,yW,yX,yY,yZ,wa,wb,wc,wd,we,wg,wj,wm,wp,wq,lA9,lB9,lC9,lD9,lE9,lF9,lG9,lH9,wt,lI9,lJ9,lK9,lL9,lM9,lN9,lO9,lP9,lQ9,lR9,lS9,lT9,↓reduceIte,Nat.reduceAdd,Nat.reduceLeDiff, d1, d2, isd, vg]
  | .bin k p q, g, n, h => by
    obtain ⟨n, rfl⟩ := ge_add (k := 1) (n := n) (by omega)
    unfold Trm.Good at g
    unfold Trm.depth at h
    have h1 := F_worth hd hc p g.2.1 n (by omega)
    have h2 := F_worth hd hc q g.2.2 n (by omega)
    have r1 := wo_rg hc p g.2.1
    have r2 := wo_rg hc q g.2.2
    unfold Rg at r1 r2
    rw [c__law_worth, b__law_worth_q]
    unfold q__law_worth_0 q__law_worth_1 q__law_worth_2 q__law_worth_3 q__law_worth_4 q__law_worth_5 q__law_worth_6
    have hk := g.1
    rw [Trm.pv]
    match k, hk with
    | 0, _ =>
      have e1 : opS 0 = "sum" := rfl
      have d1 : decide (("sum" : Str) = "num") = false := by decide
      have d2 : decide (("sum" : Str) = "name") = false := by decide
      have d3 : decide (("sum" : Str) = "less") = false := by decide
      have d4 : decide (("sum" : Str) = "times") = false := by decide
      show _ = Res.ok (PV.int ((p.wo (celE l) + q.wo (celE l)) % 1000003)) st
      rw [e1]
      simp -implicitDefEqProofs (disch := omega) only [za,zb,zc,zd,ze,zf,zg,zh,zi,zj,zk,zm,zn,zo,zp,zq,zt,zu,zv,zw,zx,zy,zA,zB,zC,zD,zE,zF,zG,zH,zI,zJ,zK,zL,zM,zN,zO,zP,zQ,zR,zS,zT,zU,zV,zW,zX,zY,zZ,ya,yb,yc,yd,ye,yf,yg,yh,yi,yj,yk,yl,ym,yn,yo,yp,yq,yr,yt,yu,yv,yw,yx,yy,yz,yA,yB,yC,yD,yE,yF,yG,yH,yI,yJ,yK,yL,yM,yN,yO,yP,yQ,yR,yS,yT,yU,yV,yW,yX,yY,yZ,wa,wb,wc,wd,we,wg,wj,wm,wp,wq,lA9,lB9,lC9,lD9,lE9,lF9,lG9,lH9,wt,lI9,lJ9,lK9,lL9,lM9,lN9,lO9,lP9,lQ9,lR9,lS9,lT9,↓reduceIte,Nat.reduceAdd,Nat.reduceLeDiff, d1, d2, d3, d4, h1, h2]
    | 1, _ =>
      have e1 : opS 1 = "less" := rfl
      have d1 : decide (("less" : Str) = "num") = false := by decide
      have d2 : decide (("less" : Str) = "name") = false := by decide
      have d3 : decide (("less" : Str) = "less") = true := by decide
      have d4 : decide (("less" : Str) = "times") = false := by decide
      show _ = Res.ok (PV.int ((p.wo (celE l) + -q.wo (celE l)) % 1000003)) st
      rw [e1]
      simp -implicitDefEqProofs (disch := omega) only [za,zb,zc,zd,ze,zf,zg,zh,zi,zj,zk,zm,zn,zo,zp,zq,zt,zu,zv,zw,zx,zy,zA,zB,zC,zD,zE,zF,zG,zH,zI,zJ,zK,zL,zM,zN,zO,zP,zQ,zR,zS,zT,zU,zV,zW,zX,zY,zZ,ya,yb,yc,yd,ye,yf,yg,yh,yi,yj,yk,yl,ym,yn,yo,yp,yq,yr,yt,yu,yv,yw,yx,yy,yz,yA,yB,yC,yD,yE,yF,yG,yH,yI,yJ,yK,yL,yM,yN,yO,yP,yQ,yR,yS,yT,yU,yV,yW,yX,yY,yZ,wa,wb,wc,wd,we,wg,wj,wm,wp,wq,lA9,lB9,lC9,lD9,lE9,lF9,lG9,lH9,wt,lI9,lJ9,lK9,lL9,lM9,lN9,lO9,lP9,lQ9,lR9,lS9,lT9,↓reduceIte,Nat.reduceAdd,Nat.reduceLeDiff, d1, d2, d3, d4, h1, h2]
    | 2, _ =>
      have e1 : opS 2 = "times" := rfl
      have d1 : decide (("times" : Str) = "num") = false := by decide
      have d2 : decide (("times" : Str) = "name") = false := by decide
      have d3 : decide (("times" : Str) = "less") = false := by decide
      have d4 : decide (("times" : Str) = "times") = true := by decide
      show _ = Res.ok (PV.int (p.wo (celE l) * q.wo (celE l) % 1000003)) st
      rw [e1]
      have vm : ∀ s, vMul (.int (p.wo (celE l))) (.int (q.wo (celE l))) s = .ok (.int (p.wo (celE l) * q.wo (celE l))) s := fun s => yJ (.inl (by omega))
      simp -implicitDefEqProofs (disch := omega) only [za,zb,zc,zd,ze,zf,zg,zh,zi,zj,zk,zm,zn,zo,zp,zq,zt,zu,zv,zw,zx,zy,zA,zB,zC,zD,zE,zF,zG,zH,zI,zJ,zK,zL,zM,zN,zO,zP,zQ,zR,zS,zT,zU,zV,zW,zX,zY,zZ,ya,yb,yc,yd,ye,yf,yg,yh,yi,yj,yk,yl,ym,yn,yo,yp,yq,yr,yt,yu,yv,yw,yx,yy,yz,yA,yB,yC,yD,yE,yF,yG,yH,yI,yJ,yK,yL,yM,yN,yO,yP,yQ,yR,yS,yT,yU,yV,yW,yX,yY,yZ,wa,wb,wc,wd,we,wg,wj,wm,wp,wq,lA9,lB9,lC9,lD9,lE9,lF9,lG9,lH9,wt,lI9,lJ9,lK9,lL9,lM9,lN9,lO9,lP9,lQ9,lR9,lS9,lT9,↓reduceIte,Nat.reduceAdd,Nat.reduceLeDiff, d1, d2, d3, d4, h1, h2, vm]
/-- the cells and what is told, in the store -/
structure Sts (st : VSt) (a b : Nat) (l : List (Str × Int)) (told : List Int) : Prop where
  cl : deref st (.loc a) = dE PV.int l
  tl : deref st (.loc b) = .lst (told.map PV.int)
  ab : a ≠ b
  al : a < st.length
  bl : b < st.length
theorem deref_ss {st : VSt} {a : Nat} {p : PV} (h : a < st.length) : deref (st.set a p) (.loc a) = p := by
  show (st.set a p).getD a .non = p
  rw [List.getD_eq_getElem?_getD, List.getElem?_set_self h]; rfl
theorem deref_sn {st : VSt} {a b : Nat} {p : PV} (h : a ≠ b) : deref (st.set a p) (.loc b) = deref st (.loc b) := by
  show (st.set a p).getD b .non = st.getD b .non
  rw [List.getD_eq_getElem?_getD, List.getD_eq_getElem?_getD, List.getElem?_set_ne h]
structure Stp (st st' : VSt) (a b : Nat) : Prop where
  ln : st'.length = st.length
  el : ∀ k, k ≠ a → k ≠ b → st'[k]? = st[k]?
theorem Stp.refl {st : VSt} {a b : Nat} : Stp st st a b := ⟨rfl, fun _ _ _ => rfl⟩
theorem Stp.then {st st1 st2 : VSt} {a b : Nat} (h : Stp st st1 a b) (k : Stp st1 st2 a b) : Stp st st2 a b := ⟨k.ln.trans h.ln, fun x h1 h2 => (k.el x h1 h2).trans (h.el x h1 h2)⟩
theorem stp_set {st : VSt} {a b x : Nat} {p : PV} (h : x = a ∨ x = b) : Stp st (st.set x p) a b := ⟨List.length_set, fun k h1 h2 => List.getElem?_set_ne (by
  rcases h with rfl | rfl
  · exact fun z => h1 z.symm
  · exact fun z => h2 z.symm)⟩
/-- gone on to s -/
structure Nxt (ws : List Str) (st : VSt) (a b : Nat) (st' : VSt) (l' : List (Str × Int)) (s : Cel × List Int) : Prop where
  sp : Stp st st' a b
  st : Sts st' a b l' s.2
  ko : KOk ws l'
  ce : celE l' = s.1
theorem Nxt.then {ws : List Str} {st st1 st2 : VSt} {a b : Nat} {l1 l2 : List (Str × Int)} {s1 s2 : Cel × List Int} (h : Nxt ws st a b st1 l1 s1) (k : Nxt ws st1 a b st2 l2 s2) : Nxt ws st a b st2 l2 s2 := ⟨h.sp.then k.sp, k.st, k.ko, k.ce⟩
theorem Sts.put {ws : List Str} {st : VSt} {a b : Nat} {l : List (Str × Int)} {told : List Int} (S : Sts st a b l told) (K : KOk ws l) {x : Str} (hx : x ∈ ws) (v : Int) : Nxt ws st a b (st.set a (dE PV.int (putE l x v))) (putE l x v) (updC (celE l) x v, told) :=
  ⟨stp_set (.inl rfl), ⟨deref_ss S.al, by rw [deref_sn S.ab]; exact S.tl, S.ab, by rw [List.length_set]; exact S.al, by rw [List.length_set]; exact S.bl⟩, K.put hx v, cel_put⟩
theorem Sts.tell {ws : List Str} {st : VSt} {a b : Nat} {l : List (Str × Int)} {told : List Int} (S : Sts st a b l told) (K : KOk ws l) (v : Int) : Nxt ws st a b (st.set b (.lst (told.map PV.int ++ [.int v]))) l (celE l, told ++ [v]) :=
  ⟨stp_set (.inr rfl), ⟨by rw [deref_sn S.ab.symm]; exact S.cl, by rw [deref_ss S.bl, List.map_append]; rfl, S.ab, by rw [List.length_set]; exact S.al, by rw [List.length_set]; exact S.bl⟩, K, rfl⟩
def GoneOk (fs : List Fnc) (E : Sem) (ws : List Str) (rs : List Row) (m : Nat) : Prop := ∀ (st : VSt) (a b : Nat) (l : List (Str × Int)) (told : List Int), Sts st a b l told → KOk ws l → RgC (celE l) → (Row.gos E rs (celE l, told)).2.length ≤ 490000 →
  ∃ st' l', Fm D m i__law_gone [.tup (fs.map Fnc.pv), .tup (Row.pvs rs), .loc a, .loc b] st = .ok .non st' ∧ Nxt ws st a b st' l' (Row.gos E rs (celE l, told))
def CalledOk (fs : List Fnc) (E : Sem) (h : Fnc) (m : Nat) : Prop := ∀ (st : VSt) (b : Nat) (told vs : List Int), deref st (.loc b) = .lst (told.map PV.int) → b < st.length → vs.length = h.pars.length → (∀ v ∈ vs, Rg v) → told.length + (callS E h vs).2.length ≤ 490000 →
  ∃ st', Fm D m i__law_called [.tup (fs.map Fnc.pv), h.pv, .lst (vs.map PV.int), .loc b] st = .ok (.int (callS E h vs).1) st' ∧ deref st' (.loc b) = .lst ((told ++ (callS E h vs).2).map PV.int) ∧ st'.length = st.length ∧ ∀ k, k ≠ b → st'[k]? = st[k]?
abbrev eG (P R : PV) (a b : Nat) (z4 z5 z6 z7 z8 z9 z10 : Option PV) : VEnv := [some P, some R, some (.loc a), some (.loc b), z4, z5, z6, z7, z8, z9, z10]
theorem again_loop {fs : List Fnc} {E : Sem} (hE : RgE E) {ws : List Str} {rs : List Row} (g : Row.Gds rs) {m : Nat} (h : GoneOk fs E ws rs m) {R : PV} {a b : Nat} {c : PV} : ∀ (k j : Nat) (st : VSt) (l : List (Str × Int)) (told : List Int) (z5 z6 z7 z8 z9 z10 : Option PV), Sts st a b l told → KOk ws l → RgC (celE l) → (iterS k (Row.gos E rs) (celE l, told)).2.length ≤ 490000 →
    ∃ st' l' y8, forL (bodyP (gName 8) (fb__law_gone_1 (Fm D m))) ((List.range' j k).map fun (k : Nat) => .int (0 + (k : Int))) (eG (.tup (fs.map Fnc.pv)) R a b (some (.tup [.str "again", c, .tup (Row.pvs rs)])) z5 z6 z7 z8 z9 z10) st = .nx (eG (.tup (fs.map Fnc.pv)) R a b (some (.tup [.str "again", c, .tup (Row.pvs rs)])) z5 z6 z7 y8 z9 z10) st' ∧ Nxt ws st a b st' l' (iterS k (Row.gos E rs) (celE l, told))
  | 0, j, st, l, told, z5, z6, z7, z8, z9, z10, S, K, C, _ => ⟨st, l, z8, rfl, Stp.refl, S, K, rfl⟩
  | k + 1, j, st, l, told, z5, z6, z7, z8, z9, z10, S, K, C, hL => by
    have hL : (iterS k (Row.gos E rs) (Row.gos E rs (celE l, told))).2.length ≤ 490000 := hL
    have h1 := iter_ext (fun s => gos_ext (E := E) rs s) k (Row.gos E rs (celE l, told))
    obtain ⟨st1, l1, f1, N1⟩ := h st a b l told S K C (by omega)
    have es : (celE l1, (Row.gos E rs (celE l, told)).2) = Row.gos E rs (celE l, told) := by rw [N1.ce]
    obtain ⟨st2, l2, y8, f2, N2⟩ := again_loop hE g h k (j + 1) st1 l1 (Row.gos E rs (celE l, told)).2 z5 z6 z7 (some (.int (0 + (j : Int)))) z9 z10 N1.st N1.ko (by rw [N1.ce]; exact gos_rg hE rs g _ C) (by rw [es]; exact hL)
    rw [es] at N2
    refine ⟨st2, l2, y8, ?_, N1.then N2⟩
    have hb : bodyP (gName 8) (fb__law_gone_1 (Fm D m)) (.int (0 + (j : Int))) (eG (.tup (fs.map Fnc.pv)) R a b (some (.tup [.str "again", c, .tup (Row.pvs rs)])) z5 z6 z7 z8 z9 z10) st = .nx (eG (.tup (fs.map Fnc.pv)) R a b (some (.tup [.str "again", c, .tup (Row.pvs rs)])) z5 z6 z7 (some (.int (0 + (j : Int)))) z9 z10) st1 := by
      unfold fb__law_gone_1
      simp -implicitDefEqProofs (disch := omega) only [za,zb,zc,zd,ze,zf,zg,zh,zi,zj,zk,zm,zn,zo,zp,zq,zt,zu,zv,zw,zx,zy,zA,zB,zC,zD,zE,zF,zG,zH,zI,zJ,zK,zL,zM,zN,zO,zP,zQ,zR,zS,zT,zU,zV,zW,zX,zY,zZ,ya,yb,yc,yd,ye,yf,yg,yh,yi,yj,yk,yl,ym,yn,yo,yp,yq,yr,yt,yu,yv,yw,yx,yy,yz,yA,yB,yC,yD,yE,yF,yG,yH,yI,yJ,yK,yL,yM,yN,yO,yP,yQ,yR,yS,yT,yU,yV,yW,yX,yY,yZ,wa,wb,wc,wd,we,wg,wj,wm,wp,wq,lA9,lB9,lC9,lD9,lE9,lF9,lG9,lH9,wt,lI9,lJ9,lK9,lL9,lM9,lN9,lO9,lP9,lQ9,lR9,lS9,lT9,↓reduceIte,Nat.reduceAdd,Nat.reduceLeDiff, x_body, f1]
    rw [List.range'_succ, List.map_cons, forL_cons, hb]
    exact f2
end Lk
namespace Lk
open PySem L2 Vm
theorem gos_from {E : Sem} (rs : List Row) (c : Cel) (told : List Int) : Row.gos E rs (c, told) = ((Row.gos E rs (c, [])).1, told ++ (Row.gos E rs (c, [])).2) := by
  obtain ⟨⟨u, e1, e2⟩, h⟩ := gos_agree (E := E) rs (M := fun _ => True) (c, told) (c, []) (fun _ _ => trivial) fun _ _ => rfl
  refine Prod.ext (funext fun y => h y (.inl trivial)) ?_
  rw [e1, e2]
  rfl
section
variable {m : Nat} {fs : List Fnc} {E : Sem} (hE : RgE E) {ws : List Str} (hw : ws.length < 64) (nd : (fs.map Fnc.name).Nodup) (hln : fs.length ≤ 1000) (hp : ∀ h ∈ fs, h.pars.length ≤ 100) (hm : 4 ≤ m)
include hE hw nd hln hp hm
theorem row_run {i : Nat} (hS : ∀ h ∈ fs.take i, E h.name = callS E h) {r : Row} (g : r.Gd) (hin : r.In ws) (hcl : r.Cl (CalF (fs.take i))) (hB : hasB r = true → GoneOk fs E ws (blkF r) m) (hF : ∀ h ∈ fs.take i, ∀ ts x, r = .call x h.name ts → CalledOk fs E h m)
    {R : PV} {a b : Nat} {st : VSt} {l : List (Str × Int)} {told : List Int} (S : Sts st a b l told) (K : KOk ws l) (C : RgC (celE l)) (hL : (Row.go E r (celE l, told)).2.length ≤ 490000) (z4 z5 z6 z7 z8 z9 z10 : Option PV) :
    ∃ st' l' y5 y6 y7 y8, bodyP (gName 4) (fb__law_gone_0 (Fm D m)) r.pv (eG (.tup (fs.map Fnc.pv)) R a b z4 z5 z6 z7 z8 z9 z10) st = .nx (eG (.tup (fs.map Fnc.pv)) R a b (some r.pv) y5 y6 y7 y8 z9 z10) st' ∧ Nxt ws st a b st' l' (Row.go E r (celE l, told)) := by
  have kl := K.len
  cases r with
  | set x t =>
    have hx : x ∈ ws := tgt_in hin x rfl
    unfold Row.Gd at g
    have vw := F_worth S.cl C t g.2.1 m (by omega)
    have ds : decide (("set" : Str) = "set") = true := by decide
    have e1 : Row.go E (.set x t) (celE l, told) = (updC (celE l) x (t.wo (celE l)), told) := by rw [Row.go]
    rw [e1]
    refine ⟨_, _, z5, z6, z7, z8, ?_, S.put K hx (t.wo (celE l))⟩
    have pt := r_put (enc := PV.int) (d := eVar 2) (k := eBin vIx (eVar 4) (eC (.int 1))) (v := eApp (Fm D m i__law_worth) (aCons (eBin vIx (eVar 4) (eC (.int 2))) (aCons (eVar 2) aNil))) (env := eG (.tup (fs.map Fnc.pv)) R a b (some (Row.set x t).pv) z5 z6 z7 z8 z9 z10) (st := st) (st1 := st) (st2 := st) (st3 := st) (n := a) (x := x) (a := t.wo (celE l)) (l := l)
      (by rw [Row.pv]; simp -implicitDefEqProofs (disch := omega) only [za,zb,zc,zd,ze,zf,zg,zh,zi,zj,zk,zm,zn,zo,zp,zq,zt,zu,zv,zw,zx,zy,zA,zB,zC,zD,zE,zF,zG,zH,zI,zJ,zK,zL,zM,zN,zO,zP,zQ,zR,zS,zT,zU,zV,zW,zX,zY,zZ,ya,yb,yc,yd,ye,yf,yg,yh,yi,yj,yk,yl,ym,yn,yo,yp,yq,yr,yt,yu,yv,yw,yx,yy,yz,yA,yB,yC,yD,yE,yF,yG,yH,yI,yJ,yK,yL,yM,yN,yO,yP,yQ,yR,yS,yT,yU,yV,yW,yX,yY,yZ,wa,wb,wc,wd,we,wg,wj,wm,wp,wq,lA9,lB9,lC9,lD9,lE9,lF9,lG9,lH9,wt,lI9,lJ9,lK9,lL9,lM9,lN9,lO9,lP9,lQ9,lR9,lS9,lT9,↓reduceIte,Nat.reduceAdd,Nat.reduceLeDiff, vw]) (by simp -implicitDefEqProofs (disch := omega) only [za,zb,zc,zd,ze,zf,zg,zh,zi,zj,zk,zm,zn,zo,zp,zq,zt,zu,zv,zw,zx,zy,zA,zB,zC,zD,zE,zF,zG,zH,zI,zJ,zK,zL,zM,zN,zO,zP,zQ,zR,zS,zT,zU,zV,zW,zX,zY,zZ,ya,yb,yc,yd,ye,yf,yg,yh,yi,yj,yk,yl,ym,yn,yo,yp,yq,yr,yt,yu,yv,yw,yx,yy,yz,yA,yB,yC,yD,yE,yF,yG,yH,yI,yJ,yK,yL,yM,yN,yO,yP,yQ,yR,yS,yT,yU,yV,yW,yX,yY,yZ,wa,wb,wc,wd,we,wg,wj,wm,wp,wq,lA9,lB9,lC9,lD9,lE9,lF9,lG9,lH9,wt,lI9,lJ9,lK9,lL9,lM9,lN9,lO9,lP9,lQ9,lR9,lS9,lT9,↓reduceIte,Nat.reduceAdd,Nat.reduceLeDiff]) (by rw [Row.pv]; simp -implicitDefEqProofs (disch := omega) only [za,zb,zc,zd,ze,zf,zg,zh,zi,zj,zk,zm,zn,zo,zp,zq,zt,zu,zv,zw,zx,zy,zA,zB,zC,zD,zE,zF,zG,zH,zI,zJ,zK,zL,zM,zN,zO,zP,zQ,zR,zS,zT,zU,zV,zW,zX,zY,zZ,ya,yb,yc,yd,ye,yf,yg,yh,yi,yj,yk,yl,ym,yn,yo,yp,yq,yr,yt,yu,yv,yw,yx,yy,yz,yA,yB,yC,yD,yE,yF,yG,yH,yI,yJ,yK,yL,yM,yN,yO,yP,yQ,yR,yS,yT,yU,yV,yW,yX,yY,yZ,wa,wb,wc,wd,we,wg,wj,wm,wp,wq,lA9,lB9,lC9,lD9,lE9,lF9,lG9,lH9,wt,lI9,lJ9,lK9,lL9,lM9,lN9,lO9,lP9,lQ9,lR9,lS9,lT9,↓reduceIte,Nat.reduceAdd,Nat.reduceLeDiff]) S.cl (by omega) rfl
    rw [Row.pv] at pt ⊢
    unfold fb__law_gone_0
    simp -implicitDefEqProofs (disch := omega) only [za,zb,zc,zd,ze,zf,zg,zh,zi,zj,zk,zm,zn,zo,zp,zq,zt,zu,zv,zw,zx,zy,zA,zB,zC,zD,zE,zF,zG,zH,zI,zJ,zK,zL,zM,zN,zO,zP,zQ,zR,zS,zT,zU,zV,zW,zX,zY,zZ,ya,yb,yc,yd,ye,yf,yg,yh,yi,yj,yk,yl,ym,yn,yo,yp,yq,yr,yt,yu,yv,yw,yx,yy,yz,yA,yB,yC,yD,yE,yF,yG,yH,yI,yJ,yK,yL,yM,yN,yO,yP,yQ,yR,yS,yT,yU,yV,yW,yX,yY,yZ,wa,wb,wc,wd,we,wg,wj,wm,wp,wq,lA9,lB9,lC9,lD9,lE9,lF9,lG9,lH9,wt,lI9,lJ9,lK9,lL9,lM9,lN9,lO9,lP9,lQ9,lR9,lS9,lT9,↓reduceIte,Nat.reduceAdd,Nat.reduceLeDiff, x_body, ds, pt]
  | tell t =>
    unfold Row.Gd at g
    have vw := F_worth S.cl C t g.1 m (by omega)
    have d1 : decide (("tell" : Str) = "tell") = true := by decide
    have e1 : Row.go E (.tell t) (celE l, told) = (celE l, told ++ [t.wo (celE l)]) := by rw [Row.go]
    rw [e1] at hL ⊢
    have hL : (told ++ [t.wo (celE l)]).length ≤ 490000 := hL
    rw [List.length_append] at hL
    refine ⟨_, _, z5, z6, z7, z8, ?_, S.tell K (t.wo (celE l))⟩
    have pt := r_app (l := eVar 3) (a := eApp (Fm D m i__law_worth) (aCons (eBin vIx (eVar 4) (eC (.int 1))) (aCons (eVar 2) aNil))) (env := eG (.tup (fs.map Fnc.pv)) R a b (some (Row.tell t).pv) z5 z6 z7 z8 z9 z10) (st := st) (st' := st) (n := b) (xs := told.map PV.int) (y := .int (t.wo (celE l)))
      (by simp -implicitDefEqProofs (disch := omega) only [za,zb,zc,zd,ze,zf,zg,zh,zi,zj,zk,zm,zn,zo,zp,zq,zt,zu,zv,zw,zx,zy,zA,zB,zC,zD,zE,zF,zG,zH,zI,zJ,zK,zL,zM,zN,zO,zP,zQ,zR,zS,zT,zU,zV,zW,zX,zY,zZ,ya,yb,yc,yd,ye,yf,yg,yh,yi,yj,yk,yl,ym,yn,yo,yp,yq,yr,yt,yu,yv,yw,yx,yy,yz,yA,yB,yC,yD,yE,yF,yG,yH,yI,yJ,yK,yL,yM,yN,yO,yP,yQ,yR,yS,yT,yU,yV,yW,yX,yY,yZ,wa,wb,wc,wd,we,wg,wj,wm,wp,wq,lA9,lB9,lC9,lD9,lE9,lF9,lG9,lH9,wt,lI9,lJ9,lK9,lL9,lM9,lN9,lO9,lP9,lQ9,lR9,lS9,lT9,↓reduceIte,Nat.reduceAdd,Nat.reduceLeDiff]) S.tl (by rw [Row.pv]; simp -implicitDefEqProofs (disch := omega) only [za,zb,zc,zd,ze,zf,zg,zh,zi,zj,zk,zm,zn,zo,zp,zq,zt,zu,zv,zw,zx,zy,zA,zB,zC,zD,zE,zF,zG,zH,zI,zJ,zK,zL,zM,zN,zO,zP,zQ,zR,zS,zT,zU,zV,zW,zX,zY,zZ,ya,yb,yc,yd,ye,yf,yg,yh,yi,yj,yk,yl,ym,yn,yo,yp,yq,yr,yt,yu,yv,yw,yx,yy,yz,yA,yB,yC,yD,yE,yF,yG,yH,yI,yJ,yK,yL,yM,yN,yO,yP,yQ,yR,yS,yT,yU,yV,yW,yX,yY,yZ,wa,wb,wc,wd,we,wg,wj,wm,wp,wq,lA9,lB9,lC9,lD9,lE9,lF9,lG9,lH9,wt,lI9,lJ9,lK9,lL9,lM9,lN9,lO9,lP9,lQ9,lR9,lS9,lT9,↓reduceIte,Nat.reduceAdd,Nat.reduceLeDiff, vw]) S.tl (by rw [List.length_map]; omega) rfl
    rw [Row.pv] at pt ⊢
    unfold fb__law_gone_0
    simp -implicitDefEqProofs (disch := omega) only [za,zb,zc,zd,ze,zf,zg,zh,zi,zj,zk,zm,zn,zo,zp,zq,zt,zu,zv,zw,zx,zy,zA,zB,zC,zD,zE,zF,zG,zH,zI,zJ,zK,zL,zM,zN,zO,zP,zQ,zR,zS,zT,zU,zV,zW,zX,zY,zZ,ya,yb,yc,yd,ye,yf,yg,yh,yi,yj,yk,yl,ym,yn,yo,yp,yq,yr,yt,yu,yv,yw,yx,yy,yz,yA,yB,yC,yD,yE,yF,yG,yH,yI,yJ,yK,yL,yM,yN,yO,yP,yQ,yR,yS,yT,yU,yV,yW,yX,yY,yZ,wa,wb,wc,wd,we,wg,wj,wm,wp,wq,lA9,lB9,lC9,lD9,lE9,lF9,lG9,lH9,wt,lI9,lJ9,lK9,lL9,lM9,lN9,lO9,lP9,lQ9,lR9,lS9,lT9,↓reduceIte,Nat.reduceAdd,Nat.reduceLeDiff, x_body, k_ts, d1, pt]
  | when t rs =>
    unfold Row.Gd at g
    have vw := F_worth S.cl C t g.1 m (by omega)
    have e1 : Row.go E (.when t rs) (celE l, told) = if t.wo (celE l) = 0 then (celE l, told) else Row.gos E rs (celE l, told) := by rw [Row.go]
    rw [e1] at hL ⊢
    by_cases h0 : t.wo (celE l) = 0
    · rw [if_pos h0]
      have d0 : decide (t.wo (celE l) = 0) = true := decide_eq_true h0
      refine ⟨st, l, z5, z6, z7, z8, ?_, Stp.refl, S, K, rfl⟩
      rw [Row.pv]
      unfold fb__law_gone_0
      simp -implicitDefEqProofs (disch := omega) only [za,zb,zc,zd,ze,zf,zg,zh,zi,zj,zk,zm,zn,zo,zp,zq,zt,zu,zv,zw,zx,zy,zA,zB,zC,zD,zE,zF,zG,zH,zI,zJ,zK,zL,zM,zN,zO,zP,zQ,zR,zS,zT,zU,zV,zW,zX,zY,zZ,ya,yb,yc,yd,ye,yf,yg,yh,yi,yj,yk,yl,ym,yn,yo,yp,yq,yr,yt,yu,yv,yw,yx,yy,yz,yA,yB,yC,yD,yE,yF,yG,yH,yI,yJ,yK,yL,yM,yN,yO,yP,yQ,yR,yS,yT,yU,yV,yW,yX,yY,yZ,wa,wb,wc,wd,we,wg,wj,wm,wp,wq,lA9,lB9,lC9,lD9,lE9,lF9,lG9,lH9,wt,lI9,lJ9,lK9,lL9,lM9,lN9,lO9,lP9,lQ9,lR9,lS9,lT9,↓reduceIte,Nat.reduceAdd,Nat.reduceLeDiff, x_body, k_ws, k_wt, k_wc, k_wa, vw, d0]
    · rw [if_neg h0] at hL ⊢
      have d0 : decide (t.wo (celE l) = 0) = false := decide_eq_false h0
      obtain ⟨st', l', f1, N⟩ := hB rfl st a b l told S K C hL
      have f1 : Fm D m i__law_gone [.tup (fs.map Fnc.pv), .tup (Row.pvs rs), .loc a, .loc b] st = .ok .non st' := f1
      refine ⟨st', l', z5, z6, z7, z8, ?_, N⟩
      rw [Row.pv]
      unfold fb__law_gone_0
      simp -implicitDefEqProofs (disch := omega) only [za,zb,zc,zd,ze,zf,zg,zh,zi,zj,zk,zm,zn,zo,zp,zq,zt,zu,zv,zw,zx,zy,zA,zB,zC,zD,zE,zF,zG,zH,zI,zJ,zK,zL,zM,zN,zO,zP,zQ,zR,zS,zT,zU,zV,zW,zX,zY,zZ,ya,yb,yc,yd,ye,yf,yg,yh,yi,yj,yk,yl,ym,yn,yo,yp,yq,yr,yt,yu,yv,yw,yx,yy,yz,yA,yB,yC,yD,yE,yF,yG,yH,yI,yJ,yK,yL,yM,yN,yO,yP,yQ,yR,yS,yT,yU,yV,yW,yX,yY,yZ,wa,wb,wc,wd,we,wg,wj,wm,wp,wq,lA9,lB9,lC9,lD9,lE9,lF9,lG9,lH9,wt,lI9,lJ9,lK9,lL9,lM9,lN9,lO9,lP9,lQ9,lR9,lS9,lT9,↓reduceIte,Nat.reduceAdd,Nat.reduceLeDiff, x_body, k_ws, k_wt, k_wc, k_wa, vw, d0, f1]
  | again n rs =>
    unfold Row.Gd at g
    have d1 : decide (("again" : Str) = "again") = true := by decide
    have e1 : Row.go E (.again n rs) (celE l, told) = iterS n.toNat (Row.gos E rs) (celE l, told) := by rw [Row.go]
    rw [e1] at hL ⊢
    obtain ⟨st', l', y8, f1, N⟩ := again_loop hE g.2.2 (hB rfl) (R := R) (c := .int n) n.toNat 0 st l told z5 z6 z7 z8 z9 z10 S K C hL
    refine ⟨st', l', z5, z6, z7, y8, ?_, N⟩
    have hf := for_rng (a := eBin vIx (eVar 4) (eC (.int 1))) (g := gName 8) (body := fb__law_gone_1 (Fm D m)) (i := n) (env := eG (.tup (fs.map Fnc.pv)) R a b (some (.tup [.str "again", .int n, .tup (Row.pvs rs)])) z5 z6 z7 z8 z9 z10) (st := st) (st' := st) (by simp -implicitDefEqProofs (disch := omega) only [za,zb,zc,zd,ze,zf,zg,zh,zi,zj,zk,zm,zn,zo,zp,zq,zt,zu,zv,zw,zx,zy,zA,zB,zC,zD,zE,zF,zG,zH,zI,zJ,zK,zL,zM,zN,zO,zP,zQ,zR,zS,zT,zU,zV,zW,zX,zY,zZ,ya,yb,yc,yd,ye,yf,yg,yh,yi,yj,yk,yl,ym,yn,yo,yp,yq,yr,yt,yu,yv,yw,yx,yy,yz,yA,yB,yC,yD,yE,yF,yG,yH,yI,yJ,yK,yL,yM,yN,yO,yP,yQ,yR,yS,yT,yU,yV,yW,yX,yY,yZ,wa,wb,wc,wd,we,wg,wj,wm,wp,wq,lA9,lB9,lC9,lD9,lE9,lF9,lG9,lH9,wt,lI9,lJ9,lK9,lL9,lM9,lN9,lO9,lP9,lQ9,lR9,lS9,lT9,↓reduceIte,Nat.reduceAdd,Nat.reduceLeDiff]) (by omega) (by omega)
    rw [List.range_eq_range', f1] at hf
    rw [Row.pv]
    unfold fb__law_gone_0
    simp -implicitDefEqProofs (disch := omega) only [za,zb,zc,zd,ze,zf,zg,zh,zi,zj,zk,zm,zn,zo,zp,zq,zt,zu,zv,zw,zx,zy,zA,zB,zC,zD,zE,zF,zG,zH,zI,zJ,zK,zL,zM,zN,zO,zP,zQ,zR,zS,zT,zU,zV,zW,zX,zY,zZ,ya,yb,yc,yd,ye,yf,yg,yh,yi,yj,yk,yl,ym,yn,yo,yp,yq,yr,yt,yu,yv,yw,yx,yy,yz,yA,yB,yC,yD,yE,yF,yG,yH,yI,yJ,yK,yL,yM,yN,yO,yP,yQ,yR,yS,yT,yU,yV,yW,yX,yY,yZ,wa,wb,wc,wd,we,wg,wj,wm,wp,wq,lA9,lB9,lC9,lD9,lE9,lF9,lG9,lH9,wt,lI9,lJ9,lK9,lL9,lM9,lN9,lO9,lP9,lQ9,lR9,lS9,lT9,↓reduceIte,Nat.reduceAdd,Nat.reduceLeDiff, x_body, k_as, k_at, k_ac, d1, hf]
  | call x f ts =>
    unfold Row.Gd at g
    have hcl' := hcl
    unfold Row.Cl at hcl'
    obtain ⟨h, hm', e1, e2⟩ := hcl'
    subst e1
    have d1 : decide (("call" : Str) = "call") = true := by decide
    have hmf : h ∈ fs := List.mem_of_mem_take hm'
    obtain ⟨V, hV⟩ : ∃ V, V = ts.map (Trm.wo (celE l)) := ⟨_, rfl⟩
    have lts : ts.length ≤ 1000000 := by
      have := hp h hmf
      omega
    have lV : V.length = h.pars.length := by rw [hV, List.length_map, e2]
    have rV : ∀ v ∈ V, Rg v := fun v hv => by
      rw [hV] at hv
      obtain ⟨t, ht, rfl⟩ := List.mem_map.mp hv
      exact wo_rg C t (g.2.2 t ht).1
    have ego : Row.go E (.call x h.name ts) (celE l, told) = (updO (celE l) x (callS E h V).1, told ++ (callS E h V).2) := by
      rw [Row.go, hV, ← hS h hm']
    rw [ego] at hL ⊢
    have hL : (told ++ (callS E h V).2).length ≤ 490000 := hL
    rw [List.length_append] at hL
    obtain ⟨st1, f1, t1, ln1, el1⟩ := hF h hm' ts x rfl st b told V S.tl S.bl lV rV hL
    have S1 : Sts st1 a b l (told ++ (callS E h V).2) := ⟨by
      have := el1 a S.ab
      show st1.getD a .non = _
      rw [List.getD_eq_getElem?_getD, this, ← List.getD_eq_getElem?_getD]; exact S.cl, t1, S.ab, by rw [ln1]; exact S.al, by rw [ln1]; exact S.bl⟩
    have T1 : Stp st st1 a b := ⟨ln1, fun k _ h2 => el1 k h2⟩
    have cw : ∀ (y5 y6 y7 y8 y9 y10 : Option PV), eComp (iSeq (eBin vIx (eVar 4) (eC (.int 3)))) (gName 9) tTrue (eApp (Fm D m i__law_worth) (aCons (eVar 9) (aCons (eVar 2) aNil))) [9] (eG (.tup (fs.map Fnc.pv)) R a b (some (.tup [.str "call", optS x, .str h.name, .tup (ts.map Trm.pv)])) y5 y6 y7 y8 y9 y10) st = .ok (.lst (V.map PV.int)) st := fun y5 y6 y7 y8 y9 y10 => by
      rw [comp_enc0 (j := .seq (.tup (ts.map Trm.pv))) (l := ts) (enc := Trm.pv) (res := fun t => PV.int (t.wo (celE l))) (i_tup (by simp -implicitDefEqProofs (disch := omega) only [za,zb,zc,zd,ze,zf,zg,zh,zi,zj,zk,zm,zn,zo,zp,zq,zt,zu,zv,zw,zx,zy,zA,zB,zC,zD,zE,zF,zG,zH,zI,zJ,zK,zL,zM,zN,zO,zP,zQ,zR,zS,zT,zU,zV,zW,zX,zY,zZ,ya,yb,yc,yd,ye,yf,yg,yh,yi,yj,yk,yl,ym,yn,yo,yp,yq,yr,yt,yu,yv,yw,yx,yy,yz,yA,yB,yC,yD,yE,yF,yG,yH,yI,yJ,yK,yL,yM,yN,yO,yP,yQ,yR,yS,yT,yU,yV,yW,yX,yY,yZ,wa,wb,wc,wd,we,wg,wj,wm,wp,wq,lA9,lB9,lC9,lD9,lE9,lF9,lG9,lH9,wt,lI9,lJ9,lK9,lL9,lM9,lN9,lO9,lP9,lQ9,lR9,lS9,lT9,↓reduceIte,Nat.reduceAdd,Nat.reduceLeDiff])) (fun _ => rfl) lts (fun t ht => by
        have vw := F_worth S.cl C t (g.2.2 t ht).1 m (by have := (g.2.2 t ht).2; omega)
        simp -implicitDefEqProofs (disch := omega) only [za,zb,zc,zd,ze,zf,zg,zh,zi,zj,zk,zm,zn,zo,zp,zq,zt,zu,zv,zw,zx,zy,zA,zB,zC,zD,zE,zF,zG,zH,zI,zJ,zK,zL,zM,zN,zO,zP,zQ,zR,zS,zT,zU,zV,zW,zX,zY,zZ,ya,yb,yc,yd,ye,yf,yg,yh,yi,yj,yk,yl,ym,yn,yo,yp,yq,yr,yt,yu,yv,yw,yx,yy,yz,yA,yB,yC,yD,yE,yF,yG,yH,yI,yJ,yK,yL,yM,yN,yO,yP,yQ,yR,yS,yT,yU,yV,yW,yX,yY,yZ,wa,wb,wc,wd,we,wg,wj,wm,wp,wq,lA9,lB9,lC9,lD9,lE9,lF9,lG9,lH9,wt,lI9,lJ9,lK9,lL9,lM9,lN9,lO9,lP9,lQ9,lR9,lS9,lT9,↓reduceIte,Nat.reduceAdd,Nat.reduceLeDiff, vw]), hV, List.map_map]
      rfl
    have cf : ∀ (y5 y6 y7 y8 y9 y10 : Option PV), eComp (iSeq (eVar 0)) (gName 10) (eBin (vEqF false) (eBin vIx (eVar 10) (eC (.int 0))) (eBin vIx (eVar 4) (eC (.int 2)))) (eVar 10) [10] (eG (.tup (fs.map Fnc.pv)) R a b (some (.tup [.str "call", optS x, .str h.name, .tup (ts.map Trm.pv)])) y5 y6 y7 y8 y9 y10) st = .ok (.lst [h.pv]) st := fun y5 y6 y7 y8 y9 y10 => by
      rw [comp_enc1 (j := .seq (.tup (fs.map Fnc.pv))) (l := fs) (enc := Fnc.pv) (p := fun q => decide (q.name = h.name)) (res := Fnc.pv) (i_tup (by simp -implicitDefEqProofs (disch := omega) only [za,zb,zc,zd,ze,zf,zg,zh,zi,zj,zk,zm,zn,zo,zp,zq,zt,zu,zv,zw,zx,zy,zA,zB,zC,zD,zE,zF,zG,zH,zI,zJ,zK,zL,zM,zN,zO,zP,zQ,zR,zS,zT,zU,zV,zW,zX,zY,zZ,ya,yb,yc,yd,ye,yf,yg,yh,yi,yj,yk,yl,ym,yn,yo,yp,yq,yr,yt,yu,yv,yw,yx,yy,yz,yA,yB,yC,yD,yE,yF,yG,yH,yI,yJ,yK,yL,yM,yN,yO,yP,yQ,yR,yS,yT,yU,yV,yW,yX,yY,yZ,wa,wb,wc,wd,we,wg,wj,wm,wp,wq,lA9,lB9,lC9,lD9,lE9,lF9,lG9,lH9,wt,lI9,lJ9,lK9,lL9,lM9,lN9,lO9,lP9,lQ9,lR9,lS9,lT9,↓reduceIte,Nat.reduceAdd,Nat.reduceLeDiff])) (fun _ => rfl) (by omega) (fun q _ => by
        simp -implicitDefEqProofs (disch := omega) only [za,zb,zc,zd,ze,zf,zg,zh,zi,zj,zk,zm,zn,zo,zp,zq,zt,zu,zv,zw,zx,zy,zA,zB,zC,zD,zE,zF,zG,zH,zI,zJ,zK,zL,zM,zN,zO,zP,zQ,zR,zS,zT,zU,zV,zW,zX,zY,zZ,ya,yb,yc,yd,ye,yf,yg,yh,yi,yj,yk,yl,ym,yn,yo,yp,yq,yr,yt,yu,yv,yw,yx,yy,yz,yA,yB,yC,yD,yE,yF,yG,yH,yI,yJ,yK,yL,yM,yN,yO,yP,yQ,yR,yS,yT,yU,yV,yW,yX,yY,yZ,wa,wb,wc,wd,we,wg,wj,wm,wp,wq,lA9,lB9,lC9,lD9,lE9,lF9,lG9,lH9,wt,lI9,lJ9,lK9,lL9,lM9,lN9,lO9,lP9,lQ9,lR9,lS9,lT9,↓reduceIte,Nat.reduceAdd,Nat.reduceLeDiff, v_f0]) (fun q _ _ => by
        simp -implicitDefEqProofs (disch := omega) only [za,zb,zc,zd,ze,zf,zg,zh,zi,zj,zk,zm,zn,zo,zp,zq,zt,zu,zv,zw,zx,zy,zA,zB,zC,zD,zE,zF,zG,zH,zI,zJ,zK,zL,zM,zN,zO,zP,zQ,zR,zS,zT,zU,zV,zW,zX,zY,zZ,ya,yb,yc,yd,ye,yf,yg,yh,yi,yj,yk,yl,ym,yn,yo,yp,yq,yr,yt,yu,yv,yw,yx,yy,yz,yA,yB,yC,yD,yE,yF,yG,yH,yI,yJ,yK,yL,yM,yN,yO,yP,yQ,yR,yS,yT,yU,yV,yW,yX,yY,yZ,wa,wb,wc,wd,we,wg,wj,wm,wp,wq,lA9,lB9,lC9,lD9,lE9,lF9,lG9,lH9,wt,lI9,lJ9,lK9,lL9,lM9,lN9,lO9,lP9,lQ9,lR9,lS9,lT9,↓reduceIte,Nat.reduceAdd,Nat.reduceLeDiff]), filter_one nd hmf]
      rfl
    cases x with
    | none =>
      have e0 : optS none = PV.non := rfl
      rw [e0] at cw cf
      refine ⟨st1, l, some (.lst (V.map PV.int)), some h.pv, some (.int (callS E h V).1), z8, ?_, T1, S1, K, rfl⟩
      rw [Row.pv, e0]
      unfold fb__law_gone_0
      simp -implicitDefEqProofs (disch := omega) only [za,zb,zc,zd,ze,zf,zg,zh,zi,zj,zk,zm,zn,zo,zp,zq,zt,zu,zv,zw,zx,zy,zA,zB,zC,zD,zE,zF,zG,zH,zI,zJ,zK,zL,zM,zN,zO,zP,zQ,zR,zS,zT,zU,zV,zW,zX,zY,zZ,ya,yb,yc,yd,ye,yf,yg,yh,yi,yj,yk,yl,ym,yn,yo,yp,yq,yr,yt,yu,yv,yw,yx,yy,yz,yA,yB,yC,yD,yE,yF,yG,yH,yI,yJ,yK,yL,yM,yN,yO,yP,yQ,yR,yS,yT,yU,yV,yW,yX,yY,yZ,wa,wb,wc,wd,we,wg,wj,wm,wp,wq,lA9,lB9,lC9,lD9,lE9,lF9,lG9,lH9,wt,lI9,lJ9,lK9,lL9,lM9,lN9,lO9,lP9,lQ9,lR9,lS9,lT9,↓reduceIte,Nat.reduceAdd,Nat.reduceLeDiff, x_body, k_cs, k_ct, d1, cw, cf, f1, Vm.isNon]
    | some y =>
      have e0 : optS (some y) = PV.str y := rfl
      rw [e0] at cw cf
      have hy : y ∈ ws := tgt_in hin y rfl
      have N2 := S1.put K hy (callS E h V).1
      refine ⟨_, _, some (.lst (V.map PV.int)), some h.pv, some (.int (callS E h V).1), z8, ?_, T1.then N2.sp, N2.st, N2.ko, N2.ce⟩
      have pt := r_put (enc := PV.int) (d := eVar 2) (k := eBin vIx (eVar 4) (eC (.int 1))) (v := eVar 7) (env := eG (.tup (fs.map Fnc.pv)) R a b (some (.tup [.str "call", .str y, .str h.name, .tup (ts.map Trm.pv)])) (some (.lst (V.map PV.int))) (some h.pv) (some (.int (callS E h V).1)) z8 z9 z10) (st := st1) (st1 := st1) (st2 := st1) (st3 := st1) (n := a) (x := y) (a := (callS E h V).1) (l := l)
        (by simp -implicitDefEqProofs (disch := omega) only [za,zb,zc,zd,ze,zf,zg,zh,zi,zj,zk,zm,zn,zo,zp,zq,zt,zu,zv,zw,zx,zy,zA,zB,zC,zD,zE,zF,zG,zH,zI,zJ,zK,zL,zM,zN,zO,zP,zQ,zR,zS,zT,zU,zV,zW,zX,zY,zZ,ya,yb,yc,yd,ye,yf,yg,yh,yi,yj,yk,yl,ym,yn,yo,yp,yq,yr,yt,yu,yv,yw,yx,yy,yz,yA,yB,yC,yD,yE,yF,yG,yH,yI,yJ,yK,yL,yM,yN,yO,yP,yQ,yR,yS,yT,yU,yV,yW,yX,yY,yZ,wa,wb,wc,wd,we,wg,wj,wm,wp,wq,lA9,lB9,lC9,lD9,lE9,lF9,lG9,lH9,wt,lI9,lJ9,lK9,lL9,lM9,lN9,lO9,lP9,lQ9,lR9,lS9,lT9,↓reduceIte,Nat.reduceAdd,Nat.reduceLeDiff]) (by simp -implicitDefEqProofs (disch := omega) only [za,zb,zc,zd,ze,zf,zg,zh,zi,zj,zk,zm,zn,zo,zp,zq,zt,zu,zv,zw,zx,zy,zA,zB,zC,zD,zE,zF,zG,zH,zI,zJ,zK,zL,zM,zN,zO,zP,zQ,zR,zS,zT,zU,zV,zW,zX,zY,zZ,ya,yb,yc,yd,ye,yf,yg,yh,yi,yj,yk,yl,ym,yn,yo,yp,yq,yr,yt,yu,yv,yw,yx,yy,yz,yA,yB,yC,yD,yE,yF,yG,yH,yI,yJ,yK,yL,yM,yN,yO,yP,yQ,yR,yS,yT,yU,yV,yW,yX,yY,yZ,wa,wb,wc,wd,we,wg,wj,wm,wp,wq,lA9,lB9,lC9,lD9,lE9,lF9,lG9,lH9,wt,lI9,lJ9,lK9,lL9,lM9,lN9,lO9,lP9,lQ9,lR9,lS9,lT9,↓reduceIte,Nat.reduceAdd,Nat.reduceLeDiff]) (by simp -implicitDefEqProofs (disch := omega) only [za,zb,zc,zd,ze,zf,zg,zh,zi,zj,zk,zm,zn,zo,zp,zq,zt,zu,zv,zw,zx,zy,zA,zB,zC,zD,zE,zF,zG,zH,zI,zJ,zK,zL,zM,zN,zO,zP,zQ,zR,zS,zT,zU,zV,zW,zX,zY,zZ,ya,yb,yc,yd,ye,yf,yg,yh,yi,yj,yk,yl,ym,yn,yo,yp,yq,yr,yt,yu,yv,yw,yx,yy,yz,yA,yB,yC,yD,yE,yF,yG,yH,yI,yJ,yK,yL,yM,yN,yO,yP,yQ,yR,yS,yT,yU,yV,yW,yX,yY,yZ,wa,wb,wc,wd,we,wg,wj,wm,wp,wq,lA9,lB9,lC9,lD9,lE9,lF9,lG9,lH9,wt,lI9,lJ9,lK9,lL9,lM9,lN9,lO9,lP9,lQ9,lR9,lS9,lT9,↓reduceIte,Nat.reduceAdd,Nat.reduceLeDiff]) S1.cl (by omega) rfl
      rw [Row.pv, e0]
      unfold fb__law_gone_0
      simp -implicitDefEqProofs (disch := omega) only [za,zb,zc,zd,ze,zf,zg,zh,zi,zj,zk,zm,zn,zo,zp,zq,zt,zu,zv,zw,zx,zy,zA,zB,zC,zD,zE,zF,zG,zH,zI,zJ,zK,zL,zM,zN,zO,zP,zQ,zR,zS,zT,zU,zV,zW,zX,zY,zZ,ya,yb,yc,yd,ye,yf,yg,yh,yi,yj,yk,yl,ym,yn,yo,yp,yq,yr,yt,yu,yv,yw,yx,yy,yz,yA,yB,yC,yD,yE,yF,yG,yH,yI,yJ,yK,yL,yM,yN,yO,yP,yQ,yR,yS,yT,yU,yV,yW,yX,yY,yZ,wa,wb,wc,wd,we,wg,wj,wm,wp,wq,lA9,lB9,lC9,lD9,lE9,lF9,lG9,lH9,wt,lI9,lJ9,lK9,lL9,lM9,lN9,lO9,lP9,lQ9,lR9,lS9,lT9,↓reduceIte,Nat.reduceAdd,Nat.reduceLeDiff, x_body, k_cs, k_ct, d1, cw, cf, f1, Vm.isNon, pt]
theorem rows_run {i : Nat} (hS : ∀ h ∈ fs.take i, E h.name = callS E h) {R : PV} {a b : Nat} : ∀ (rs : List Row), Row.Gds rs → Row.Ins ws rs → Row.Cls (CalF (fs.take i)) rs → (∀ r ∈ rs, hasB r = true → GoneOk fs E ws (blkF r) m) → (∀ h ∈ fs.take i, ∀ ts x, Row.call x h.name ts ∈ rs → CalledOk fs E h m) →
    ∀ (st : VSt) (l : List (Str × Int)) (told : List Int), Sts st a b l told → KOk ws l → RgC (celE l) → (Row.gos E rs (celE l, told)).2.length ≤ 490000 → ∀ (z4 z5 z6 z7 z8 z9 z10 : Option PV),
    ∃ st' l' y4 y5 y6 y7 y8, forL (bodyP (gName 4) (fb__law_gone_0 (Fm D m))) (Row.pvs rs) (eG (.tup (fs.map Fnc.pv)) R a b z4 z5 z6 z7 z8 z9 z10) st = .nx (eG (.tup (fs.map Fnc.pv)) R a b y4 y5 y6 y7 y8 z9 z10) st' ∧ Nxt ws st a b st' l' (Row.gos E rs (celE l, told))
  | [], _, _, _, _, _, st, l, told, S, K, C, _, z4, z5, z6, z7, z8, z9, z10 => ⟨st, l, z4, z5, z6, z7, z8, by rw [pvs_map]; rfl, by rw [gos_nil]; exact ⟨Stp.refl, S, K, rfl⟩⟩
  | r :: rs, g, hin, hcl, hB, hF, st, l, told, S, K, C, hL, z4, z5, z6, z7, z8, z9, z10 => by
    have g1 := gd_mem g (r := r) List.mem_cons_self
    have i1 := in_mem hin (r := r) List.mem_cons_self
    rw [gds_cons] at g
    rw [cls_cons] at hcl
    have hin2 : Row.Ins ws rs := ins_all fun q hq => in_mem hin (List.mem_cons_of_mem _ hq)
    rw [gos_cons] at hL ⊢
    have ex := gos_ext (E := E) rs (Row.go E r (celE l, told))
    obtain ⟨st1, l1, y5, y6, y7, y8, f1, N1⟩ := row_run hE hw nd hln hp hm hS g.1 i1 hcl.1 (hB r List.mem_cons_self) (fun h hm ts x e => hF h hm ts x (by rw [← e]; exact List.mem_cons_self)) (R := R) S K C (by omega) z4 z5 z6 z7 z8 z9 z10
    have es : (celE l1, (Row.go E r (celE l, told)).2) = Row.go E r (celE l, told) := by rw [N1.ce]
    obtain ⟨st2, l2, x4, x5, x6, x7, x8, f2, N2⟩ := rows_run hS (R := R) rs g.2 hin2 hcl.2 (fun q hq => hB q (List.mem_cons_of_mem _ hq)) (fun h hm ts x e => hF h hm ts x (List.mem_cons_of_mem _ e)) st1 l1 (Row.go E r (celE l, told)).2 N1.st N1.ko (by rw [N1.ce]; exact go_rg hE r g.1 _ C) (by rw [es]; exact hL) (some r.pv) y5 y6 y7 y8 z9 z10
    rw [es] at N2
    refine ⟨st2, l2, x4, x5, x6, x7, x8, ?_, N1.then N2⟩
    rw [pvs_map, List.map_cons, forL_cons, f1, ← pvs_map]
    exact f2
theorem gone_run {i : Nat} (hS : ∀ h ∈ fs.take i, E h.name = callS E h) {rs : List Row} (g : Row.Gds rs) (hin : Row.Ins ws rs) (hcl : Row.Cls (CalF (fs.take i)) rs) (hB : ∀ r ∈ rs, hasB r = true → GoneOk fs E ws (blkF r) m) (hF : ∀ h ∈ fs.take i, ∀ ts x, Row.call x h.name ts ∈ rs → CalledOk fs E h m) : GoneOk fs E ws rs (m + 1) := fun st a b l told S K C hL => by
  obtain ⟨st', l', y4, y5, y6, y7, y8, f1, N⟩ := rows_run hE hw nd hln hp hm hS (R := .tup (Row.pvs rs)) rs g hin hcl hB hF st l told S K C hL none none none none none none none
  refine ⟨st', l', ?_, N⟩
  have hf := Vm.for_tup (a := eVar 1) (g := gName 4) (body := fb__law_gone_0 (Fm D m)) (xs := Row.pvs rs) (env := eG (.tup (fs.map Fnc.pv)) (.tup (Row.pvs rs)) a b none none none none none none none) (st := st) (st' := st) rfl
  rw [f1] at hf
  have tk : st'.take st.length = st' := by rw [← N.sp.ln]; exact List.take_length
  rw [c__law_gone, b__law_gone_q]
  unfold q__law_gone_0
  simp -implicitDefEqProofs (disch := omega) only [za,zb,zc,zd,ze,zf,zg,zh,zi,zj,zk,zm,zn,zo,zp,zq,zt,zu,zv,zw,zx,zy,zA,zB,zC,zD,zE,zF,zG,zH,zI,zJ,zK,zL,zM,zN,zO,zP,zQ,zR,zS,zT,zU,zV,zW,zX,zY,zZ,ya,yb,yc,yd,ye,yf,yg,yh,yi,yj,yk,yl,ym,yn,yo,yp,yq,yr,yt,yu,yv,yw,yx,yy,yz,yA,yB,yC,yD,yE,yF,yG,yH,yI,yJ,yK,yL,yM,yN,yO,yP,yQ,yR,yS,yT,yU,yV,yW,yX,yY,yZ,wa,wb,wc,wd,we,wg,wj,wm,wp,wq,lA9,lB9,lC9,lD9,lE9,lF9,lG9,lH9,wt,lI9,lJ9,lK9,lL9,lM9,lN9,lO9,lP9,lQ9,lR9,lS9,lT9,↓reduceIte,Nat.reduceAdd,Nat.reduceLeDiff, hf, tk]
end
end Lk
namespace Lk
open PySem L2 Vm
theorem put_loop {fs : List Fnc} {h : Fnc} {m b : Nat} {ws : List Str} (hp : ∀ x ∈ h.pars, x ∈ ws) (hw : ws.length < 64) {vs : List Int} (lv : vs.length = h.pars.length) (hl : vs.length ≤ 100) : ∀ (r j : Nat), j + r = vs.length → ∀ (st : VSt) (l : List (Str × Int)) (z5 : Option PV), deref (st ++ [dE PV.int l]) (.loc st.length) = dE PV.int l → KOk ws l →
    ∃ l' y5, forL (bodyP (gName 5) (fb__law_called_0 (Fm D m))) ((List.range' j r).map fun (k : Nat) => .int (0 + (k : Int))) [some (.tup (fs.map Fnc.pv)), some h.pv, some (.lst (vs.map PV.int)), some (.loc b), some (.loc st.length), z5] (st ++ [dE PV.int l]) = .nx [some (.tup (fs.map Fnc.pv)), some h.pv, some (.lst (vs.map PV.int)), some (.loc b), some (.loc st.length), y5] (st ++ [dE PV.int l']) ∧ KOk ws l' ∧ celE l' = ((h.pars.drop j).zip (vs.drop j)).foldl (fun c p => updC c p.1 p.2) (celE l)
  | 0, j, e, st, l, z5, hd, K => ⟨l, z5, rfl, K, by rw [List.drop_of_length_le (show vs.length ≤ j by omega), List.zip_nil_right]; rfl⟩
  | r + 1, j, e, st, l, z5, hd, K => by
    have hj : j < vs.length := by omega
    have hjp : j < h.pars.length := by omega
    have kl := K.len
    have vp : ∀ s, vIx (.tup (h.pars.map PV.str)) (.int (0 + (j : Int))) s = .ok (.str h.pars[j]) s := fun s => by
      rw [Int.zero_add]
      exact v_at (by rw [List.getElem?_map, List.getElem?_eq_getElem hjp]; rfl)
    have vv : ∀ s, vIx (.lst (vs.map PV.int)) (.int (0 + (j : Int))) s = .ok (.int vs[j]) s := fun s => by
      rw [Int.zero_add, v_ixl, at_in (by omega) (by rw [List.length_map]; omega), List.getElem_map]
      exact yT
    have pt := r_put (enc := PV.int) (d := eVar 4) (k := eBin vIx (eBin vIx (eVar 1) (eC (.int 1))) (eVar 5)) (v := eBin vIx (eVar 2) (eVar 5)) (env := [some (.tup (fs.map Fnc.pv)), some h.pv, some (.lst (vs.map PV.int)), some (.loc b), some (.loc st.length), some (.int (0 + (j : Int)))]) (st := st ++ [dE PV.int l]) (st1 := st ++ [dE PV.int l]) (st2 := st ++ [dE PV.int l]) (st3 := st ++ [dE PV.int l]) (n := st.length) (x := h.pars[j]) (a := vs[j]) (l := l)
      (by simp -implicitDefEqProofs (disch := omega) only [za,zb,zc,zd,ze,zf,zg,zh,zi,zj,zk,zm,zn,zo,zp,zq,zt,zu,zv,zw,zx,zy,zA,zB,zC,zD,zE,zF,zG,zH,zI,zJ,zK,zL,zM,zN,zO,zP,zQ,zR,zS,zT,zU,zV,zW,zX,zY,zZ,ya,yb,yc,yd,ye,yf,yg,yh,yi,yj,yk,yl,ym,yn,yo,yp,yq,yr,yt,yu,yv,yw,yx,yy,yz,yA,yB,yC,yD,yE,yF,yG,yH,yI,yJ,yK,yL,yM,yN,yO,yP,yQ,yR,yS,yT,yU,yV,yW,yX,yY,yZ,wa,wb,wc,wd,we,wg,wj,wm,wp,wq,lA9,lB9,lC9,lD9,lE9,lF9,lG9,lH9,wt,lI9,lJ9,lK9,lL9,lM9,lN9,lO9,lP9,lQ9,lR9,lS9,lT9,↓reduceIte,Nat.reduceAdd,Nat.reduceLeDiff, vv]) (by simp -implicitDefEqProofs (disch := omega) only [za,zb,zc,zd,ze,zf,zg,zh,zi,zj,zk,zm,zn,zo,zp,zq,zt,zu,zv,zw,zx,zy,zA,zB,zC,zD,zE,zF,zG,zH,zI,zJ,zK,zL,zM,zN,zO,zP,zQ,zR,zS,zT,zU,zV,zW,zX,zY,zZ,ya,yb,yc,yd,ye,yf,yg,yh,yi,yj,yk,yl,ym,yn,yo,yp,yq,yr,yt,yu,yv,yw,yx,yy,yz,yA,yB,yC,yD,yE,yF,yG,yH,yI,yJ,yK,yL,yM,yN,yO,yP,yQ,yR,yS,yT,yU,yV,yW,yX,yY,yZ,wa,wb,wc,wd,we,wg,wj,wm,wp,wq,lA9,lB9,lC9,lD9,lE9,lF9,lG9,lH9,wt,lI9,lJ9,lK9,lL9,lM9,lN9,lO9,lP9,lQ9,lR9,lS9,lT9,↓reduceIte,Nat.reduceAdd,Nat.reduceLeDiff]) (by simp -implicitDefEqProofs (disch := omega) only [za,zb,zc,zd,ze,zf,zg,zh,zi,zj,zk,zm,zn,zo,zp,zq,zt,zu,zv,zw,zx,zy,zA,zB,zC,zD,zE,zF,zG,zH,zI,zJ,zK,zL,zM,zN,zO,zP,zQ,zR,zS,zT,zU,zV,zW,zX,zY,zZ,ya,yb,yc,yd,ye,yf,yg,yh,yi,yj,yk,yl,ym,yn,yo,yp,yq,yr,yt,yu,yv,yw,yx,yy,yz,yA,yB,yC,yD,yE,yF,yG,yH,yI,yJ,yK,yL,yM,yN,yO,yP,yQ,yR,yS,yT,yU,yV,yW,yX,yY,yZ,wa,wb,wc,wd,we,wg,wj,wm,wp,wq,lA9,lB9,lC9,lD9,lE9,lF9,lG9,lH9,wt,lI9,lJ9,lK9,lL9,lM9,lN9,lO9,lP9,lQ9,lR9,lS9,lT9,↓reduceIte,Nat.reduceAdd,Nat.reduceLeDiff, v_f1, vp]) hd (by omega) rfl
    rw [set_end] at pt
    obtain ⟨l', y5, f1, K', e'⟩ := put_loop (fs := fs) (m := m) (b := b) hp hw lv hl r (j + 1) (by omega) st (putE l h.pars[j] vs[j]) (some (.int (0 + (j : Int)))) deref_end (K.put (hp _ (List.getElem_mem hjp)) _)
    refine ⟨l', y5, ?_, K', ?_⟩
    · have hb : bodyP (gName 5) (fb__law_called_0 (Fm D m)) (.int (0 + (j : Int))) [some (.tup (fs.map Fnc.pv)), some h.pv, some (.lst (vs.map PV.int)), some (.loc b), some (.loc st.length), z5] (st ++ [dE PV.int l]) = .nx [some (.tup (fs.map Fnc.pv)), some h.pv, some (.lst (vs.map PV.int)), some (.loc b), some (.loc st.length), some (.int (0 + (j : Int)))] (st ++ [dE PV.int (putE l h.pars[j] vs[j])]) := by
        unfold fb__law_called_0
        simp -implicitDefEqProofs (disch := omega) only [za,zb,zc,zd,ze,zf,zg,zh,zi,zj,zk,zm,zn,zo,zp,zq,zt,zu,zv,zw,zx,zy,zA,zB,zC,zD,zE,zF,zG,zH,zI,zJ,zK,zL,zM,zN,zO,zP,zQ,zR,zS,zT,zU,zV,zW,zX,zY,zZ,ya,yb,yc,yd,ye,yf,yg,yh,yi,yj,yk,yl,ym,yn,yo,yp,yq,yr,yt,yu,yv,yw,yx,yy,yz,yA,yB,yC,yD,yE,yF,yG,yH,yI,yJ,yK,yL,yM,yN,yO,yP,yQ,yR,yS,yT,yU,yV,yW,yX,yY,yZ,wa,wb,wc,wd,we,wg,wj,wm,wp,wq,lA9,lB9,lC9,lD9,lE9,lF9,lG9,lH9,wt,lI9,lJ9,lK9,lL9,lM9,lN9,lO9,lP9,lQ9,lR9,lS9,lT9,↓reduceIte,Nat.reduceAdd,Nat.reduceLeDiff, x_body, pt]
      rw [List.range'_succ, List.map_cons, forL_cons, hb]
      exact f1
    · rw [e', cel_put, List.drop_eq_getElem_cons hjp, List.drop_eq_getElem_cons hj, List.zip_cons_cons]
      rfl
theorem called_run {m : Nat} {fs : List Fnc} {E : Sem} (hE : RgE E) {ws : List Str} (hw : ws.length < 64) {h : Fnc} (hp : ∀ x ∈ h.pars, x ∈ ws) (hl : h.pars.length ≤ 100) (g : Row.Gds h.rows) (gt : h.res.Good OkT ∧ h.res.depth ≤ 2) (hm : 4 ≤ m) (hG : GoneOk fs E ws h.rows m) : CalledOk fs E h (m + 1) := fun st b told vs tl bl lv rv hL => by
  obtain ⟨l, y5, f1, K, ec⟩ := put_loop (fs := fs) (m := m) (b := b) hp hw lv (by omega) vs.length 0 (by omega) st [] none deref_end ⟨List.nodup_nil, fun x hx => (by cases hx)⟩
  have ec : celE l = parC h.pars vs := by rw [ec, List.drop_zero, List.drop_zero]; rfl
  have S : Sts (st ++ [dE PV.int l]) st.length b l told := ⟨deref_end, by
    show (st ++ [dE PV.int l]).getD b .non = _
    rw [List.getD_eq_getElem?_getD, List.getElem?_append_left bl, ← List.getD_eq_getElem?_getD]; exact tl, by omega, by rw [List.length_append]; exact Nat.lt_succ_self _, by rw [List.length_append]; exact Nat.lt_succ_of_lt bl⟩
  have C : RgC (celE l) := by
    rw [ec]
    exact par_rg h.pars vs _ (fun _ => ⟨Int.le_refl _, by decide⟩) rv
  have eg : Row.gos E h.rows (celE l, told) = ((Row.gos E h.rows (parC h.pars vs, [])).1, told ++ (callS E h vs).2) := by rw [ec, gos_from]; rfl
  obtain ⟨st', l', f2, N⟩ := hG (st ++ [dE PV.int l]) st.length b l told S K C (by rw [eg]; show (told ++ (callS E h vs).2).length ≤ _; rw [List.length_append]; exact hL)
  rw [eg] at N
  have C' : RgC (celE l') := by
    rw [N.ce]
    exact gos_rg hE h.rows g _ (by rw [← ec]; exact C)
  have vw := F_worth N.st.cl C' h.res gt.1 m (by have := gt.2; omega)
  have ev : h.res.wo (celE l') = (callS E h vs).1 := by rw [N.ce]; rfl
  rw [ev] at vw
  have ln' : st'.length = st.length + 1 := by rw [N.sp.ln, List.length_append]; rfl
  refine ⟨st'.take st.length, ?_, ?_, by rw [List.length_take]; omega, fun k hk => ?_⟩
  · have hf := for_rng (a := eApp vLen (aCons (eVar 2) aNil)) (g := gName 5) (body := fb__law_called_0 (Fm D m)) (i := (vs.length : Int)) (env := [some (.tup (fs.map Fnc.pv)), some h.pv, some (.lst (vs.map PV.int)), some (.loc b), some (.loc st.length), none]) (st := st ++ [dE PV.int []]) (st' := st ++ [dE PV.int []]) (by
      have : (vs.map PV.int).length = vs.length := List.length_map _
      simp -implicitDefEqProofs (disch := omega) only [za,zb,zc,zd,ze,zf,zg,zh,zi,zj,zk,zm,zn,zo,zp,zq,zt,zu,zv,zw,zx,zy,zA,zB,zC,zD,zE,zF,zG,zH,zI,zJ,zK,zL,zM,zN,zO,zP,zQ,zR,zS,zT,zU,zV,zW,zX,zY,zZ,ya,yb,yc,yd,ye,yf,yg,yh,yi,yj,yk,yl,ym,yn,yo,yp,yq,yr,yt,yu,yv,yw,yx,yy,yz,yA,yB,yC,yD,yE,yF,yG,yH,yI,yJ,yK,yL,yM,yN,yO,yP,yQ,yR,yS,yT,yU,yV,yW,yX,yY,yZ,wa,wb,wc,wd,we,wg,wj,wm,wp,wq,lA9,lB9,lC9,lD9,lE9,lF9,lG9,lH9,wt,lI9,lJ9,lK9,lL9,lM9,lN9,lO9,lP9,lQ9,lR9,lS9,lT9,↓reduceIte,Nat.reduceAdd,Nat.reduceLeDiff, this]) (by omega) (by omega)
    rw [Int.toNat_natCast, List.range_eq_range', f1] at hf
    have b0 : boxV (.dct [] []) st = .ok (.loc st.length) (st ++ [dE PV.int []]) := x_boxV rfl
    have q0 : ∀ z, q__law_called_0 (Fm D m) [some (.tup (fs.map Fnc.pv)), some h.pv, some (.lst (vs.map PV.int)), some (.loc b), none, z] st = .nx [some (.tup (fs.map Fnc.pv)), some h.pv, some (.lst (vs.map PV.int)), some (.loc b), some (.loc st.length), z] (st ++ [dE PV.int []]) := fun z => by
      unfold q__law_called_0
      simp -implicitDefEqProofs (disch := omega) only [za,zb,zc,zd,ze,zf,zg,zh,zi,zj,zk,zm,zn,zo,zp,zq,zt,zu,zv,zw,zx,zy,zA,zB,zC,zD,zE,zF,zG,zH,zI,zJ,zK,zL,zM,zN,zO,zP,zQ,zR,zS,zT,zU,zV,zW,zX,zY,zZ,ya,yb,yc,yd,ye,yf,yg,yh,yi,yj,yk,yl,ym,yn,yo,yp,yq,yr,yt,yu,yv,yw,yx,yy,yz,yA,yB,yC,yD,yE,yF,yG,yH,yI,yJ,yK,yL,yM,yN,yO,yP,yQ,yR,yS,yT,yU,yV,yW,yX,yY,yZ,wa,wb,wc,wd,we,wg,wj,wm,wp,wq,lA9,lB9,lC9,lD9,lE9,lF9,lG9,lH9,wt,lI9,lJ9,lK9,lL9,lM9,lN9,lO9,lP9,lQ9,lR9,lS9,lT9,↓reduceIte,Nat.reduceAdd,Nat.reduceLeDiff, b0]
    rw [c__law_called, b__law_called_q]
    unfold q__law_called_1 q__law_called_2 q__law_called_3
    simp -implicitDefEqProofs (disch := omega) only [za,zb,zc,zd,ze,zf,zg,zh,zi,zj,zk,zm,zn,zo,zp,zq,zt,zu,zv,zw,zx,zy,zA,zB,zC,zD,zE,zF,zG,zH,zI,zJ,zK,zL,zM,zN,zO,zP,zQ,zR,zS,zT,zU,zV,zW,zX,zY,zZ,ya,yb,yc,yd,ye,yf,yg,yh,yi,yj,yk,yl,ym,yn,yo,yp,yq,yr,yt,yu,yv,yw,yx,yy,yz,yA,yB,yC,yD,yE,yF,yG,yH,yI,yJ,yK,yL,yM,yN,yO,yP,yQ,yR,yS,yT,yU,yV,yW,yX,yY,yZ,wa,wb,wc,wd,we,wg,wj,wm,wp,wq,lA9,lB9,lC9,lD9,lE9,lF9,lG9,lH9,wt,lI9,lJ9,lK9,lL9,lM9,lN9,lO9,lP9,lQ9,lR9,lS9,lT9,↓reduceIte,Nat.reduceAdd,Nat.reduceLeDiff, q0, hf, v_f2, v_f3, f2, vw]
  · show (st'.take st.length).getD b .non = _
    rw [List.getD_eq_getElem?_getD, List.getElem?_take_of_lt bl, ← List.getD_eq_getElem?_getD]; exact N.st.tl
  · by_cases hkl : k < st.length
    · rw [List.getElem?_take_of_lt hkl, N.sp.el k (by omega) hk, List.getElem?_append_left hkl]
    · rw [List.getElem?_eq_none (by rw [List.length_take]; omega), List.getElem?_eq_none (by omega)]
section
variable {ws : List Str} {Z : Nat} {fs : List Fnc} (P : PgOk ws 23 Z fs) {W : Str → Nat} (dp : Dp W 23 fs)
include P dp
theorem gone_ok : ∀ (i : Nat), i ≤ fs.length → ∀ (d : Nat) (rs : List Row), Row.Cls (CalF (fs.take i)) rs → Row.Gds rs → Row.Ins ws rs → Row.dps W rs ≤ d → d ≤ 23 → ∀ m, d + 2 * i + 5 ≤ m → GoneOk fs (semP fs) ws rs m := by
  have hE := sem_rg fs fun f hf => ⟨(P.ok f hf).gd, (P.ok f hf).rt.1⟩
  have fx := sem_fix P.wf P.nd
  intro i
  induction i using Nat.strongRecOn with
  | ind i ih =>
    intro hi d
    induction d using Nat.strongRecOn with
    | ind d ihd =>
      intro rs cl g hin hd hd23 m hm
      obtain ⟨m, rfl⟩ := ge_add (k := 1) (n := m) (by omega)
      refine gone_run hE P.wl P.nd (by have := P.ln; omega) (fun h hh => (P.ok h hh).pl) (by omega) (i := i) (fun h hh => fx h (List.mem_of_mem_take hh)) g hin cl (fun r hr hb => ?_) fun h hh ts x hr => ?_
      · have h1 := dp_hasB (W := W) hb
        have h2 := dp_mem (W := W) hr
        exact ihd (d - 1) (by omega) (blkF r) (blk_cl (cl_mem cl hr)) (blk_gd (gd_mem g hr)) (blk_in (in_mem hin hr)) (by omega) (by omega) m (by omega)
      · obtain ⟨a, ha⟩ := List.mem_iff_getElem?.mp hh
        have hlt := (List.getElem?_eq_some_iff.mp ha).1
        rw [List.length_take] at hlt
        rw [List.getElem?_take_of_lt (by omega)] at ha
        have hm' := List.mem_of_getElem? ha
        have k := P.ok h hm'
        have d1 := dp h hm'
        have d2 := dp_mem (W := W) hr
        rw [Row.dp] at d2
        obtain ⟨m, rfl⟩ := ge_add (k := 1) (n := m) (by omega)
        exact called_run hE P.wl k.ps k.pl k.gd k.rt (by omega) (ih a (by omega) (by omega) d h.rows (P.wf a h ha) k.gd k.ri (by omega) hd23 m (by omega))
theorem called_ok {h : Fnc} (hh : h ∈ fs) {m : Nat} (hm : 30 + 2 * fs.length ≤ m) : CalledOk fs (semP fs) h m := by
  have hE := sem_rg fs fun f hf => ⟨(P.ok f hf).gd, (P.ok f hf).rt.1⟩
  obtain ⟨a, ha⟩ := List.mem_iff_getElem?.mp hh
  have hlt := (List.getElem?_eq_some_iff.mp ha).1
  have k := P.ok h hh
  have d1 := dp h hh
  obtain ⟨m, rfl⟩ := ge_add (k := 1) (n := m) (by omega)
  exact called_run hE P.wl k.ps k.pl k.gd k.rt (by omega) (gone_ok P dp a (by omega) 23 h.rows (P.wf a h ha) k.gd k.ri (by omega) (Nat.le_refl _) m (by omega))
end
end Lk
namespace Lk
open PySem L2 Vm
def runS (sp : List Int → Int × List Int) (xs : List Int) : List Int := (sp (xs.map fun x => x % 1000003)).2 ++ [(sp (xs.map fun x => x % 1000003)).1]
theorem v_lastt {xs : List PV} {x : PV} {st : VSt} : vIx (.tup (xs ++ [x])) (.int (-1)) st = .ok x st := by
  rw [v_ixt]
  have : atI (xs ++ [x]) (-1) = some x := by
    have ix : ixN (xs ++ [x]).length (-1) = some xs.length := by
      rw [List.length_append]
      unfold ixN
      rw [if_neg (by decide), if_pos (by show -((xs.length + 1 : Nat) : Int) ≤ -1; omega)]
      congr 1
      show (-1 + ((xs.length + 1 : Nat) : Int)).toNat = xs.length
      omega
    unfold atI
    rw [ix]
    show (xs ++ [x])[xs.length]? = some x
    rw [List.getElem?_append_right (Nat.le_refl _), Nat.sub_self]; rfl
  rw [this]
  exact yT
theorem last_fnc {fs : List Fnc} {n : Nat} {sp : List Int → Int × List Int} (h : Say n sp fs) : ∃ gs f, fs = gs ++ [f] ∧ f.pars.length = n ∧ semP fs f.name = sp := by
  obtain ⟨nm, h1, h2⟩ := h
  have ne : fs ≠ [] := fun z => by rw [z] at h1; cases h1
  have e := List.dropLast_concat_getLast ne
  refine ⟨fs.dropLast, fs.getLast ne, e.symm, ?_⟩
  rw [← e, List.map_append] at h1
  have h3 : some (hdF (fs.getLast ne)) = some (nm, n) := by rw [← h1]; exact (List.getLast?_concat).symm
  have h3 := Option.some.inj h3
  exact ⟨congrArg Prod.snd h3, by rw [show (fs.getLast ne).name = nm from congrArg Prod.fst h3]; exact h2⟩
theorem int_pures : ∀ xs : List Int, pures (xs.map PV.int) = true
  | [] => rfl
  | x :: xs => int_pures xs
theorem F_run {ws : List Str} {Z : Nat} {fs : List Fnc} (P : PgOk ws 23 Z fs) {W : Str → Nat} (dp : Dp W 23 fs) {n : Nat} {sp : List Int → Int × List Int} (h : Say n sp fs) (hs : ∀ vs, (sp vs).2.length ≤ 490000) {xs : List Int} (lx : xs.length = n) {m : Nat} (hm : 31 + 2 * fs.length ≤ m) (st : VSt) :
    Fm D m i__law_run [.tup (fs.map Fnc.pv), .lst (xs.map PV.int)] st = .ok (.lst ((runS sp xs).map PV.int)) st := by
  obtain ⟨m, rfl⟩ := ge_add (k := 1) (n := m) (by omega)
  obtain ⟨gs, f, efs, ln, esp⟩ := last_fnc h
  have hf : f ∈ fs := by rw [efs]; exact List.mem_append_right _ List.mem_cons_self
  have k := P.ok f hf
  have kpl := k.pl
  have fx : sp = callS (semP fs) f := by rw [← esp]; exact sem_fix P.wf P.nd f hf
  obtain ⟨V, hV⟩ : ∃ V, V = xs.map fun x => x % 1000003 := ⟨_, rfl⟩
  have lV : V.length = f.pars.length := by rw [hV, List.length_map, lx, ln]
  have d0 : deref (st ++ [PV.lst []]) (.loc st.length) = .lst (([] : List Int).map PV.int) := deref_end
  have hV2 := hs V
  obtain ⟨st1, f1, t1, l1, el1⟩ := called_ok P dp hf (m := m) (by omega) (st ++ [.lst []]) st.length [] V d0 (by rw [List.length_append]; exact Nat.lt_succ_self _) lV (fun v hv => by
    rw [hV] at hv
    obtain ⟨x, _, rfl⟩ := List.mem_map.mp hv
    exact rg_mod x) (by rw [← fx]; show 0 + _ ≤ _; omega)
  rw [← fx] at f1 t1
  have l1 : st1.length = st.length + 1 := by rw [l1, List.length_append]; rfl
  have tk : st1.take st.length = st := List.ext_getElem? fun i => by
    by_cases hi : i < st.length
    · rw [List.getElem?_take_of_lt hi, el1 i (by omega), List.getElem?_append_left hi]
    · rw [List.getElem?_eq_none (by rw [List.length_take]; omega), List.getElem?_eq_none (by omega)]
  have b0 : boxV (.lst []) st = .ok (.loc st.length) (st ++ [.lst []]) := x_boxV rfl
  have vl : ∀ s, vIx (.tup (fs.map Fnc.pv)) (.int (-1)) s = .ok f.pv s := fun s => by
    rw [efs, List.map_append]; exact v_lastt
  have cm : ∀ (z2 z3 z4 : Option PV) s, eComp (iSeq (eVar 1)) (gName 4) tTrue (eBin vMod (eVar 4) (eC (.int 1000003))) [4] [some (.tup (fs.map Fnc.pv)), some (.lst (xs.map PV.int)), z2, z3, z4] s = .ok (.lst (V.map PV.int)) s := fun z2 z3 z4 s => by
    rw [comp_enc0 (j := .seq (.lst (xs.map PV.int))) (l := xs) (enc := PV.int) (res := fun x => PV.int (x % 1000003)) (i_lst (by simp -implicitDefEqProofs (disch := omega) only [za,zb,zc,zd,ze,zf,zg,zh,zi,zj,zk,zm,zn,zo,zp,zq,zt,zu,zv,zw,zx,zy,zA,zB,zC,zD,zE,zF,zG,zH,zI,zJ,zK,zL,zM,zN,zO,zP,zQ,zR,zS,zT,zU,zV,zW,zX,zY,zZ,ya,yb,yc,yd,ye,yf,yg,yh,yi,yj,yk,yl,ym,yn,yo,yp,yq,yr,yt,yu,yv,yw,yx,yy,yz,yA,yB,yC,yD,yE,yF,yG,yH,yI,yJ,yK,yL,yM,yN,yO,yP,yQ,yR,yS,yT,yU,yV,yW,yX,yY,yZ,wa,wb,wc,wd,we,wg,wj,wm,wp,wq,lA9,lB9,lC9,lD9,lE9,lF9,lG9,lH9,wt,lI9,lJ9,lK9,lL9,lM9,lN9,lO9,lP9,lQ9,lR9,lS9,lT9,↓reduceIte,Nat.reduceAdd,Nat.reduceLeDiff])) (fun _ => rfl) (by omega) (fun x _ => by
      simp -implicitDefEqProofs (disch := omega) only [za,zb,zc,zd,ze,zf,zg,zh,zi,zj,zk,zm,zn,zo,zp,zq,zt,zu,zv,zw,zx,zy,zA,zB,zC,zD,zE,zF,zG,zH,zI,zJ,zK,zL,zM,zN,zO,zP,zQ,zR,zS,zT,zU,zV,zW,zX,zY,zZ,ya,yb,yc,yd,ye,yf,yg,yh,yi,yj,yk,yl,ym,yn,yo,yp,yq,yr,yt,yu,yv,yw,yx,yy,yz,yA,yB,yC,yD,yE,yF,yG,yH,yI,yJ,yK,yL,yM,yN,yO,yP,yQ,yR,yS,yT,yU,yV,yW,yX,yY,yZ,wa,wb,wc,wd,we,wg,wj,wm,wp,wq,lA9,lB9,lC9,lD9,lE9,lF9,lG9,lH9,wt,lI9,lJ9,lK9,lL9,lM9,lN9,lO9,lP9,lQ9,lR9,lS9,lT9,↓reduceIte,Nat.reduceAdd,Nat.reduceLeDiff]), hV, List.map_map]
    rfl
  have va : vAdd (.loc st.length) (.lst [.int (sp V).1]) st1 = .ok (.lst ((runS sp xs).map PV.int)) st1 := by
    show vCat (.loc st.length) (.lst [.int (sp V).1]) st1 = _
    unfold vCat
    rw [t1]
    show (if (([] ++ (sp V).2).map PV.int).length + 1 ≤ 1000000 then Res.ok (PV.lst ((([] ++ (sp V).2).map PV.int) ++ [.int (sp V).1])) st1 else .bad) = _
    rw [List.nil_append, if_pos (by rw [List.length_map]; omega)]
    unfold runS
    rw [List.map_append, ← hV]; rfl
  have fz : freeze st1 st.length (.lst ((runS sp xs).map PV.int)) = .lst ((runS sp xs).map PV.int) := fz_lst (int_pures _)
  rw [c__law_run, b__law_run_q]
  unfold q__law_run_0 q__law_run_1 q__law_run_2
  simp -implicitDefEqProofs (disch := omega) only [za,zb,zc,zd,ze,zf,zg,zh,zi,zj,zk,zm,zn,zo,zp,zq,zt,zu,zv,zw,zx,zy,zA,zB,zC,zD,zE,zF,zG,zH,zI,zJ,zK,zL,zM,zN,zO,zP,zQ,zR,zS,zT,zU,zV,zW,zX,zY,zZ,ya,yb,yc,yd,ye,yf,yg,yh,yi,yj,yk,yl,ym,yn,yo,yp,yq,yr,yt,yu,yv,yw,yx,yy,yz,yA,yB,yC,yD,yE,yF,yG,yH,yI,yJ,yK,yL,yM,yN,yO,yP,yQ,yR,yS,yT,yU,yV,yW,yX,yY,yZ,wa,wb,wc,wd,we,wg,wj,wm,wp,wq,lA9,lB9,lC9,lD9,lE9,lF9,lG9,lH9,wt,lI9,lJ9,lK9,lL9,lM9,lN9,lO9,lP9,lQ9,lR9,lS9,lT9,↓reduceIte,Nat.reduceAdd,Nat.reduceLeDiff, b0, vl, cm, f1, va, fz, tk]
theorem in_loop {ns : List Int} {at_ m : Nat} (hm : 20 ≤ m) {P : PV} : ∀ (r j : Nat) (acc : List Int), acc.length + r ≤ 1000 → ∃ out : List Int, out.length = acc.length + r ∧ ∀ (st : VSt) (z4 z5 : Option PV), ∃ y4 y5,
    forL (bodyP (gName 4) (fb__law_inputs_0 (Fm D m))) ((List.range' j r).map fun (k : Nat) => .int (0 + (k : Int))) [some (.scr ns), some (.int (at_ : Int)), some P, some (.loc st.length), z4, z5] (st ++ [.lst (acc.map PV.int)]) = .nx [some (.scr ns), some (.int (at_ : Int)), some P, some (.loc st.length), y4, y5] (st ++ [.lst (out.map PV.int)])
  | 0, j, acc, _ => ⟨acc, rfl, fun st z4 z5 => ⟨z4, z5, rfl⟩⟩
  | r + 1, j, acc, hl => by
    obtain ⟨c, hc⟩ : ∃ c, c = cellF ns (at_ + j) := ⟨_, rfl⟩
    have fc : ∀ s, Fm D m i__law_cell [.scr ns, .int ((at_ : Int) + (0 + (j : Int)))] s = .ok (.int c) s := fun s => by
      have := F_cell' (n := m) (by omega) ns (at_ + j) s
      rwa [show ((at_ + j : Nat) : Int) = (at_ : Int) + (0 + (j : Int)) by omega, ← hc] at this
    obtain ⟨x, hx, vx⟩ := pickL (enc := PV.int) (xs := [c / 3 % 3, c / 3 % 1000003, c / 3 % (2 * 10 ^ 20 + 1) - 10 ^ 20]) (c := c) (Nat.succ_pos _)
    have vx : ∀ s, vIx (.lst [.int (c / 3 % 3), .int (c / 3 % 1000003), .int (c / 3 % (2 * 10 ^ 20 + 1) - 10 ^ 20)]) (.int (c % 3)) s = .ok (.int x) s := vx
    have vp : ∀ s, vPow (.int 10) (.int 20) s = .ok (.int (10 ^ 20)) s := fun s => rfl
    have vm : ∀ s, vMul (.int 2) (.int (10 ^ 20)) s = .ok (.int (2 * 10 ^ 20)) s := fun s => rfl
    have vd : ∀ s, vMod (.int (c / 3)) (.int (2 * 10 ^ 20 + 1)) s = .ok (.int (c / 3 % (2 * 10 ^ 20 + 1))) s := fun s => rfl
    obtain ⟨out, lo, ho⟩ := in_loop hm (P := P) r (j + 1) (acc ++ [x]) (by rw [List.length_append]; show acc.length + 1 + r ≤ _; omega)
    rw [List.length_append] at lo
    refine ⟨out, by rw [lo]; show acc.length + 1 + r = _; omega, fun st z4 z5 => ?_⟩
    obtain ⟨y4, y5, h2⟩ := ho st (some (.int (0 + (j : Int)))) (some (.int c))
    refine ⟨y4, y5, ?_⟩
    have pt := r_app (l := eVar 3) (a := eBin vIx (eLst (aCons (eBin vMod (eBin vFdv (eVar 5) (eC (.int 3))) (eC (.int 3))) (aCons (eBin vMod (eBin vFdv (eVar 5) (eC (.int 3))) (eC (.int 1000003))) (aCons (eBin vSub (eBin vMod (eBin vFdv (eVar 5) (eC (.int 3))) (eBin vAdd (eBin vMul (eC (.int 2)) (eBin vPow (eC (.int 10)) (eC (.int 20)))) (eC (.int 1)))) (eBin vPow (eC (.int 10)) (eC (.int 20)))) aNil)))) (eBin vMod (eVar 5) (eC (.int 3)))) (env := [some (.scr ns), some (.int (at_ : Int)), some P, some (.loc st.length), some (.int (0 + (j : Int))), some (.int c)]) (st := st ++ [.lst (acc.map PV.int)]) (st' := st ++ [.lst (acc.map PV.int)]) (n := st.length) (xs := acc.map PV.int) (y := .int x)
      (by simp -implicitDefEqProofs (disch := omega) only [za,zb,zc,zd,ze,zf,zg,zh,zi,zj,zk,zm,zn,zo,zp,zq,zt,zu,zv,zw,zx,zy,zA,zB,zC,zD,zE,zF,zG,zH,zI,zJ,zK,zL,zM,zN,zO,zP,zQ,zR,zS,zT,zU,zV,zW,zX,zY,zZ,ya,yb,yc,yd,ye,yf,yg,yh,yi,yj,yk,yl,ym,yn,yo,yp,yq,yr,yt,yu,yv,yw,yx,yy,yz,yA,yB,yC,yD,yE,yF,yG,yH,yI,yJ,yK,yL,yM,yN,yO,yP,yQ,yR,yS,yT,yU,yV,yW,yX,yY,yZ,wa,wb,wc,wd,we,wg,wj,wm,wp,wq,lA9,lB9,lC9,lD9,lE9,lF9,lG9,lH9,wt,lI9,lJ9,lK9,lL9,lM9,lN9,lO9,lP9,lQ9,lR9,lS9,lT9,↓reduceIte,Nat.reduceAdd,Nat.reduceLeDiff]) deref_end (by simp -implicitDefEqProofs (disch := omega) only [za,zb,zc,zd,ze,zf,zg,zh,zi,zj,zk,zm,zn,zo,zp,zq,zt,zu,zv,zw,zx,zy,zA,zB,zC,zD,zE,zF,zG,zH,zI,zJ,zK,zL,zM,zN,zO,zP,zQ,zR,zS,zT,zU,zV,zW,zX,zY,zZ,ya,yb,yc,yd,ye,yf,yg,yh,yi,yj,yk,yl,ym,yn,yo,yp,yq,yr,yt,yu,yv,yw,yx,yy,yz,yA,yB,yC,yD,yE,yF,yG,yH,yI,yJ,yK,yL,yM,yN,yO,yP,yQ,yR,yS,yT,yU,yV,yW,yX,yY,yZ,wa,wb,wc,wd,we,wg,wj,wm,wp,wq,lA9,lB9,lC9,lD9,lE9,lF9,lG9,lH9,wt,lI9,lJ9,lK9,lL9,lM9,lN9,lO9,lP9,lQ9,lR9,lS9,lT9,↓reduceIte,Nat.reduceAdd,Nat.reduceLeDiff, vp, vm, vd, vx]) deref_end (by rw [List.length_map]; omega) rfl
    rw [set_end] at pt
    rw [List.map_append] at h2
    have h2 : forL (bodyP (gName 4) (fb__law_inputs_0 (Fm D m))) ((List.range' (j + 1) r).map fun (k : Nat) => .int (0 + (k : Int))) [some (.scr ns), some (.int (at_ : Int)), some P, some (.loc st.length), some (.int (0 + (j : Int))), some (.int c)] (st ++ [.lst (acc.map PV.int ++ [.int x])]) = .nx [some (.scr ns), some (.int (at_ : Int)), some P, some (.loc st.length), y4, y5] (st ++ [.lst (out.map PV.int)]) := h2
    have hb : bodyP (gName 4) (fb__law_inputs_0 (Fm D m)) (.int (0 + (j : Int))) [some (.scr ns), some (.int (at_ : Int)), some P, some (.loc st.length), z4, z5] (st ++ [.lst (acc.map PV.int)]) = .nx [some (.scr ns), some (.int (at_ : Int)), some P, some (.loc st.length), some (.int (0 + (j : Int))), some (.int c)] (st ++ [.lst (acc.map PV.int ++ [.int x])]) := by
      unfold fb__law_inputs_0
      simp -implicitDefEqProofs (disch := omega) only [za,zb,zc,zd,ze,zf,zg,zh,zi,zj,zk,zm,zn,zo,zp,zq,zt,zu,zv,zw,zx,zy,zA,zB,zC,zD,zE,zF,zG,zH,zI,zJ,zK,zL,zM,zN,zO,zP,zQ,zR,zS,zT,zU,zV,zW,zX,zY,zZ,ya,yb,yc,yd,ye,yf,yg,yh,yi,yj,yk,yl,ym,yn,yo,yp,yq,yr,yt,yu,yv,yw,yx,yy,yz,yA,yB,yC,yD,yE,yF,yG,yH,yI,yJ,yK,yL,yM,yN,yO,yP,yQ,yR,yS,yT,yU,yV,yW,yX,yY,yZ,wa,wb,wc,wd,we,wg,wj,wm,wp,wq,lA9,lB9,lC9,lD9,lE9,lF9,lG9,lH9,wt,lI9,lJ9,lK9,lL9,lM9,lN9,lO9,lP9,lQ9,lR9,lS9,lT9,↓reduceIte,Nat.reduceAdd,Nat.reduceLeDiff, x_body, fc, pt]
    rw [List.range'_succ, List.map_cons, forL_cons, hb]
    exact h2
theorem F_inputs {ns : List Int} {at_ m : Nat} (hm : 21 ≤ m) {gs : List Fnc} {f : Fnc} (hp : f.pars.length ≤ 100) : ∃ xs : List Int, xs.length = f.pars.length ∧ ∀ st, Fm D m i__law_inputs [.scr ns, .int (at_ : Int), .tup ((gs ++ [f]).map Fnc.pv)] st = .ok (.lst (xs.map PV.int)) st := by
  obtain ⟨m, rfl⟩ := ge_add (k := 1) (n := m) (by omega)
  obtain ⟨out, lo, ho⟩ := in_loop (ns := ns) (at_ := at_) (m := m) (by omega) (P := .tup ((gs ++ [f]).map Fnc.pv)) f.pars.length 0 [] (by show 0 + _ ≤ _; omega)
  have lo : out.length = f.pars.length := by rw [lo]; exact Nat.zero_add _
  refine ⟨out, lo, fun st => ?_⟩
  obtain ⟨y4, y5, f1⟩ := ho st none none
  have vl : ∀ s, vIx (.tup ((gs ++ [f]).map Fnc.pv)) (.int (-1)) s = .ok f.pv s := fun s => by
    rw [List.map_append]; exact v_lastt
  have b0 : boxV (.lst []) st = .ok (.loc st.length) (st ++ [.lst []]) := x_boxV rfl
  have lp : (f.pars.map PV.str).length = f.pars.length := List.length_map _
  have hf := for_rng (a := eApp vLen (aCons (eBin vIx (eBin vIx (eVar 2) (eUn vNeg (eC (.int 1)))) (eC (.int 1))) aNil)) (g := gName 4) (body := fb__law_inputs_0 (Fm D m)) (i := (f.pars.length : Int)) (env := [some (.scr ns), some (.int (at_ : Int)), some (.tup ((gs ++ [f]).map Fnc.pv)), some (.loc st.length), none, none]) (st := st ++ [.lst []]) (st' := st ++ [.lst []]) (by
    simp -implicitDefEqProofs (disch := omega) only [za,zb,zc,zd,ze,zf,zg,zh,zi,zj,zk,zm,zn,zo,zp,zq,zt,zu,zv,zw,zx,zy,zA,zB,zC,zD,zE,zF,zG,zH,zI,zJ,zK,zL,zM,zN,zO,zP,zQ,zR,zS,zT,zU,zV,zW,zX,zY,zZ,ya,yb,yc,yd,ye,yf,yg,yh,yi,yj,yk,yl,ym,yn,yo,yp,yq,yr,yt,yu,yv,yw,yx,yy,yz,yA,yB,yC,yD,yE,yF,yG,yH,yI,yJ,yK,yL,yM,yN,yO,yP,yQ,yR,yS,yT,yU,yV,yW,yX,yY,yZ,wa,wb,wc,wd,we,wg,wj,wm,wp,wq,lA9,lB9,lC9,lD9,lE9,lF9,lG9,lH9,wt,lI9,lJ9,lK9,lL9,lM9,lN9,lO9,lP9,lQ9,lR9,lS9,lT9,↓reduceIte,Nat.reduceAdd,Nat.reduceLeDiff, vl, v_f1, lp]) (by omega) (by omega)
  have f1 : forL (bodyP (gName 4) (fb__law_inputs_0 (Fm D m))) ((List.range' 0 f.pars.length).map fun (k : Nat) => .int (0 + (k : Int))) [some (.scr ns), some (.int (at_ : Int)), some (.tup ((gs ++ [f]).map Fnc.pv)), some (.loc st.length), none, none] (st ++ [.lst []]) = .nx [some (.scr ns), some (.int (at_ : Int)), some (.tup ((gs ++ [f]).map Fnc.pv)), some (.loc st.length), y4, y5] (st ++ [.lst (out.map PV.int)]) := f1
  rw [Int.toNat_natCast, List.range_eq_range', f1] at hf
  have fz : freeze (st ++ [.lst (out.map PV.int)]) st.length (.loc st.length) = .lst (out.map PV.int) := fz_loc
  have tk : (st ++ [PV.lst (out.map PV.int)]).take st.length = st := take_app
  rw [c__law_inputs, b__law_inputs_q]
  unfold q__law_inputs_0 q__law_inputs_1 q__law_inputs_2
  simp -implicitDefEqProofs (disch := omega) only [za,zb,zc,zd,ze,zf,zg,zh,zi,zj,zk,zm,zn,zo,zp,zq,zt,zu,zv,zw,zx,zy,zA,zB,zC,zD,zE,zF,zG,zH,zI,zJ,zK,zL,zM,zN,zO,zP,zQ,zR,zS,zT,zU,zV,zW,zX,zY,zZ,ya,yb,yc,yd,ye,yf,yg,yh,yi,yj,yk,yl,ym,yn,yo,yp,yq,yr,yt,yu,yv,yw,yx,yy,yz,yA,yB,yC,yD,yE,yF,yG,yH,yI,yJ,yK,yL,yM,yN,yO,yP,yQ,yR,yS,yT,yU,yV,yW,yX,yY,yZ,wa,wb,wc,wd,we,wg,wj,wm,wp,wq,lA9,lB9,lC9,lD9,lE9,lF9,lG9,lH9,wt,lI9,lJ9,lK9,lL9,lM9,lN9,lO9,lP9,lQ9,lR9,lS9,lT9,↓reduceIte,Nat.reduceAdd,Nat.reduceLeDiff, b0, hf, fz, tk]
end Lk
namespace Lk
open PySem L2 Vm
theorem rg_em {v : Int} (h : Rg v) : v % 1000003 = v := Int.emod_eq_of_lt h.1 h.2
theorem F_pworth {st : VSt} {a : Nat} {l : List (Str × Int)} (hd : deref st (.loc a) = dE PV.int l) (hc : RgC (celE l)) : ∀ (t : Trm), t.Good OkT → ∀ n, t.depth + 1 ≤ n → Fm D n i_worth [t.pv, .loc a] st = .ok (.int (t.wo (celE l))) st
  | .num v, g, n, h => by
    obtain ⟨n, rfl⟩ := ge_add (k := 1) (n := n) (by omega)
    have d1 : decide (("num" : Str) = "num") = true := by decide
    have e : v % 1000003 = v := rg_em (wo_rg hc (.num v) g)
    rw [c_worth, b_worth_q]
    unfold q_worth_0 q_worth_1
    show _ = Res.ok (PV.int v) st
    rw [Trm.pv]
    simp -implicitDefEqProofs (disch := omega) only [za,zb,zc,zd,ze,zf,zg,zh,zi,zj,zk,zm,zn,zo,zp,zq,zt,zu,zv,zw,zx,zy,zA,zB,zC,zD,zE,zF,zG,zH,zI,zJ,zK,zL,zM,zN,zO,zP,zQ,zR,zS,zT,zU,zV,zW,zX,zY,zZ,ya,yb,yc,yd,ye,yf,yg,yh,yi,yj,yk,yl,ym,yn,yo,yp,yq,yr,yt,yu,yv,yw,yx,yy,yz,yA,yB,yC,yD,yE,yF,yG,yH,yI,yJ,yK,yL,yM,yN,yO,yP,yQ,yR,yS,yT,yU,yV,yW,yX,yY,yZ,wa,wb,wc,wd,we,wg,wj,wm,wp,wq,lA9,lB9,lC9,lD9,lE9,lF9,lG9,lH9,wt,lI9,lJ9,lK9,lL9,lM9,lN9,lO9,lP9,lQ9,lR9,lS9,lT9,↓reduceIte,Nat.reduceAdd,Nat.reduceLeDiff, d1, e]
  | .name x, _, n, h => by
    obtain ⟨n, rfl⟩ := ge_add (k := 1) (n := n) (by omega)
    have d1 : decide (("name" : Str) = "num") = false := by decide
    have d2 : decide (("name" : Str) = "name") = true := by decide
    have isd := isd_E hd
    have vg := v_getE (x := x) hd
    have e : celE l x % 1000003 = celE l x := rg_em (hc x)
    rw [c_worth, b_worth_q]
    unfold q_worth_0 q_worth_1 q_worth_2
    show _ = Res.ok (PV.int (celE l x)) st
    rw [Trm.pv]
    simp -implicitDefEqProofs (disch := omega) only [za,zb,zc,zd,ze,zf,zg,zh,zi,zj,zk,zm,zn,zo,zp,zq,zt,zu,zv,zw,zx,zy,zA,zB,zC,zD,zE,zF,zG,zH,zI,zJ,zK,zL,zM,zN,zO,zP,zQ,zR,zS,zT,zU,zV,zW,zX,zY,zZ,ya,yb,yc,yd,ye,yf,yg,yh,yi,yj,yk,yl,ym,yn,yo,yp,yq,yr,yt,yu,yv,yw,yx,yy,yz,yA,yB,yC,yD,yE,yF,yG,yH,yI,yJ,yK,yL,yM,yN,yO,yP,yQ,yR,yS,yT,yU,yV,yW,yX,yY,yZ,wa,wb,wc,wd,we,wg,wj,wm,wp,wq,lA9,lB9,lC9,lD9,lE9,lF9,lG9,lH9,wt,lI9,lJ9,lK9,lL9,lM9,lN9,lO9,lP9,lQ9,lR9,lS9,lT9,↓reduceIte,Nat.reduceAdd,Nat.reduceLeDiff, d1, d2, isd, vg, e]
  | .bin k p q, g, n, h => by
    obtain ⟨n, rfl⟩ := ge_add (k := 1) (n := n) (by omega)
    unfold Trm.Good at g
    unfold Trm.depth at h
    have h1 := F_pworth hd hc p g.2.1 n (by omega)
    have h2 := F_pworth hd hc q g.2.2 n (by omega)
    have r1 := wo_rg hc p g.2.1
    have r2 := wo_rg hc q g.2.2
    unfold Rg at r1 r2
    rw [c_worth, b_worth_q]
    unfold q_worth_0 q_worth_1 q_worth_2 q_worth_3 q_worth_4 q_worth_5 q_worth_6 q_worth_7
    have hk := g.1
    rw [Trm.pv]
    match k, hk with
    | 0, _ =>
      have e1 : opS 0 = "sum" := rfl
      have d1 : decide (("sum" : Str) = "num") = false := by decide
      have d2 : decide (("sum" : Str) = "name") = false := by decide
      have d3 : decide (("sum" : Str) = "sum") = true := by decide
      show _ = Res.ok (PV.int ((p.wo (celE l) + q.wo (celE l)) % 1000003)) st
      rw [e1]
      simp -implicitDefEqProofs (disch := omega) only [za,zb,zc,zd,ze,zf,zg,zh,zi,zj,zk,zm,zn,zo,zp,zq,zt,zu,zv,zw,zx,zy,zA,zB,zC,zD,zE,zF,zG,zH,zI,zJ,zK,zL,zM,zN,zO,zP,zQ,zR,zS,zT,zU,zV,zW,zX,zY,zZ,ya,yb,yc,yd,ye,yf,yg,yh,yi,yj,yk,yl,ym,yn,yo,yp,yq,yr,yt,yu,yv,yw,yx,yy,yz,yA,yB,yC,yD,yE,yF,yG,yH,yI,yJ,yK,yL,yM,yN,yO,yP,yQ,yR,yS,yT,yU,yV,yW,yX,yY,yZ,wa,wb,wc,wd,we,wg,wj,wm,wp,wq,lA9,lB9,lC9,lD9,lE9,lF9,lG9,lH9,wt,lI9,lJ9,lK9,lL9,lM9,lN9,lO9,lP9,lQ9,lR9,lS9,lT9,↓reduceIte,Nat.reduceAdd,Nat.reduceLeDiff, d1, d2, d3, h1, h2]
    | 1, _ =>
      have e1 : opS 1 = "less" := rfl
      have d1 : decide (("less" : Str) = "num") = false := by decide
      have d2 : decide (("less" : Str) = "name") = false := by decide
      have d3 : decide (("less" : Str) = "sum") = false := by decide
      have d4 : decide (("less" : Str) = "less") = true := by decide
      show _ = Res.ok (PV.int ((p.wo (celE l) - q.wo (celE l)) % 1000003)) st
      rw [e1]
      simp -implicitDefEqProofs (disch := omega) only [za,zb,zc,zd,ze,zf,zg,zh,zi,zj,zk,zm,zn,zo,zp,zq,zt,zu,zv,zw,zx,zy,zA,zB,zC,zD,zE,zF,zG,zH,zI,zJ,zK,zL,zM,zN,zO,zP,zQ,zR,zS,zT,zU,zV,zW,zX,zY,zZ,ya,yb,yc,yd,ye,yf,yg,yh,yi,yj,yk,yl,ym,yn,yo,yp,yq,yr,yt,yu,yv,yw,yx,yy,yz,yA,yB,yC,yD,yE,yF,yG,yH,yI,yJ,yK,yL,yM,yN,yO,yP,yQ,yR,yS,yT,yU,yV,yW,yX,yY,yZ,wa,wb,wc,wd,we,wg,wj,wm,wp,wq,lA9,lB9,lC9,lD9,lE9,lF9,lG9,lH9,wt,lI9,lJ9,lK9,lL9,lM9,lN9,lO9,lP9,lQ9,lR9,lS9,lT9,↓reduceIte,Nat.reduceAdd,Nat.reduceLeDiff, d1, d2, d3, d4, h1, h2]
    | 2, _ =>
      have e1 : opS 2 = "times" := rfl
      have d1 : decide (("times" : Str) = "num") = false := by decide
      have d2 : decide (("times" : Str) = "name") = false := by decide
      have d3 : decide (("times" : Str) = "sum") = false := by decide
      have d4 : decide (("times" : Str) = "less") = false := by decide
      show _ = Res.ok (PV.int (p.wo (celE l) * q.wo (celE l) % 1000003)) st
      rw [e1]
      have vm : ∀ s, vMul (.int (p.wo (celE l))) (.int (q.wo (celE l))) s = .ok (.int (p.wo (celE l) * q.wo (celE l))) s := fun s => yJ (.inl (by omega))
      simp -implicitDefEqProofs (disch := omega) only [za,zb,zc,zd,ze,zf,zg,zh,zi,zj,zk,zm,zn,zo,zp,zq,zt,zu,zv,zw,zx,zy,zA,zB,zC,zD,zE,zF,zG,zH,zI,zJ,zK,zL,zM,zN,zO,zP,zQ,zR,zS,zT,zU,zV,zW,zX,zY,zZ,ya,yb,yc,yd,ye,yf,yg,yh,yi,yj,yk,yl,ym,yn,yo,yp,yq,yr,yt,yu,yv,yw,yx,yy,yz,yA,yB,yC,yD,yE,yF,yG,yH,yI,yJ,yK,yL,yM,yN,yO,yP,yQ,yR,yS,yT,yU,yV,yW,yX,yY,yZ,wa,wb,wc,wd,we,wg,wj,wm,wp,wq,lA9,lB9,lC9,lD9,lE9,lF9,lG9,lH9,wt,lI9,lJ9,lK9,lL9,lM9,lN9,lO9,lP9,lQ9,lR9,lS9,lT9,↓reduceIte,Nat.reduceAdd,Nat.reduceLeDiff, d1, d2, d3, d4, h1, h2, vm]
mutual
def tnR (K : Str → Nat) : Row → Nat
  | .set _ _ => 1
  | .tell _ => 1
  | .call _ g _ => 2 + K g
  | .when _ rs => 1 + tnF K rs
  | .again n rs => n.toNat * (1 + tnF K rs) + 1
def tnF (K : Str → Nat) : List Row → Nat
  | [] => 0
  | r :: rs => tnR K r + tnF K rs
end
def tnP (fs : List Fnc) : Str → Nat := fs.foldl (fun K f => fun g => if g = f.name then tnF K f.rows else K g) fun _ => 0
theorem tn_app (fs : List Fnc) (f : Fnc) : tnP (fs ++ [f]) = fun g => if g = f.name then tnF (tnP fs) f.rows else tnP fs g := by
  unfold tnP
  rw [List.foldl_append]; rfl
mutual
theorem tnR_cl {E F : Str → Nat} {P : Str → Nat → Prop} (e : ∀ g n, P g n → E g = F g) : ∀ r : Row, r.Cl P → tnR E r = tnR F r
  | .set _ _, _ => by rw [tnR, tnR]
  | .tell _, _ => by rw [tnR, tnR]
  | .call x g ts, h => by
    unfold Row.Cl at h
    rw [tnR, tnR, e g _ h]
  | .when t rs, h => by
    unfold Row.Cl at h
    rw [tnR, tnR, tnF_cl e rs h]
  | .again n rs, h => by
    unfold Row.Cl at h
    rw [tnR, tnR, tnF_cl e rs h]
theorem tnF_cl {E F : Str → Nat} {P : Str → Nat → Prop} (e : ∀ g n, P g n → E g = F g) : ∀ rs : List Row, Row.Cls P rs → tnF E rs = tnF F rs
  | [], _ => by rw [tnF, tnF]
  | r :: rs, h => by
    unfold Row.Cls at h
    rw [tnF, tnF, tnR_cl e r h.1, tnF_cl e rs h.2]
end
theorem tn_take {fs : List Fnc} (nd : (fs.map Fnc.name).Nodup) : ∀ (k i : Nat) (q : Fnc), i < k → fs[i]? = some q → tnP (fs.take k) q.name = tnF (tnP (fs.take i)) q.rows
  | 0, i, q, h, _ => absurd h (Nat.not_lt_zero _)
  | k + 1, i, q, h, hq => by
    have hi := (List.getElem?_eq_some_iff.mp hq).1
    by_cases hk : k < fs.length
    · have e : fs.take (k + 1) = fs.take k ++ [fs[k]] := (List.take_append_getElem hk).symm
      rw [e, tn_app]
      by_cases hik : i = k
      · subst hik
        obtain rfl : fs[i] = q := by
          rw [List.getElem?_eq_getElem hk] at hq; exact Option.some.inj hq
        exact if_pos rfl
      · have ne : q.name ≠ fs[k].name := fun z => by
          have h1 : (fs.map Fnc.name)[i]'(by rw [List.length_map]; omega) = (fs.map Fnc.name)[k]'(by rw [List.length_map]; exact hk) := by
            rw [List.getElem_map, List.getElem_map, ← z, (List.getElem?_eq_some_iff.mp hq).2]
          exact hik ((List.getElem_inj nd).mp h1)
        show (if q.name = fs[k].name then _ else tnP (fs.take k) q.name) = _
        rw [if_neg ne, tn_take nd k i q (by omega) hq]
    · have e : fs.take (k + 1) = fs.take k := by rw [List.take_of_length_le (by omega), List.take_of_length_le (by omega)]
      rw [e]
      exact tn_take nd k i q (by omega) hq
theorem tn_fix {fs : List Fnc} (wf : WfP fs) (nd : (fs.map Fnc.name).Nodup) : ∀ q ∈ fs, tnP fs q.name = tnF (tnP fs) q.rows := fun q hq => by
  obtain ⟨i, hi⟩ := List.mem_iff_getElem?.mp hq
  have hl := (List.getElem?_eq_some_iff.mp hi).1
  have h1 := tn_take nd fs.length i q hl hi
  rw [List.take_length] at h1
  rw [h1]
  refine tnF_cl (P := CalF (fs.take i)) (fun g n ⟨p, hp, e, _⟩ => ?_) q.rows (wf i q hi)
  obtain ⟨j, hj⟩ := List.mem_iff_getElem?.mp hp
  have hji : j < i := by
    have := (List.getElem?_eq_some_iff.mp hj).1
    rw [List.length_take] at this; omega
  rw [List.getElem?_take_of_lt hji] at hj
  have h2 := tn_take nd fs.length j p (by omega) hj
  rw [List.take_length] at h2
  rw [← e, tn_take nd i j p hji hj, h2]
theorem t_arith {n m : Nat} {t w x : Int} (hn : (n : Int) ≤ x) (h9 : n ≤ 9) (ht : t ≤ 11 * w) (hw : 0 ≤ w) : (n : Int) * (1 + t) + 1 ≤ 11 * (1 + x * w) := by
  have h1 := Int.mul_le_mul_of_nonneg_left ht (show (0 : Int) ≤ n by omega)
  have h2 := Int.mul_le_mul_of_nonneg_right hn hw
  rw [Int.mul_add, Int.mul_one]
  rw [show (n : Int) * (11 * w) = 11 * ((n : Int) * w) by rw [← Int.mul_assoc, Int.mul_comm (n : Int) 11, Int.mul_assoc]] at h1
  generalize (n : Int) * w = y at *
  generalize x * w = z at *
  generalize (n : Int) * t = u at *
  omega
section
variable {lk : Str → Int} {K : Str → Nat} (hl : ∀ g, 0 ≤ lk g) (hK : ∀ g, (K g : Int) ≤ 11 * lk g)
include hl hK
mutual
theorem tnR_work : ∀ r : Row, r.Gd → 0 ≤ workR lk r ∧ (tnR K r : Int) ≤ 11 * workR lk r
  | .set _ _, _ => by rw [tnR, workR]; decide
  | .tell _, _ => by rw [tnR, workR]; decide
  | .call x g ts, _ => by
    have h1 := hl g
    have h2 := hK g
    rw [tnR, workR]; omega
  | .when t rs, g => by
    obtain ⟨h1, h2⟩ := tnF_work rs (gd_when g)
    rw [tnR, workR]; omega
  | .again n rs, g => by
    obtain ⟨h1, h2⟩ := tnF_work rs (gd_again g)
    unfold Row.Gd at g
    have h3 : 0 ≤ mx1 n := by unfold mx1; split <;> omega
    have h4 : ((n.toNat : Nat) : Int) ≤ mx1 n := by unfold mx1; split <;> omega
    have h5 := t_arith (m := 0) (n := n.toNat) (t := (tnF K rs : Int)) (w := workF lk rs) (x := mx1 n) h4 (by omega) h2 h1
    have h6 := Int.mul_nonneg h3 h1
    rw [tnR, workR]
    refine ⟨by omega, ?_⟩
    rw [show (((n.toNat * (1 + tnF K rs) + 1 : Nat)) : Int) = (n.toNat : Int) * (1 + (tnF K rs : Int)) + 1 by rw [Int.natCast_add, Int.natCast_mul, Int.natCast_add]; rfl]
    exact h5
theorem tnF_work : ∀ rs : List Row, Row.Gds rs → 0 ≤ workF lk rs ∧ (tnF K rs : Int) ≤ 11 * workF lk rs
  | [], _ => by rw [tnF, workF_nil]; decide
  | r :: rs, g => by
    rw [gds_cons] at g
    obtain ⟨a1, a2⟩ := tnR_work r g.1
    obtain ⟨b1, b2⟩ := tnF_work rs g.2
    rw [tnF, workF_cons]; omega
end
end
def Tk (fs : List Fnc) (wk : List (Str × Int)) : Prop := ∀ g, (tnP fs g : Int) ≤ 11 * lkI wk g
theorem tk_step {ns : List Int} {k : Nat} {fs : List Fnc} {wk : List (Str × Int)} (S : StB ns k fs wk) (h : WkOk fs wk) (t : Tk fs wk) : Tk (fs ++ [stepB ns k fs wk]) (wkB ns k fs wk) := by
  have nn := lk_nn h.tl
  have hx := getD_ok (nm_ok ns).2 ok_nil k
  have b1 := bnd_gd (ws_ok ns).1 (ws_ok ns).2 (hs := fs.take 3) (fun f hf => (S.gd f (List.mem_of_mem_take hf)).1) ((nmF ns).getD k "") hx (cellF ns (7 + k)) wk
  have n0 : (f0B ns k fs wk).name = (nmF ns).getD k "" := b1.2.2
  have gd : Row.Gds (f0B ns k fs wk).rows := b1.1.rs
  have tw := (tnF_work nn t (f0B ns k fs wk).rows gd).2
  intro g
  unfold stepB wkB w0B
  by_cases e : emptyB ns k
  · rw [if_pos e, if_pos e]
    obtain rfl := e.1
    rw [tn_app, lkI_put, lkI_put]
    show (((if g = (nmF ns).getD 0 "" then tnF (tnP fs) [] else tnP fs g : Nat)) : Int) ≤ _
    by_cases z : g = (nmF ns).getD 0 ""
    · rw [if_pos z, if_pos z, tnF]; decide
    · rw [if_neg z, if_neg z, if_neg z]; exact t g
  · rw [if_neg e, if_neg e, tn_app, lkI_put, n0]
    show (((if g = (nmF ns).getD k "" then tnF (tnP fs) (f0B ns k fs wk).rows else tnP fs g : Nat)) : Int) ≤ _
    by_cases z : g = (nmF ns).getD k ""
    · rw [if_pos z, if_pos z]; exact tw
    · rw [if_neg z, if_neg z]; exact t g
theorem progB_tk (ns : List Int) : ∀ (m k : Nat) (fs : List Fnc) (wk : List (Str × Int)), StB ns k fs wk → WkOk fs wk → Tk fs wk → ∃ gs wk' f, progB ns (m + 1) k fs wk = gs ++ [f] ∧ WkOk gs wk' ∧ Tk gs wk' ∧ workF (lkI wk') f.rows ≤ 162000
  | 0, k, fs, wk, S, h, t => ⟨fs, wk, stepB ns k fs wk, rfl, h, t, (wk_step S h).2⟩
  | m + 1, k, fs, wk, S, h, t => progB_tk ns m (k + 1) _ _ S.step (wk_step S h).1 (tk_step S h t)
/-- so many turns at the most -/
theorem prog_tn (ns : List Int) (g : Str) : tnP (progF ns) g ≤ 5390000 := by
  have c := cntN_r ns
  obtain ⟨m, hm⟩ : ∃ m, (cntN ns).toNat = m + 1 := ⟨(cntN ns).toNat - 1, by omega⟩
  obtain ⟨gs, wk, f, e, W, T, hf⟩ := progB_tk ns m 0 [] [] (StB.nil ns) wk_nil (fun g => by show ((0 : Nat) : Int) ≤ 11 * 0; decide)
  have eb : builtF ns = gs ++ [f] := by
    unfold builtF
    rw [hm, e]
  have e2 := heads_last ns
  rw [eb] at e2
  obtain ⟨e3, e4⟩ := List.append_inj' e2 rfl
  have e4 : lastF ns = f := (List.cons.inj e4).1
  have nn := lk_nn W.tl
  have pk := (prog_ok ns).ok
  have key : ∀ q : Fnc, progF ns = gs ++ [q] → workF (lkI wk) q.rows ≤ 490000 → tnP (progF ns) g ≤ 5390000 := fun q eq hq => by
    have gd := (pk q (by rw [eq]; exact List.mem_append_right _ List.mem_cons_self)).gd
    have tw := (tnF_work nn T q.rows gd).2
    rw [eq, tn_app]
    show (if g = q.name then tnF (tnP gs) q.rows else tnP gs g) ≤ _
    split
    · omega
    · have := T g; have := W.le g; omega
  by_cases hc : cellF ns 6 / 4 % 2 = 0 ∨ (lastF ns).rows.isEmpty = true
  · have ep : progF ns = gs ++ [f] := by
      unfold progF loopF
      rw [if_pos hc, e3, e4]
    exact key f ep (by omega)
  · have ep : progF ns = gs ++ [againF f (cellF ns 6 / 4)] := by
      unfold progF loopF
      rw [if_neg hc, e3, e4]
    refine key _ ep ?_
    have b0 := works_nn W.tl f.rows
    generalize cellF ns 6 / 4 = c
    show workF (lkI wk) [Row.again (2 + c / 2 % 2) (if c / 4 % 4 = 1 then wrapF f.rows six else f.rows)] ≤ _
    rw [workF_cons, workF_nil, workR]
    have hm : mx1 (2 + c / 2 % 2) ≤ 3 := by unfold mx1; split <;> omega
    have hW : workF (lkI wk) (if c / 4 % 4 = 1 then wrapF f.rows six else f.rows) ≤ 162006 ∧ 0 ≤ workF (lkI wk) (if c / 4 % 4 = 1 then wrapF f.rows six else f.rows) := by
      split
      · rw [wrap_work]
        have : (six.length : Int) = 6 := rfl
        omega
      · omega
    generalize workF (lkI wk) (if c / 4 % 4 = 1 then wrapF f.rows six else f.rows) = w at *
    have := Int.mul_le_mul_of_nonneg_right hm hW.2
    omega
end Lk
namespace Lk
open PySem L2 Vm
abbrev visV (a h : Nat) (res tgt : PV) : PV := .vis [.loc a, .loc h, res, tgt]
abbrev eR (P I F : PV) (b c : Nat) (z5 z6 z7 z8 z9 : Option PV) : VEnv := [some P, some I, some F, some (.loc b), some (.loc c), z5, z6, z7, z8, z9]
theorem v_lastl {st : VSt} {p : PV} {xs : List PV} {x : PV} (h : deref st p = .lst (xs ++ [x])) : vIx p (.int (-1)) st = .ok x st := by
  have e := v_lastt (xs := xs) (x := x) (st := st)
  unfold vIx at e ⊢
  rw [h]
  exact e
theorem set_take {st : VSt} {a : Nat} {p : PV} : (st.set a p).take st.length = st.set a p := List.take_of_length_le (by rw [List.length_set]; exact Nat.le_refl _)
/-- the store while visits go on: what is told, the visits, the last one's cells and rows ahead -/
structure Mch (st : VSt) (b c : Nat) (told : List Int) (vs : List PV) (a h : Nat) (l : List (Str × Int)) (ah : List PV) : Prop where
  tl : deref st (.loc b) = .lst (told.map PV.int)
  vl : deref st (.loc c) = .lst vs
  ce : deref st (.loc a) = dE PV.int l
  ae : deref st (.loc h) = .lst ah
  bl : b < st.length
  cl : c < st.length
  al : a < st.length
  hl : h < st.length
  ab : a ≠ b
  ac : a ≠ c
  ah' : a ≠ h
  hb : h ≠ b
  hc : h ≠ c
  bc : b ≠ c
section
variable {st : VSt} {b c : Nat} {told : List Int} {vs : List PV} {a h : Nat} {l : List (Str × Int)} {ah : List PV} (M : Mch st b c told vs a h l ah)
include M
theorem Mch.setA (l' : List (Str × Int)) : Mch (st.set a (dE PV.int l')) b c told vs a h l' ah :=
  ⟨by rw [deref_sn M.ab]; exact M.tl, by rw [deref_sn M.ac]; exact M.vl, deref_ss M.al, by rw [deref_sn M.ah']; exact M.ae, by rw [List.length_set]; exact M.bl, by rw [List.length_set]; exact M.cl, by rw [List.length_set]; exact M.al, by rw [List.length_set]; exact M.hl, M.ab, M.ac, M.ah', M.hb, M.hc, M.bc⟩
theorem Mch.setB (told' : List Int) : Mch (st.set b (.lst (told'.map PV.int))) b c told' vs a h l ah :=
  ⟨deref_ss M.bl, by rw [deref_sn M.bc]; exact M.vl, by rw [deref_sn M.ab.symm]; exact M.ce, by rw [deref_sn M.hb.symm]; exact M.ae, by rw [List.length_set]; exact M.bl, by rw [List.length_set]; exact M.cl, by rw [List.length_set]; exact M.al, by rw [List.length_set]; exact M.hl, M.ab, M.ac, M.ah', M.hb, M.hc, M.bc⟩
theorem Mch.setH (ah2 : List PV) : Mch (st.set h (.lst ah2)) b c told vs a h l ah2 :=
  ⟨by rw [deref_sn M.hb]; exact M.tl, by rw [deref_sn M.hc]; exact M.vl, by rw [deref_sn M.ah'.symm]; exact M.ce, deref_ss M.hl, by rw [List.length_set]; exact M.bl, by rw [List.length_set]; exact M.cl, by rw [List.length_set]; exact M.al, by rw [List.length_set]; exact M.hl, M.ab, M.ac, M.ah', M.hb, M.hc, M.bc⟩
end
structure Fr (st st' : VSt) (a h b c : Nat) : Prop where
  le : st.length ≤ st'.length
  el : ∀ k, k < st.length → k ≠ a → k ≠ h → k ≠ b → k ≠ c → st'[k]? = st[k]?
theorem Fr.refl {st : VSt} {a h b c : Nat} : Fr st st a h b c := ⟨Nat.le_refl _, fun _ _ _ _ _ _ => rfl⟩
theorem Fr.then {st st1 st2 : VSt} {a h b c : Nat} (f : Fr st st1 a h b c) (g : Fr st1 st2 a h b c) : Fr st st2 a h b c := ⟨Nat.le_trans f.le g.le, fun k k1 k2 k3 k4 k5 => (g.el k (Nat.lt_of_lt_of_le k1 f.le) k2 k3 k4 k5).trans (f.el k k1 k2 k3 k4 k5)⟩
theorem Fr.set {st : VSt} {a h b c x : Nat} {p : PV} (e : x = a ∨ x = h ∨ x = b ∨ x = c) : Fr st (st.set x p) a h b c := ⟨by rw [List.length_set]; exact Nat.le_refl _, fun k _ k2 k3 k4 k5 => List.getElem?_set_ne (by
  rcases e with rfl | rfl | rfl | rfl
  · exact k2.symm
  · exact k3.symm
  · exact k4.symm
  · exact k5.symm)⟩
/-- so many turns lead from here to there -/
def Runs (m k : Nat) (e : VEnv) (s : VSt) (e' : VEnv) (s' : VSt) : Prop := ∀ j, whileP (eTruB (eVar 4)) (fb_run_0 (Fm D m)) (k + j) e s = whileP (eTruB (eVar 4)) (fb_run_0 (Fm D m)) j e' s'
theorem Runs.refl {m : Nat} {e : VEnv} {s : VSt} : Runs m 0 e s e s := fun j => by rw [Nat.zero_add]
theorem Runs.then {m k1 k2 : Nat} {e e1 e2 : VEnv} {s s1 s2 : VSt} (h1 : Runs m k1 e s e1 s1) (h2 : Runs m k2 e1 s1 e2 s2) : Runs m (k1 + k2) e s e2 s2 := fun j => by rw [Nat.add_assoc, h1, h2]
theorem tru_vis {P I F : PV} {b c : Nat} {z5 z6 z7 z8 z9 : Option PV} {st : VSt} {vs : List PV} {v : PV} (h : deref st (.loc c) = .lst (vs ++ [v])) : eTruB (eVar 4) (eR P I F b c z5 z6 z7 z8 z9) st = .ok (.bl true) st := by
  unfold eTruB
  show (match deref st (.loc c) with
    | .lst xs => Res.ok (PV.bl (!xs.isEmpty)) st
    | _ => .bad) = _
  rw [h]
  show Res.ok (PV.bl (!(vs ++ [v]).isEmpty)) st = _
  cases vs <;> rfl
theorem tru_none {P I F : PV} {b c : Nat} {z5 z6 z7 z8 z9 : Option PV} {st : VSt} (h : deref st (.loc c) = .lst []) : eTruB (eVar 4) (eR P I F b c z5 z6 z7 z8 z9) st = .ok (.bl false) st := by
  unfold eTruB
  show (match deref st (.loc c) with
    | .lst xs => Res.ok (PV.bl (!xs.isEmpty)) st
    | _ => .bad) = _
  rw [h]; rfl
theorem Runs.one {m : Nat} {P I F : PV} {b c : Nat} {z5 z6 z7 z8 z9 : Option PV} {s s' : VSt} {e' : VEnv} {vs : List PV} {v : PV} (h : deref s (.loc c) = .lst (vs ++ [v])) (hb : fb_run_0 (Fm D m) (eR P I F b c z5 z6 z7 z8 z9) s = .nx e' s') : Runs m 1 (eR P I F b c z5 z6 z7 z8 z9) s e' s' := fun j => by
  rw [Nat.add_comm, while_s, tru_vis h, zk, zt, if_pos rfl, hb]
theorem Runs.onec {m : Nat} {P I F : PV} {b c : Nat} {z5 z6 z7 z8 z9 : Option PV} {s s' : VSt} {e' : VEnv} {vs : List PV} {v : PV} (h : deref s (.loc c) = .lst (vs ++ [v])) (hb : fb_run_0 (Fm D m) (eR P I F b c z5 z6 z7 z8 z9) s = .ct e' s') : Runs m 1 (eR P I F b c z5 z6 z7 z8 z9) s e' s' := fun j => by
  rw [Nat.add_comm, while_s, tru_vis h, zk, zt, if_pos rfl, hb]
def h_0 (_ : Tbl) : SM := (sSet 5 (eBin vIx (eVar 4) (eUn vNeg (eC (.int 1)))))
def h_1 (T : Tbl) : SM := (sIf (eNot (eTruB (eFld 1 (eVar 5))))
      (sCons (sExpr (ePop (eVar 4)))
      (sCons (sExpr (eApp (T i__end) (aCons (eVar 5) (aCons (eVar 4) (aCons (eVar 3) aNil)))))
      (sCons sCont
      sNil)))
      sNil)
def h_2 (_ : Tbl) : SM := (sSet 6 (ePop (eFld 1 (eVar 5))))
def h_3 (T : Tbl) : SM := (sIf (eBin (vEqF false) (eBin vIx (eVar 6) (eC (.int 0))) (eC (.str "call")))
      (sCons (sSet 8 (eComp (iSeq (eBin vIx (eVar 6) (eC (.int 3)))) (gName 9) tTrue (eApp (T i_worth) (aCons (eVar 9) (aCons (eFld 0 (eVar 5)) aNil))) [9]))
      (sCons (sAppV (eVar 4) (eApp newV (aCons (eBin vIx (eVar 2) (eBin vIx (eVar 6) (eC (.int 2)))) (aCons (eVar 8) (aCons (eBin vIx (eVar 6) (eC (.int 1))) aNil)))))
      sNil))
      (sCons (sExpr (eApp (T i__go_through) (aCons (eVar 6) (aCons (eVar 5) (aCons (eVar 3) aNil)))))
      sNil))
theorem fb_q (T : Tbl) : fb_run_0 T = sCons (h_0 T) (sCons (h_1 T) (sCons (h_2 T) (sCons (h_3 T) sNil))) := rfl
section
variable {m : Nat} {P I F : PV} {b c : Nat} {z5 z6 z7 z8 z9 : Option PV} {st : VSt} {vs : List PV} {a h : Nat} {res tgt : PV}
theorem h0_run {v : PV} (hv : deref st (.loc c) = .lst (vs ++ [v])) : h_0 (Fm D m) (eR P I F b c z5 z6 z7 z8 z9) st = .nx (eR P I F b c (some v) z6 z7 z8 z9) st := by
  have vl := v_lastl hv
  unfold h_0
  simp -implicitDefEqProofs (disch := omega) only [za,zb,zc,zd,ze,zf,zg,zh,zi,zj,zk,zm,zn,zo,zp,zq,zt,zu,zv,zw,zx,zy,zA,zB,zC,zD,zE,zF,zG,zH,zI,zJ,zK,zL,zM,zN,zO,zP,zQ,zR,zS,zT,zU,zV,zW,zX,zY,zZ,ya,yb,yc,yd,ye,yf,yg,yh,yi,yj,yk,yl,ym,yn,yo,yp,yq,yr,yt,yu,yv,yw,yx,yy,yz,yA,yB,yC,yD,yE,yF,yG,yH,yI,yJ,yK,yL,yM,yN,yO,yP,yQ,yR,yS,yT,yU,yV,yW,yX,yY,yZ,wa,wb,wc,wd,we,wg,wj,wm,wp,wq,lA9,lB9,lC9,lD9,lE9,lF9,lG9,lH9,wt,lI9,lJ9,lK9,lL9,lM9,lN9,lO9,lP9,lQ9,lR9,lS9,lT9,↓reduceIte,Nat.reduceAdd,Nat.reduceLeDiff, vl]
theorem tb_run {xs : List PV} (ha : deref st (.loc h) = .lst xs) : eTruB (eFld 1 (eVar 5)) (eR P I F b c (some (visV a h res tgt)) z6 z7 z8 z9) st = .ok (.bl (!xs.isEmpty)) st := by
  unfold eTruB
  show (match deref st (.loc h) with
    | .lst xs => Res.ok (PV.bl (!xs.isEmpty)) st
    | _ => .bad) = _
  rw [ha]
/-- a row is taken -/
theorem turn_row {R : List PV} {x : PV} (hv : deref st (.loc c) = .lst (vs ++ [visV a h res tgt])) (ha : deref st (.loc h) = .lst (R ++ [x])) : fb_run_0 (Fm D m) (eR P I F b c z5 z6 z7 z8 z9) st = sCons (h_3 (Fm D m)) sNil (eR P I F b c (some (visV a h res tgt)) (some x) z7 z8 z9) (st.set h (.lst R)) := by
  have s0 := h0_run (m := m) (P := P) (I := I) (F := F) (b := b) (z5 := z5) (z6 := z6) (z7 := z7) (z8 := z8) (z9 := z9) hv
  have tb := tb_run (P := P) (I := I) (F := F) (b := b) (c := c) (z6 := z6) (z7 := z7) (z8 := z8) (z9 := z9) (a := a) (res := res) (tgt := tgt) ha
  have ne : (R ++ [x]).isEmpty = false := by cases R <;> rfl
  rw [ne] at tb
  have s1 : h_1 (Fm D m) (eR P I F b c (some (visV a h res tgt)) z6 z7 z8 z9) st = .nx (eR P I F b c (some (visV a h res tgt)) z6 z7 z8 z9) st := by
    unfold h_1
    simp -implicitDefEqProofs (disch := omega) only [za,zb,zc,zd,ze,zf,zg,zh,zi,zj,zk,zm,zn,zo,zp,zq,zt,zu,zv,zw,zx,zy,zA,zB,zC,zD,zE,zF,zG,zH,zI,zJ,zK,zL,zM,zN,zO,zP,zQ,zR,zS,zT,zU,zV,zW,zX,zY,zZ,ya,yb,yc,yd,ye,yf,yg,yh,yi,yj,yk,yl,ym,yn,yo,yp,yq,yr,yt,yu,yv,yw,yx,yy,yz,yA,yB,yC,yD,yE,yF,yG,yH,yI,yJ,yK,yL,yM,yN,yO,yP,yQ,yR,yS,yT,yU,yV,yW,yX,yY,yZ,wa,wb,wc,wd,we,wg,wj,wm,wp,wq,lA9,lB9,lC9,lD9,lE9,lF9,lG9,lH9,wt,lI9,lJ9,lK9,lL9,lM9,lN9,lO9,lP9,lQ9,lR9,lS9,lT9,↓reduceIte,Nat.reduceAdd,Nat.reduceLeDiff, tb]
  have s2 : h_2 (Fm D m) (eR P I F b c (some (visV a h res tgt)) z6 z7 z8 z9) st = .nx (eR P I F b c (some (visV a h res tgt)) (some x) z7 z8 z9) (st.set h (.lst R)) := by
    have pp : ePop (eFld 1 (eVar 5)) (eR P I F b c (some (visV a h res tgt)) z6 z7 z8 z9) st = .ok x (st.set h (.lst R)) := by
      unfold ePop
      show (match deref st (.loc h) with
        | .lst xs => match xs.getLast? with
          | some y => Res.ok y (st.set h (.lst xs.dropLast))
          | none => .bad
        | _ => .bad) = _
      rw [ha]
      show (match (R ++ [x]).getLast? with
          | some y => Res.ok y (st.set h (.lst (R ++ [x]).dropLast))
          | none => .bad) = _
      rw [List.getLast?_concat, List.dropLast_concat]
    unfold h_2
    simp -implicitDefEqProofs (disch := omega) only [za,zb,zc,zd,ze,zf,zg,zh,zi,zj,zk,zm,zn,zo,zp,zq,zt,zu,zv,zw,zx,zy,zA,zB,zC,zD,zE,zF,zG,zH,zI,zJ,zK,zL,zM,zN,zO,zP,zQ,zR,zS,zT,zU,zV,zW,zX,zY,zZ,ya,yb,yc,yd,ye,yf,yg,yh,yi,yj,yk,yl,ym,yn,yo,yp,yq,yr,yt,yu,yv,yw,yx,yy,yz,yA,yB,yC,yD,yE,yF,yG,yH,yI,yJ,yK,yL,yM,yN,yO,yP,yQ,yR,yS,yT,yU,yV,yW,yX,yY,yZ,wa,wb,wc,wd,we,wg,wj,wm,wp,wq,lA9,lB9,lC9,lD9,lE9,lF9,lG9,lH9,wt,lI9,lJ9,lK9,lL9,lM9,lN9,lO9,lP9,lQ9,lR9,lS9,lT9,↓reduceIte,Nat.reduceAdd,Nat.reduceLeDiff, pp]
  rw [fb_q, zO, s0, zm, zO, s1, zm, zO, s2, zm]
/-- a visit ends -/
theorem turn_end {st' : VSt} (hv : deref st (.loc c) = .lst (vs ++ [visV a h res tgt])) (ha : deref st (.loc h) = .lst []) (hE : Fm D m i__end [visV a h res tgt, .loc c, .loc b] (st.set c (.lst vs)) = .ok .non st') : fb_run_0 (Fm D m) (eR P I F b c z5 z6 z7 z8 z9) st = .ct (eR P I F b c (some (visV a h res tgt)) z6 z7 z8 z9) st' := by
  have s0 := h0_run (m := m) (P := P) (I := I) (F := F) (b := b) (z5 := z5) (z6 := z6) (z7 := z7) (z8 := z8) (z9 := z9) hv
  have tb := tb_run (P := P) (I := I) (F := F) (b := b) (c := c) (z6 := z6) (z7 := z7) (z8 := z8) (z9 := z9) (a := a) (res := res) (tgt := tgt) ha
  have tb : eTruB (eFld 1 (eVar 5)) (eR P I F b c (some (visV a h res tgt)) z6 z7 z8 z9) st = .ok (.bl false) st := tb
  have pp : ePop (eVar 4) (eR P I F b c (some (visV a h res tgt)) z6 z7 z8 z9) st = .ok (visV a h res tgt) (st.set c (.lst vs)) := by
    unfold ePop
    show (match deref st (.loc c) with
      | .lst xs => match xs.getLast? with
        | some y => Res.ok y (st.set c (.lst xs.dropLast))
        | none => .bad
      | _ => .bad) = _
    rw [hv]
    show (match (vs ++ [visV a h res tgt]).getLast? with
        | some y => Res.ok y (st.set c (.lst (vs ++ [visV a h res tgt]).dropLast))
        | none => .bad) = _
    rw [List.getLast?_concat, List.dropLast_concat]
  have s1 : h_1 (Fm D m) (eR P I F b c (some (visV a h res tgt)) z6 z7 z8 z9) st = .ct (eR P I F b c (some (visV a h res tgt)) z6 z7 z8 z9) st' := by
    unfold h_1
    simp -implicitDefEqProofs (disch := omega) only [za,zb,zc,zd,ze,zf,zg,zh,zi,zj,zk,zm,zn,zo,zp,zq,zt,zu,zv,zw,zx,zy,zA,zB,zC,zD,zE,zF,zG,zH,zI,zJ,zK,zL,zM,zN,zO,zP,zQ,zR,zS,zT,zU,zV,zW,zX,zY,zZ,ya,yb,yc,yd,ye,yf,yg,yh,yi,yj,yk,yl,ym,yn,yo,yp,yq,yr,yt,yu,yv,yw,yx,yy,yz,yA,yB,yC,yD,yE,yF,yG,yH,yI,yJ,yK,yL,yM,yN,yO,yP,yQ,yR,yS,yT,yU,yV,yW,yX,yY,yZ,wa,wb,wc,wd,we,wg,wj,wm,wp,wq,lA9,lB9,lC9,lD9,lE9,lF9,lG9,lH9,wt,lI9,lJ9,lK9,lL9,lM9,lN9,lO9,lP9,lQ9,lR9,lS9,lT9,↓reduceIte,Nat.reduceAdd,Nat.reduceLeDiff, tb, pp, hE]
  rw [fb_q, zO, s0, zm, zO, s1]
  rfl
end
theorem F_end0 {m : Nat} {st : VSt} {b c a h : Nat} {res : Trm} {tgt : PV} {l : List (Str × Int)} {told : List Int} {ah : List PV} (M : Mch st b c told [] a h l ah) (C : RgC (celE l)) (g : res.Good OkT) (hm : res.depth + 1 ≤ m) (hl : told.length ≤ 490000) : Fm D (m + 1) i__end [visV a h res.pv tgt, .loc c, .loc b] st = .ok .non (st.set b (.lst ((told ++ [res.wo (celE l)]).map PV.int))) := by
  have vw := F_pworth M.ce C res g m hm
  have f2 : ∀ z1 z2 z3 z4, eFld 2 (eVar 0) [some (visV a h res.pv tgt), z1, z2, z3, z4] st = .ok res.pv st := fun _ _ _ _ => rfl
  have f0 : ∀ z1 z2 z3 z4, eFld 0 (eVar 0) [some (visV a h res.pv tgt), z1, z2, z3, z4] st = .ok (.loc a) st := fun _ _ _ _ => rfl
  have tb : ∀ z0 z2 z3 z4, eTruB (eVar 1) [z0, some (.loc c), z2, z3, z4] st = .ok (.bl false) st := fun _ _ _ _ => by
    unfold eTruB
    show (match deref st (.loc c) with
      | .lst xs => Res.ok (PV.bl (!xs.isEmpty)) st
      | _ => .bad) = _
    rw [M.vl]; rfl
  have pt := r_app (l := eVar 2) (a := eVar 3) (env := [some (visV a h res.pv tgt), some (.loc c), some (.loc b), some (.int (res.wo (celE l))), none]) (st := st) (st' := st) (n := b) (xs := told.map PV.int) (y := .int (res.wo (celE l))) rfl M.tl rfl M.tl (by rw [List.length_map]; omega) rfl
  have tk := set_take (st := st) (a := b) (p := .lst (told.map PV.int ++ [.int (res.wo (celE l))]))
  rw [c__end, b__end_q, List.map_append]
  show _ = Res.ok PV.non (st.set b (.lst (told.map PV.int ++ [.int (res.wo (celE l))])))
  unfold q__end_0 q__end_1
  simp -implicitDefEqProofs (disch := omega) only [za,zb,zc,zd,ze,zf,zg,zh,zi,zj,zk,zm,zn,zo,zp,zq,zt,zu,zv,zw,zx,zy,zA,zB,zC,zD,zE,zF,zG,zH,zI,zJ,zK,zL,zM,zN,zO,zP,zQ,zR,zS,zT,zU,zV,zW,zX,zY,zZ,ya,yb,yc,yd,ye,yf,yg,yh,yi,yj,yk,yl,ym,yn,yo,yp,yq,yr,yt,yu,yv,yw,yx,yy,yz,yA,yB,yC,yD,yE,yF,yG,yH,yI,yJ,yK,yL,yM,yN,yO,yP,yQ,yR,yS,yT,yU,yV,yW,yX,yY,yZ,wa,wb,wc,wd,we,wg,wj,wm,wp,wq,lA9,lB9,lC9,lD9,lE9,lF9,lG9,lH9,wt,lI9,lJ9,lK9,lL9,lM9,lN9,lO9,lP9,lQ9,lR9,lS9,lT9,↓reduceIte,Nat.reduceAdd,Nat.reduceLeDiff, f2, f0, vw, tb, pt, tk]
theorem F_end {m : Nat} {st : VSt} {b c a h a0 h0 : Nat} {res : Trm} {x : Option Str} {res0 tgt0 : PV} {l l0 : List (Str × Int)} {told : List Int} {vs ah : List PV} (M : Mch st b c told (vs ++ [visV a0 h0 res0 tgt0]) a h l ah) (h0l : deref st (.loc a0) = dE PV.int l0) (hl0 : l0.length < 1000) (C : RgC (celE l)) (g : res.Good OkT) (hm : res.depth + 1 ≤ m) :
    Fm D (m + 1) i__end [visV a h res.pv (optS x), .loc c, .loc b] st = .ok .non (match x with
      | some y => st.set a0 (dE PV.int (putE l0 y (res.wo (celE l))))
      | none => st) := by
  have vw := F_pworth M.ce C res g m hm
  have f2 : ∀ t z1 z2 z3 z4, eFld 2 (eVar 0) [some (visV a h res.pv t), z1, z2, z3, z4] st = .ok res.pv st := fun _ _ _ _ _ => rfl
  have f0 : ∀ t z1 z2 z3 z4, eFld 0 (eVar 0) [some (visV a h res.pv t), z1, z2, z3, z4] st = .ok (.loc a) st := fun _ _ _ _ _ => rfl
  have f3 : ∀ t z1 z2 z3 z4, eFld 3 (eVar 0) [some (visV a h res.pv t), z1, z2, z3, z4] st = .ok t st := fun _ _ _ _ _ => rfl
  have tb : ∀ z0 z2 z3 z4, eTruB (eVar 1) [z0, some (.loc c), z2, z3, z4] st = .ok (.bl true) st := fun _ _ _ _ => by
    unfold eTruB
    show (match deref st (.loc c) with
      | .lst xs => Res.ok (PV.bl (!xs.isEmpty)) st
      | _ => .bad) = _
    rw [M.vl]
    show Res.ok (PV.bl (!(vs ++ [visV a0 h0 res0 tgt0]).isEmpty)) st = _
    cases vs <;> rfl
  have vl := v_lastl M.vl
  have tk0 : st.take st.length = st := List.take_length
  rw [c__end, b__end_q]
  unfold q__end_0 q__end_1
  cases x with
  | none =>
    have e0 : optS none = PV.non := rfl
    rw [e0]
    simp -implicitDefEqProofs (disch := omega) only [za,zb,zc,zd,ze,zf,zg,zh,zi,zj,zk,zm,zn,zo,zp,zq,zt,zu,zv,zw,zx,zy,zA,zB,zC,zD,zE,zF,zG,zH,zI,zJ,zK,zL,zM,zN,zO,zP,zQ,zR,zS,zT,zU,zV,zW,zX,zY,zZ,ya,yb,yc,yd,ye,yf,yg,yh,yi,yj,yk,yl,ym,yn,yo,yp,yq,yr,yt,yu,yv,yw,yx,yy,yz,yA,yB,yC,yD,yE,yF,yG,yH,yI,yJ,yK,yL,yM,yN,yO,yP,yQ,yR,yS,yT,yU,yV,yW,yX,yY,yZ,wa,wb,wc,wd,we,wg,wj,wm,wp,wq,lA9,lB9,lC9,lD9,lE9,lF9,lG9,lH9,wt,lI9,lJ9,lK9,lL9,lM9,lN9,lO9,lP9,lQ9,lR9,lS9,lT9,↓reduceIte,Nat.reduceAdd,Nat.reduceLeDiff, f2, f0, f3, vw, tb, Vm.isNon]
  | some y =>
    have e0 : optS (some y) = PV.str y := rfl
    rw [e0]
    have pt := r_put (enc := PV.int) (d := eFld 0 (eVar 4)) (k := eFld 3 (eVar 0)) (v := eVar 3) (env := [some (visV a h res.pv (.str y)), some (.loc c), some (.loc b), some (.int (res.wo (celE l))), some (visV a0 h0 res0 tgt0)]) (st := st) (st1 := st) (st2 := st) (st3 := st) (n := a0) (x := y) (a := res.wo (celE l)) (l := l0) rfl rfl rfl h0l (by omega) rfl
    have tk := set_take (st := st) (a := a0) (p := dE PV.int (putE l0 y (res.wo (celE l))))
    simp -implicitDefEqProofs (disch := omega) only [za,zb,zc,zd,ze,zf,zg,zh,zi,zj,zk,zm,zn,zo,zp,zq,zt,zu,zv,zw,zx,zy,zA,zB,zC,zD,zE,zF,zG,zH,zI,zJ,zK,zL,zM,zN,zO,zP,zQ,zR,zS,zT,zU,zV,zW,zX,zY,zZ,ya,yb,yc,yd,ye,yf,yg,yh,yi,yj,yk,yl,ym,yn,yo,yp,yq,yr,yt,yu,yv,yw,yx,yy,yz,yA,yB,yC,yD,yE,yF,yG,yH,yI,yJ,yK,yL,yM,yN,yO,yP,yQ,yR,yS,yT,yU,yV,yW,yX,yY,yZ,wa,wb,wc,wd,we,wg,wj,wm,wp,wq,lA9,lB9,lC9,lD9,lE9,lF9,lG9,lH9,wt,lI9,lJ9,lK9,lL9,lM9,lN9,lO9,lP9,lQ9,lR9,lS9,lT9,↓reduceIte,Nat.reduceAdd,Nat.reduceLeDiff, f2, f0, f3, vw, tb, Vm.isNon, vl, pt, tk]
end Lk
namespace Lk
open PySem L2 Vm
theorem pures_rev {xs : List PV} (h : pures xs = true) : pures xs.reverse = true := by
  have pm : ∀ l : List PV, (∀ z ∈ l, pureP z = true) → pures l = true := fun l => by
    induction l with
    | nil => intro _; rfl
    | cons a l ih => intro h; rw [pures, h a List.mem_cons_self, ih fun z hz => h z (List.mem_cons_of_mem _ hz)]; rfl
  exact pm _ fun z hz => pures_mem h z (List.mem_reverse.mp hz)
abbrev eT (x v t : PV) (z : Option PV) : VEnv := [some x, some v, some t, z]
section
variable {m : Nat} {st : VSt} {b c a h : Nat} {res tgt : PV} {l : List (Str × Int)} {told : List Int} {vs R : List PV} (M : Mch st b c told vs a h l R) (C : RgC (celE l)) (hm : 4 ≤ m)
include M C hm
theorem F_gset {x : Str} {t : Trm} (g : t.Good OkT ∧ t.depth ≤ 2) (hl : l.length < 1000) : Fm D (m + 1) i__go_through [(Row.set x t).pv, visV a h res tgt, .loc b] st = .ok .non (st.set a (dE PV.int (putE l x (t.wo (celE l))))) := by
  have vw := F_pworth M.ce C t g.1 m (by omega)
  have ds : decide (("set" : Str) = "set") = true := by decide
  have f0 : ∀ z0 z2 z3, eFld 0 (eVar 1) [z0, some (visV a h res tgt), z2, z3] st = .ok (.loc a) st := fun _ _ _ => rfl
  have pt := r_put (enc := PV.int) (d := eFld 0 (eVar 1)) (k := eBin vIx (eVar 0) (eC (.int 1))) (v := eApp (Fm D m i_worth) (aCons (eBin vIx (eVar 0) (eC (.int 2))) (aCons (eFld 0 (eVar 1)) aNil))) (env := eT (Row.set x t).pv (visV a h res tgt) (.loc b) (some (.str "set"))) (st := st) (st1 := st) (st2 := st) (st3 := st) (n := a) (x := x) (a := t.wo (celE l)) (l := l)
    (by rw [Row.pv]; simp -implicitDefEqProofs (disch := omega) only [za,zb,zc,zd,ze,zf,zg,zh,zi,zj,zk,zm,zn,zo,zp,zq,zt,zu,zv,zw,zx,zy,zA,zB,zC,zD,zE,zF,zG,zH,zI,zJ,zK,zL,zM,zN,zO,zP,zQ,zR,zS,zT,zU,zV,zW,zX,zY,zZ,ya,yb,yc,yd,ye,yf,yg,yh,yi,yj,yk,yl,ym,yn,yo,yp,yq,yr,yt,yu,yv,yw,yx,yy,yz,yA,yB,yC,yD,yE,yF,yG,yH,yI,yJ,yK,yL,yM,yN,yO,yP,yQ,yR,yS,yT,yU,yV,yW,yX,yY,yZ,wa,wb,wc,wd,we,wg,wj,wm,wp,wq,lA9,lB9,lC9,lD9,lE9,lF9,lG9,lH9,wt,lI9,lJ9,lK9,lL9,lM9,lN9,lO9,lP9,lQ9,lR9,lS9,lT9,↓reduceIte,Nat.reduceAdd,Nat.reduceLeDiff, f0, vw]) rfl (by rw [Row.pv]; simp -implicitDefEqProofs (disch := omega) only [za,zb,zc,zd,ze,zf,zg,zh,zi,zj,zk,zm,zn,zo,zp,zq,zt,zu,zv,zw,zx,zy,zA,zB,zC,zD,zE,zF,zG,zH,zI,zJ,zK,zL,zM,zN,zO,zP,zQ,zR,zS,zT,zU,zV,zW,zX,zY,zZ,ya,yb,yc,yd,ye,yf,yg,yh,yi,yj,yk,yl,ym,yn,yo,yp,yq,yr,yt,yu,yv,yw,yx,yy,yz,yA,yB,yC,yD,yE,yF,yG,yH,yI,yJ,yK,yL,yM,yN,yO,yP,yQ,yR,yS,yT,yU,yV,yW,yX,yY,yZ,wa,wb,wc,wd,we,wg,wj,wm,wp,wq,lA9,lB9,lC9,lD9,lE9,lF9,lG9,lH9,wt,lI9,lJ9,lK9,lL9,lM9,lN9,lO9,lP9,lQ9,lR9,lS9,lT9,↓reduceIte,Nat.reduceAdd,Nat.reduceLeDiff]) M.ce (by omega) rfl
  have tk := set_take (st := st) (a := a) (p := dE PV.int (putE l x (t.wo (celE l))))
  rw [Row.pv] at pt ⊢
  rw [c__go_through, b__go_through_q]
  unfold q__go_through_0 q__go_through_1
  simp -implicitDefEqProofs (disch := omega) only [za,zb,zc,zd,ze,zf,zg,zh,zi,zj,zk,zm,zn,zo,zp,zq,zt,zu,zv,zw,zx,zy,zA,zB,zC,zD,zE,zF,zG,zH,zI,zJ,zK,zL,zM,zN,zO,zP,zQ,zR,zS,zT,zU,zV,zW,zX,zY,zZ,ya,yb,yc,yd,ye,yf,yg,yh,yi,yj,yk,yl,ym,yn,yo,yp,yq,yr,yt,yu,yv,yw,yx,yy,yz,yA,yB,yC,yD,yE,yF,yG,yH,yI,yJ,yK,yL,yM,yN,yO,yP,yQ,yR,yS,yT,yU,yV,yW,yX,yY,yZ,wa,wb,wc,wd,we,wg,wj,wm,wp,wq,lA9,lB9,lC9,lD9,lE9,lF9,lG9,lH9,wt,lI9,lJ9,lK9,lL9,lM9,lN9,lO9,lP9,lQ9,lR9,lS9,lT9,↓reduceIte,Nat.reduceAdd,Nat.reduceLeDiff, ds, pt, tk]
theorem F_gtell {t : Trm} (g : t.Good OkT ∧ t.depth ≤ 2) (hl : told.length ≤ 490000) : Fm D (m + 1) i__go_through [(Row.tell t).pv, visV a h res tgt, .loc b] st = .ok .non (st.set b (.lst ((told ++ [t.wo (celE l)]).map PV.int))) := by
  have vw := F_pworth M.ce C t g.1 m (by omega)
  have ds : decide (("tell" : Str) = "tell") = true := by decide
  have f0 : ∀ z0 z2 z3, eFld 0 (eVar 1) [z0, some (visV a h res tgt), z2, z3] st = .ok (.loc a) st := fun _ _ _ => rfl
  have pt := r_app (l := eVar 2) (a := eApp (Fm D m i_worth) (aCons (eBin vIx (eVar 0) (eC (.int 1))) (aCons (eFld 0 (eVar 1)) aNil))) (env := eT (Row.tell t).pv (visV a h res tgt) (.loc b) (some (.str "tell"))) (st := st) (st' := st) (n := b) (xs := told.map PV.int) (y := .int (t.wo (celE l)))
    rfl M.tl (by rw [Row.pv]; simp -implicitDefEqProofs (disch := omega) only [za,zb,zc,zd,ze,zf,zg,zh,zi,zj,zk,zm,zn,zo,zp,zq,zt,zu,zv,zw,zx,zy,zA,zB,zC,zD,zE,zF,zG,zH,zI,zJ,zK,zL,zM,zN,zO,zP,zQ,zR,zS,zT,zU,zV,zW,zX,zY,zZ,ya,yb,yc,yd,ye,yf,yg,yh,yi,yj,yk,yl,ym,yn,yo,yp,yq,yr,yt,yu,yv,yw,yx,yy,yz,yA,yB,yC,yD,yE,yF,yG,yH,yI,yJ,yK,yL,yM,yN,yO,yP,yQ,yR,yS,yT,yU,yV,yW,yX,yY,yZ,wa,wb,wc,wd,we,wg,wj,wm,wp,wq,lA9,lB9,lC9,lD9,lE9,lF9,lG9,lH9,wt,lI9,lJ9,lK9,lL9,lM9,lN9,lO9,lP9,lQ9,lR9,lS9,lT9,↓reduceIte,Nat.reduceAdd,Nat.reduceLeDiff, f0, vw]) M.tl (by rw [List.length_map]; omega) rfl
  have tk := set_take (st := st) (a := b) (p := .lst (told.map PV.int ++ [.int (t.wo (celE l))]))
  rw [Row.pv] at pt ⊢
  rw [c__go_through, b__go_through_q, List.map_append]
  show _ = Res.ok PV.non (st.set b (.lst (told.map PV.int ++ [.int (t.wo (celE l))])))
  unfold q__go_through_0 q__go_through_1
  simp -implicitDefEqProofs (disch := omega) only [za,zb,zc,zd,ze,zf,zg,zh,zi,zj,zk,zm,zn,zo,zp,zq,zt,zu,zv,zw,zx,zy,zA,zB,zC,zD,zE,zF,zG,zH,zI,zJ,zK,zL,zM,zN,zO,zP,zQ,zR,zS,zT,zU,zV,zW,zX,zY,zZ,ya,yb,yc,yd,ye,yf,yg,yh,yi,yj,yk,yl,ym,yn,yo,yp,yq,yr,yt,yu,yv,yw,yx,yy,yz,yA,yB,yC,yD,yE,yF,yG,yH,yI,yJ,yK,yL,yM,yN,yO,yP,yQ,yR,yS,yT,yU,yV,yW,yX,yY,yZ,wa,wb,wc,wd,we,wg,wj,wm,wp,wq,lA9,lB9,lC9,lD9,lE9,lF9,lG9,lH9,wt,lI9,lJ9,lK9,lL9,lM9,lN9,lO9,lP9,lQ9,lR9,lS9,lT9,↓reduceIte,Nat.reduceAdd,Nat.reduceLeDiff, k_ts, ds, pt, tk]
theorem F_gwhen {t : Trm} {rs : List Row} (g : t.Good OkT ∧ t.depth ≤ 2) (hR : R.length + rs.length ≤ 1000000) : Fm D (m + 1) i__go_through [(Row.when t rs).pv, visV a h res tgt, .loc b] st = .ok .non (if t.wo (celE l) = 0 then st else st.set h (.lst (R ++ (Row.pvs rs).reverse))) := by
  have vw := F_pworth M.ce C t g.1 m (by omega)
  have ds : decide (("when" : Str) = "when") = true := by decide
  have f0 : ∀ z0 z2 z3, eFld 0 (eVar 1) [z0, some (visV a h res tgt), z2, z3] st = .ok (.loc a) st := fun _ _ _ => rfl
  have pt := r_extT (l := eFld 1 (eVar 1)) (a := eRevT (eBin vIx (eVar 0) (eC (.int 2)))) (env := eT (Row.when t rs).pv (visV a h res tgt) (.loc b) (some (.str "when"))) (st := st) (st' := st) (n := h) (xs := R) (ys := (Row.pvs rs).reverse)
    rfl M.ae (by rw [Row.pv]; unfold eRevT; simp -implicitDefEqProofs (disch := omega) only [za,zb,zc,zd,ze,zf,zg,zh,zi,zj,zk,zm,zn,zo,zp,zq,zt,zu,zv,zw,zx,zy,zA,zB,zC,zD,zE,zF,zG,zH,zI,zJ,zK,zL,zM,zN,zO,zP,zQ,zR,zS,zT,zU,zV,zW,zX,zY,zZ,ya,yb,yc,yd,ye,yf,yg,yh,yi,yj,yk,yl,ym,yn,yo,yp,yq,yr,yt,yu,yv,yw,yx,yy,yz,yA,yB,yC,yD,yE,yF,yG,yH,yI,yJ,yK,yL,yM,yN,yO,yP,yQ,yR,yS,yT,yU,yV,yW,yX,yY,yZ,wa,wb,wc,wd,we,wg,wj,wm,wp,wq,lA9,lB9,lC9,lD9,lE9,lF9,lG9,lH9,wt,lI9,lJ9,lK9,lL9,lM9,lN9,lO9,lP9,lQ9,lR9,lS9,lT9,↓reduceIte,Nat.reduceAdd,Nat.reduceLeDiff]) M.ae (by rw [List.length_reverse, pvs_map, List.length_map]; exact hR) (pures_rev (Row.pures rs))
  have tk := set_take (st := st) (a := h) (p := .lst (R ++ (Row.pvs rs).reverse))
  rw [Row.pv] at pt ⊢
  rw [c__go_through, b__go_through_q]
  unfold q__go_through_0 q__go_through_1
  by_cases h0 : t.wo (celE l) = 0
  · rw [if_pos h0]
    have d0 : decide (t.wo (celE l) = 0) = true := decide_eq_true h0
    simp -implicitDefEqProofs (disch := omega) only [za,zb,zc,zd,ze,zf,zg,zh,zi,zj,zk,zm,zn,zo,zp,zq,zt,zu,zv,zw,zx,zy,zA,zB,zC,zD,zE,zF,zG,zH,zI,zJ,zK,zL,zM,zN,zO,zP,zQ,zR,zS,zT,zU,zV,zW,zX,zY,zZ,ya,yb,yc,yd,ye,yf,yg,yh,yi,yj,yk,yl,ym,yn,yo,yp,yq,yr,yt,yu,yv,yw,yx,yy,yz,yA,yB,yC,yD,yE,yF,yG,yH,yI,yJ,yK,yL,yM,yN,yO,yP,yQ,yR,yS,yT,yU,yV,yW,yX,yY,yZ,wa,wb,wc,wd,we,wg,wj,wm,wp,wq,lA9,lB9,lC9,lD9,lE9,lF9,lG9,lH9,wt,lI9,lJ9,lK9,lL9,lM9,lN9,lO9,lP9,lQ9,lR9,lS9,lT9,↓reduceIte,Nat.reduceAdd,Nat.reduceLeDiff, k_ws, k_wt, ds, f0, vw, d0]
  · rw [if_neg h0]
    have d0 : decide (t.wo (celE l) = 0) = false := decide_eq_false h0
    simp -implicitDefEqProofs (disch := omega) only [za,zb,zc,zd,ze,zf,zg,zh,zi,zj,zk,zm,zn,zo,zp,zq,zt,zu,zv,zw,zx,zy,zA,zB,zC,zD,zE,zF,zG,zH,zI,zJ,zK,zL,zM,zN,zO,zP,zQ,zR,zS,zT,zU,zV,zW,zX,zY,zZ,ya,yb,yc,yd,ye,yf,yg,yh,yi,yj,yk,yl,ym,yn,yo,yp,yq,yr,yt,yu,yv,yw,yx,yy,yz,yA,yB,yC,yD,yE,yF,yG,yH,yI,yJ,yK,yL,yM,yN,yO,yP,yQ,yR,yS,yT,yU,yV,yW,yX,yY,yZ,wa,wb,wc,wd,we,wg,wj,wm,wp,wq,lA9,lB9,lC9,lD9,lE9,lF9,lG9,lH9,wt,lI9,lJ9,lK9,lL9,lM9,lN9,lO9,lP9,lQ9,lR9,lS9,lT9,↓reduceIte,Nat.reduceAdd,Nat.reduceLeDiff, k_ws, k_wt, ds, f0, vw, d0, pt, tk]
theorem F_gagain0 {n : Int} {rs : List Row} (hn : ¬ 0 < n) : Fm D (m + 1) i__go_through [(Row.again n rs).pv, visV a h res tgt, .loc b] st = .ok .non st := by
  have dn : decide (n > 0) = false := decide_eq_false hn
  have dn' : decide (0 < n) = false := decide_eq_false hn
  rw [Row.pv, c__go_through, b__go_through_q]
  unfold q__go_through_0 q__go_through_1
  simp -implicitDefEqProofs (disch := omega) only [za,zb,zc,zd,ze,zf,zg,zh,zi,zj,zk,zm,zn,zo,zp,zq,zt,zu,zv,zw,zx,zy,zA,zB,zC,zD,zE,zF,zG,zH,zI,zJ,zK,zL,zM,zN,zO,zP,zQ,zR,zS,zT,zU,zV,zW,zX,zY,zZ,ya,yb,yc,yd,ye,yf,yg,yh,yi,yj,yk,yl,ym,yn,yo,yp,yq,yr,yt,yu,yv,yw,yx,yy,yz,yA,yB,yC,yD,yE,yF,yG,yH,yI,yJ,yK,yL,yM,yN,yO,yP,yQ,yR,yS,yT,yU,yV,yW,yX,yY,yZ,wa,wb,wc,wd,we,wg,wj,wm,wp,wq,lA9,lB9,lC9,lD9,lE9,lF9,lG9,lH9,wt,lI9,lJ9,lK9,lL9,lM9,lN9,lO9,lP9,lQ9,lR9,lS9,lT9,↓reduceIte,Nat.reduceAdd,Nat.reduceLeDiff, k_as, k_at, k_aw, dn, dn']
theorem F_gagain {n : Int} {rs : List Row} (hn : 0 < n) (hR : R.length + rs.length + 1 ≤ 1000000) : Fm D (m + 1) i__go_through [(Row.again n rs).pv, visV a h res tgt, .loc b] st = .ok .non ((st.set h (.lst (R ++ [(Row.again (n - 1) rs).pv]))).set h (.lst (R ++ [(Row.again (n - 1) rs).pv] ++ (Row.pvs rs).reverse))) := by
  have dn : decide (n > 0) = true := decide_eq_true hn
  have dn' : decide (0 < n) = true := decide_eq_true hn
  have p0 := r_app (l := eFld 1 (eVar 1)) (a := eTup (aCons (eC (.str "again")) (aCons (eBin vSub (eBin vIx (eVar 0) (eC (.int 1))) (eC (.int 1))) (aCons (eBin vIx (eVar 0) (eC (.int 2))) aNil)))) (env := eT (Row.again n rs).pv (visV a h res tgt) (.loc b) (some (.str "again"))) (st := st) (st' := st) (n := h) (xs := R) (y := (Row.again (n - 1) rs).pv)
    rfl M.ae (by rw [Row.pv, Row.pv]; simp -implicitDefEqProofs (disch := omega) only [za,zb,zc,zd,ze,zf,zg,zh,zi,zj,zk,zm,zn,zo,zp,zq,zt,zu,zv,zw,zx,zy,zA,zB,zC,zD,zE,zF,zG,zH,zI,zJ,zK,zL,zM,zN,zO,zP,zQ,zR,zS,zT,zU,zV,zW,zX,zY,zZ,ya,yb,yc,yd,ye,yf,yg,yh,yi,yj,yk,yl,ym,yn,yo,yp,yq,yr,yt,yu,yv,yw,yx,yy,yz,yA,yB,yC,yD,yE,yF,yG,yH,yI,yJ,yK,yL,yM,yN,yO,yP,yQ,yR,yS,yT,yU,yV,yW,yX,yY,yZ,wa,wb,wc,wd,we,wg,wj,wm,wp,wq,lA9,lB9,lC9,lD9,lE9,lF9,lG9,lH9,wt,lI9,lJ9,lK9,lL9,lM9,lN9,lO9,lP9,lQ9,lR9,lS9,lT9,↓reduceIte,Nat.reduceAdd,Nat.reduceLeDiff]) M.ae (by omega) (Row.pure _)
  have pt := r_extT (l := eFld 1 (eVar 1)) (a := eRevT (eBin vIx (eVar 0) (eC (.int 2)))) (env := eT (Row.again n rs).pv (visV a h res tgt) (.loc b) (some (.str "again"))) (st := st.set h (.lst (R ++ [(Row.again (n - 1) rs).pv]))) (st' := st.set h (.lst (R ++ [(Row.again (n - 1) rs).pv]))) (n := h) (xs := R ++ [(Row.again (n - 1) rs).pv]) (ys := (Row.pvs rs).reverse)
    rfl (deref_ss M.hl) (by rw [Row.pv]; unfold eRevT; simp -implicitDefEqProofs (disch := omega) only [za,zb,zc,zd,ze,zf,zg,zh,zi,zj,zk,zm,zn,zo,zp,zq,zt,zu,zv,zw,zx,zy,zA,zB,zC,zD,zE,zF,zG,zH,zI,zJ,zK,zL,zM,zN,zO,zP,zQ,zR,zS,zT,zU,zV,zW,zX,zY,zZ,ya,yb,yc,yd,ye,yf,yg,yh,yi,yj,yk,yl,ym,yn,yo,yp,yq,yr,yt,yu,yv,yw,yx,yy,yz,yA,yB,yC,yD,yE,yF,yG,yH,yI,yJ,yK,yL,yM,yN,yO,yP,yQ,yR,yS,yT,yU,yV,yW,yX,yY,yZ,wa,wb,wc,wd,we,wg,wj,wm,wp,wq,lA9,lB9,lC9,lD9,lE9,lF9,lG9,lH9,wt,lI9,lJ9,lK9,lL9,lM9,lN9,lO9,lP9,lQ9,lR9,lS9,lT9,↓reduceIte,Nat.reduceAdd,Nat.reduceLeDiff]) (deref_ss M.hl) (by rw [List.length_reverse, pvs_map, List.length_map, List.length_append]; show R.length + 1 + _ ≤ _; omega) (pures_rev (Row.pures rs))
  have tk : ((st.set h (.lst (R ++ [(Row.again (n - 1) rs).pv]))).set h (.lst (R ++ [(Row.again (n - 1) rs).pv] ++ (Row.pvs rs).reverse))).take st.length = (st.set h (.lst (R ++ [(Row.again (n - 1) rs).pv]))).set h (.lst (R ++ [(Row.again (n - 1) rs).pv] ++ (Row.pvs rs).reverse)) := List.take_of_length_le (by rw [List.length_set, List.length_set]; exact Nat.le_refl _)
  have er : (Row.again n rs).pv = .tup [.str "again", .int n, .tup (Row.pvs rs)] := by rw [Row.pv]
  rw [er] at p0 pt
  rw [er, c__go_through, b__go_through_q]
  unfold q__go_through_0 q__go_through_1
  simp -implicitDefEqProofs (disch := omega) only [za,zb,zc,zd,ze,zf,zg,zh,zi,zj,zk,zm,zn,zo,zp,zq,zt,zu,zv,zw,zx,zy,zA,zB,zC,zD,zE,zF,zG,zH,zI,zJ,zK,zL,zM,zN,zO,zP,zQ,zR,zS,zT,zU,zV,zW,zX,zY,zZ,ya,yb,yc,yd,ye,yf,yg,yh,yi,yj,yk,yl,ym,yn,yo,yp,yq,yr,yt,yu,yv,yw,yx,yy,yz,yA,yB,yC,yD,yE,yF,yG,yH,yI,yJ,yK,yL,yM,yN,yO,yP,yQ,yR,yS,yT,yU,yV,yW,yX,yY,yZ,wa,wb,wc,wd,we,wg,wj,wm,wp,wq,lA9,lB9,lC9,lD9,lE9,lF9,lG9,lH9,wt,lI9,lJ9,lK9,lL9,lM9,lN9,lO9,lP9,lQ9,lR9,lS9,lT9,↓reduceIte,Nat.reduceAdd,Nat.reduceLeDiff, k_as, k_at, k_aw, dn, dn', p0, pt, tk]
end
end Lk
namespace Lk
open PySem L2 Vm
theorem cel_cells {ps : List Str} {ns : List Int} : celE (cellsE ps ns) = parC ps (ns.map fun x => x % 1000003) := by
  have key : ∀ (L : List (Str × Int)) (acc : List (Str × Int)), celE (L.foldl (fun l p => putE l p.1 (p.2 % 1000003)) acc) = L.foldl (fun c p => updC c p.1 (p.2 % 1000003)) (celE acc) := fun L => by
    induction L with
    | nil => intro acc; rfl
    | cons p L ih => intro acc; rw [List.foldl_cons, List.foldl_cons, ih, cel_put]
  unfold cellsE parC
  rw [key, List.zip_map_right, List.foldl_map]
  rfl
theorem ko_cells {ws ps : List Str} {ns : List Int} (h : ∀ x ∈ ps, x ∈ ws) : KOk ws (cellsE ps ns) := by
  have key : ∀ (L : List (Str × Int)) (acc : List (Str × Int)), (∀ p ∈ L, p.1 ∈ ws) → KOk ws acc → KOk ws (L.foldl (fun l p => putE l p.1 (p.2 % 1000003)) acc) := fun L => by
    induction L with
    | nil => intro acc _ k; exact k
    | cons p L ih => intro acc hL k; rw [List.foldl_cons]; exact ih _ (fun q hq => hL q (List.mem_cons_of_mem _ hq)) (k.put (hL p List.mem_cons_self) _)
  exact key _ [] (fun p hp => h _ (List.of_mem_zip (a := p.1) (b := p.2) hp).1) ⟨List.nodup_nil, fun x hx => (by cases hx)⟩
theorem intsP_map : ∀ xs : List Int, intsP (xs.map PV.int) = some xs
  | [] => rfl
  | x :: xs => by
    show (intsP (xs.map PV.int)).map (x :: ·) = _
    rw [intsP_map xs]; rfl
theorem r_newV {q : Fnc} {p : PV} {ns : List Int} {tgt : PV} {st : VSt} (hq : deref st p = .lst (ns.map PV.int)) (hp : q.pars.length ≤ 1000) (hr : q.rows.length ≤ 1000000) (ht : pureP tgt = true) :
    newV [q.pv, p, tgt] st = .ok (visV st.length (st.length + 1) q.res.pv tgt) (st ++ [dE PV.int (cellsE q.pars ns)] ++ [.lst (Row.pvs q.rows).reverse]) := by
  unfold newV Fnc.pv
  dsimp only
  rw [strsOf_map, hq]
  dsimp only
  rw [intsP_map]
  dsimp only
  rw [if_pos ⟨hp, by rw [pvs_map, List.length_map]; exact hr, Row.pures _, q.res.pure, ht⟩]
theorem r_appV {l a : EM} {env : VEnv} {st st' : VSt} {n : Nat} {xs : List PV} {y : PV} (hl : l env st = .ok (.loc n) st) (hd : deref st (.loc n) = .lst xs) (ha : a env st = .ok y st') (hd' : deref st' (.loc n) = .lst xs) (hn : xs.length < 1000000) (hy : nV y = true) (hp : pures xs = false) : sAppV l a env st = .nx env (st'.set n (.lst (xs ++ [y]))) := by
  unfold sAppV
  rw [hl, zk]
  dsimp only
  rw [hd]
  show Res.s (a env st) _ = _
  rw [ha, zk]
  rw [hd']
  dsimp only
  rw [if_pos ⟨hn, hy, hp⟩]
theorem deref_of {st st' : VSt} {k : Nat} (h : st'[k]? = st[k]?) : deref st' (.loc k) = deref st (.loc k) := by
  show st'.getD k .non = st.getD k .non
  rw [List.getD_eq_getElem?_getD, List.getD_eq_getElem?_getD, h]
theorem pures_vis {vs : List PV} {a h : Nat} {res tgt : PV} : pures (vs ++ [visV a h res tgt]) = false := by
  rw [pures_app]
  show (pures vs && (false && true)) = false
  simp
def RunOk (m : Nat) (P I F : PV) (E : Sem) (ws : List Str) (N : Nat) (rs : List Row) (k0 : Nat) : Prop := ∀ (b c a d : Nat) (st : VSt) (told : List Int) (vs : List PV) (res tgt : PV) (l : List (Str × Int)) (R : List PV) (z5 z6 z7 z8 z9 : Option PV),
  Mch st b c told (vs ++ [visV a d res tgt]) a d l (R ++ (Row.pvs rs).reverse) → KOk ws l → RgC (celE l) → (Row.gos E rs (celE l, told)).2.length ≤ 490000 → R.length + Row.szs rs ≤ 900000 → vs.length + N ≤ 1000 → pureP res = true → pureP tgt = true →
  ∃ k st' l' y5 y6 y7 y8 y9, k ≤ k0 ∧ Runs m k (eR P I F b c z5 z6 z7 z8 z9) st (eR P I F b c y5 y6 y7 y8 y9) st' ∧ Mch st' b c (Row.gos E rs (celE l, told)).2 (vs ++ [visV a d res tgt]) a d l' R ∧ KOk ws l' ∧ celE l' = (Row.gos E rs (celE l, told)).1 ∧ Fr st st' a d b c
theorem rev_one (r : Row) : (Row.pvs [r]).reverse = [r.pv] := by rw [pvs_map]; rfl
theorem rev_cons (R : List PV) (r : Row) (rs : List Row) : R ++ (Row.pvs (r :: rs)).reverse = (R ++ (Row.pvs rs).reverse) ++ (Row.pvs [r]).reverse := by
  rw [rev_one, pvs_map, pvs_map, List.map_cons, List.reverse_cons, List.append_assoc]
section
variable {m : Nat} {P I F : PV} {E : Sem} (hE : RgE E) {ws : List Str} {N : Nat}
theorem run_nil : RunOk m P I F E ws N [] 0 := fun b c a d st told vs res tgt l R z5 z6 z7 z8 z9 M K C _ _ _ _ _ => by
  refine ⟨0, st, l, z5, z6, z7, z8, z9, Nat.le_refl _, Runs.refl, ?_, K, by rw [gos_nil], Fr.refl⟩
  rw [gos_nil]
  rw [pvs_map, List.map_nil, List.reverse_nil, List.append_nil] at M
  exact M
include hE
theorem run_cons {r : Row} {rs : List Row} {k1 k2 : Nat} (g : Row.Gds (r :: rs)) (h1 : RunOk m P I F E ws N [r] k1) (h2 : RunOk m P I F E ws N rs k2) : RunOk m P I F E ws N (r :: rs) (k1 + k2) := fun b c a d st told vs res tgt l R z5 z6 z7 z8 z9 M K C hT hR hN pr pt => by
  rw [gds_cons] at g
  have e : ∀ s, Row.gos E (r :: rs) s = Row.gos E rs (Row.gos E [r] s) := fun s => by rw [gos_cons, gos_cons, gos_nil]
  rw [rev_cons] at M
  rw [e] at hT ⊢
  have x1 := gos_ext (E := E) rs (Row.gos E [r] (celE l, told))
  have ls := len_szs rs
  rw [szs_cons] at hR
  obtain ⟨k, st1, l1, y5, y6, y7, y8, y9, hk, ru, M1, K1, c1, f1⟩ := h1 b c a d st told vs res tgt l (R ++ (Row.pvs rs).reverse) z5 z6 z7 z8 z9 M K C (by omega) (by rw [List.length_append, List.length_reverse, pvs_map, List.length_map, szs_cons, szs_nil]; omega) hN pr pt
  have C1 : RgC (celE l1) := by
    rw [c1]
    exact gos_rg hE [r] (by rw [gds_cons]; exact ⟨g.1, by unfold Row.Gds; trivial⟩) _ C
  have es : (celE l1, (Row.gos E [r] (celE l, told)).2) = Row.gos E [r] (celE l, told) := by rw [c1]
  obtain ⟨k', st2, l2, w5, w6, w7, w8, w9, hk', ru', M2, K2, c2, f2⟩ := h2 b c a d st1 (Row.gos E [r] (celE l, told)).2 vs res tgt l1 R y5 y6 y7 y8 y9 M1 K1 C1 (by rw [es]; exact hT) (by omega) hN pr pt
  rw [es] at M2 c2
  exact ⟨k + k', st2, l2, w5, w6, w7, w8, w9, by omega, ru.then ru', M2, K2, c2, f1.then f2⟩
omit hE
def noCall : Row → Bool
  | .call _ _ _ => false
  | _ => true
theorem kd_no {r : Row} (hr : noCall r = true) {b c : Nat} {z5 z7 z8 z9 : Option PV} (s : VSt) : eBin (vEqF false) (eBin vIx (eVar 6) (eC (.int 0))) (eC (.str "call")) (eR P I F b c z5 (some r.pv) z7 z8 z9) s = .ok (.bl false) s := by
  cases r with
  | set x t => rw [Row.pv]; simp -implicitDefEqProofs (disch := omega) only [za,zb,zc,zd,ze,zf,zg,zh,zi,zj,zk,zm,zn,zo,zp,zq,zt,zu,zv,zw,zx,zy,zA,zB,zC,zD,zE,zF,zG,zH,zI,zJ,zK,zL,zM,zN,zO,zP,zQ,zR,zS,zT,zU,zV,zW,zX,zY,zZ,ya,yb,yc,yd,ye,yf,yg,yh,yi,yj,yk,yl,ym,yn,yo,yp,yq,yr,yt,yu,yv,yw,yx,yy,yz,yA,yB,yC,yD,yE,yF,yG,yH,yI,yJ,yK,yL,yM,yN,yO,yP,yQ,yR,yS,yT,yU,yV,yW,yX,yY,yZ,wa,wb,wc,wd,we,wg,wj,wm,wp,wq,lA9,lB9,lC9,lD9,lE9,lF9,lG9,lH9,wt,lI9,lJ9,lK9,lL9,lM9,lN9,lO9,lP9,lQ9,lR9,lS9,lT9,↓reduceIte,Nat.reduceAdd,Nat.reduceLeDiff, k_sc]
  | tell t => rw [Row.pv]; simp -implicitDefEqProofs (disch := omega) only [za,zb,zc,zd,ze,zf,zg,zh,zi,zj,zk,zm,zn,zo,zp,zq,zt,zu,zv,zw,zx,zy,zA,zB,zC,zD,zE,zF,zG,zH,zI,zJ,zK,zL,zM,zN,zO,zP,zQ,zR,zS,zT,zU,zV,zW,zX,zY,zZ,ya,yb,yc,yd,ye,yf,yg,yh,yi,yj,yk,yl,ym,yn,yo,yp,yq,yr,yt,yu,yv,yw,yx,yy,yz,yA,yB,yC,yD,yE,yF,yG,yH,yI,yJ,yK,yL,yM,yN,yO,yP,yQ,yR,yS,yT,yU,yV,yW,yX,yY,yZ,wa,wb,wc,wd,we,wg,wj,wm,wp,wq,lA9,lB9,lC9,lD9,lE9,lF9,lG9,lH9,wt,lI9,lJ9,lK9,lL9,lM9,lN9,lO9,lP9,lQ9,lR9,lS9,lT9,↓reduceIte,Nat.reduceAdd,Nat.reduceLeDiff, k_tc]
  | call x f ts => cases hr
  | when t rs => rw [Row.pv]; simp -implicitDefEqProofs (disch := omega) only [za,zb,zc,zd,ze,zf,zg,zh,zi,zj,zk,zm,zn,zo,zp,zq,zt,zu,zv,zw,zx,zy,zA,zB,zC,zD,zE,zF,zG,zH,zI,zJ,zK,zL,zM,zN,zO,zP,zQ,zR,zS,zT,zU,zV,zW,zX,zY,zZ,ya,yb,yc,yd,ye,yf,yg,yh,yi,yj,yk,yl,ym,yn,yo,yp,yq,yr,yt,yu,yv,yw,yx,yy,yz,yA,yB,yC,yD,yE,yF,yG,yH,yI,yJ,yK,yL,yM,yN,yO,yP,yQ,yR,yS,yT,yU,yV,yW,yX,yY,yZ,wa,wb,wc,wd,we,wg,wj,wm,wp,wq,lA9,lB9,lC9,lD9,lE9,lF9,lG9,lH9,wt,lI9,lJ9,lK9,lL9,lM9,lN9,lO9,lP9,lQ9,lR9,lS9,lT9,↓reduceIte,Nat.reduceAdd,Nat.reduceLeDiff, k_wc]
  | again n rs => rw [Row.pv]; simp -implicitDefEqProofs (disch := omega) only [za,zb,zc,zd,ze,zf,zg,zh,zi,zj,zk,zm,zn,zo,zp,zq,zt,zu,zv,zw,zx,zy,zA,zB,zC,zD,zE,zF,zG,zH,zI,zJ,zK,zL,zM,zN,zO,zP,zQ,zR,zS,zT,zU,zV,zW,zX,zY,zZ,ya,yb,yc,yd,ye,yf,yg,yh,yi,yj,yk,yl,ym,yn,yo,yp,yq,yr,yt,yu,yv,yw,yx,yy,yz,yA,yB,yC,yD,yE,yF,yG,yH,yI,yJ,yK,yL,yM,yN,yO,yP,yQ,yR,yS,yT,yU,yV,yW,yX,yY,yZ,wa,wb,wc,wd,we,wg,wj,wm,wp,wq,lA9,lB9,lC9,lD9,lE9,lF9,lG9,lH9,wt,lI9,lJ9,lK9,lL9,lM9,lN9,lO9,lP9,lQ9,lR9,lS9,lT9,↓reduceIte,Nat.reduceAdd,Nat.reduceLeDiff, k_ac]
/-- one turn, over a row that calls nothing -/
theorem step_go {r : Row} (hr : noCall r = true) {b c a d : Nat} {st st2 : VSt} {told : List Int} {vs : List PV} {res tgt : PV} {l : List (Str × Int)} {R : List PV} {z5 z6 z7 z8 z9 : Option PV} (M : Mch st b c told (vs ++ [visV a d res tgt]) a d l (R ++ [r.pv]))
    (fg : Fm D m i__go_through [r.pv, visV a d res tgt, .loc b] (st.set d (.lst R)) = .ok .non st2) : Runs m 1 (eR P I F b c z5 z6 z7 z8 z9) st (eR P I F b c (some (visV a d res tgt)) (some r.pv) z7 z8 z9) st2 := by
  have kd := kd_no (P := P) (I := I) (F := F) hr (b := b) (c := c) (z5 := some (visV a d res tgt)) (z7 := z7) (z8 := z8) (z9 := z9) (st.set d (.lst R))
  refine Runs.one M.vl ?_
  rw [turn_row M.vl M.ae]
  unfold h_3
  rw [zO, zT, kd, zk, zt, if_neg (by decide)]
  simp -implicitDefEqProofs (disch := omega) only [za,zb,zc,zd,ze,zf,zg,zh,zi,zj,zk,zm,zn,zo,zp,zq,zt,zu,zv,zw,zx,zy,zA,zB,zC,zD,zE,zF,zG,zH,zI,zJ,zK,zL,zM,zN,zO,zP,zQ,zR,zS,zT,zU,zV,zW,zX,zY,zZ,ya,yb,yc,yd,ye,yf,yg,yh,yi,yj,yk,yl,ym,yn,yo,yp,yq,yr,yt,yu,yv,yw,yx,yy,yz,yA,yB,yC,yD,yE,yF,yG,yH,yI,yJ,yK,yL,yM,yN,yO,yP,yQ,yR,yS,yT,yU,yV,yW,yX,yY,yZ,wa,wb,wc,wd,we,wg,wj,wm,wp,wq,lA9,lB9,lC9,lD9,lE9,lF9,lG9,lH9,wt,lI9,lJ9,lK9,lL9,lM9,lN9,lO9,lP9,lQ9,lR9,lS9,lT9,↓reduceIte,Nat.reduceAdd,Nat.reduceLeDiff, fg]
variable (hw : ws.length < 64) (hm : 4 ≤ m)
include hm
theorem run_set {x : Str} {t : Trm} (hw : ws.length < 64) (hx : x ∈ ws) (g : t.Good OkT ∧ t.depth ≤ 2) : RunOk (m + 1) P I F E ws N [.set x t] 1 := fun b c a d st told vs res tgt l R z5 z6 z7 z8 z9 M K C hT hR hN pr pt => by
  rw [rev_one] at M
  have kl := K.len
  have M1 := M.setH R
  have fg := F_gset (res := res) (tgt := tgt) M1 C hm (x := x) g (by omega)
  have e1 : Row.gos E [.set x t] (celE l, told) = (updC (celE l) x (t.wo (celE l)), told) := by rw [gos_cons, gos_nil, Row.go]
  rw [e1]
  exact ⟨1, _, putE l x (t.wo (celE l)), _, _, z7, z8, z9, Nat.le_refl _, step_go rfl M fg, M1.setA _, K.put hx _, cel_put, (Fr.set (.inr (.inl rfl))).then (Fr.set (.inl rfl))⟩
theorem run_tell {t : Trm} (g : t.Good OkT ∧ t.depth ≤ 2) : RunOk (m + 1) P I F E ws N [.tell t] 1 := fun b c a d st told vs res tgt l R z5 z6 z7 z8 z9 M K C hT hR hN pr pt => by
  rw [rev_one] at M
  have M1 := M.setH R
  have e1 : Row.gos E [.tell t] (celE l, told) = (celE l, told ++ [t.wo (celE l)]) := by rw [gos_cons, gos_nil, Row.go]
  rw [e1] at hT ⊢
  have hT : (told ++ [t.wo (celE l)]).length ≤ 490000 := hT
  rw [List.length_append] at hT
  have fg := F_gtell (res := res) (tgt := tgt) M1 C hm g (by omega)
  exact ⟨1, _, l, _, _, z7, z8, z9, Nat.le_refl _, step_go rfl M fg, M1.setB _, K, rfl, (Fr.set (.inr (.inl rfl))).then (Fr.set (.inr (.inr (.inl rfl))))⟩
theorem run_when {t : Trm} {rs : List Row} {k0 : Nat} (g : t.Good OkT ∧ t.depth ≤ 2) (h : RunOk (m + 1) P I F E ws N rs k0) : RunOk (m + 1) P I F E ws N [.when t rs] (1 + k0) := fun b c a d st told vs res tgt l R z5 z6 z7 z8 z9 M K C hT hR hN pr pt => by
  rw [rev_one] at M
  have M1 := M.setH R
  have ls := len_szs rs
  rw [szs_cons, szs_nil, sz_when] at hR
  have fg := F_gwhen (res := res) (tgt := tgt) M1 C hm (rs := rs) g (by omega)
  have e1 : Row.gos E [.when t rs] (celE l, told) = if t.wo (celE l) = 0 then (celE l, told) else Row.gos E rs (celE l, told) := by rw [gos_cons, gos_nil, Row.go]
  rw [e1] at hT ⊢
  by_cases h0 : t.wo (celE l) = 0
  · rw [if_pos h0] at fg ⊢
    exact ⟨1, _, l, _, _, z7, z8, z9, by omega, step_go rfl M fg, M1, K, rfl, Fr.set (.inr (.inl rfl))⟩
  · rw [if_neg h0] at fg hT ⊢
    obtain ⟨k, st2, l2, w5, w6, w7, w8, w9, hk, ru, M2, K2, c2, f2⟩ := h b c a d _ told vs res tgt l R _ _ z7 z8 z9 (M1.setH (R ++ (Row.pvs rs).reverse)) K C hT (by omega) hN pr pt
    exact ⟨1 + k, st2, l2, w5, w6, w7, w8, w9, by omega, (step_go rfl M fg).then ru, M2, K2, c2, ((Fr.set (.inr (.inl rfl))).then (Fr.set (.inr (.inl rfl)))).then f2⟩
include hE
theorem run_again {rs : List Row} {k0 : Nat} (g : Row.Gds rs) (h : RunOk (m + 1) P I F E ws N rs k0) : ∀ (k : Nat) (n : Int), n.toNat = k → RunOk (m + 1) P I F E ws N [.again n rs] (k * (1 + k0) + 1)
  | 0, n, hn => fun b c a d st told vs res tgt l R z5 z6 z7 z8 z9 M K C hT hR hN pr pt => by
    rw [rev_one] at M
    have M1 := M.setH R
    have fg := F_gagain0 (res := res) (tgt := tgt) M1 C hm (n := n) (rs := rs) (by omega)
    have e1 : Row.gos E [.again n rs] (celE l, told) = (celE l, told) := by rw [gos_cons, gos_nil, Row.go, hn]; rfl
    rw [e1]
    exact ⟨1, _, l, _, _, z7, z8, z9, by omega, step_go rfl M fg, M1, K, rfl, Fr.set (.inr (.inl rfl))⟩
  | k + 1, n, hn => fun b c a d st told vs res tgt l R z5 z6 z7 z8 z9 M K C hT hR hN pr pt => by
    rw [rev_one] at M
    have M1 := M.setH R
    have ls := len_szs rs
    rw [szs_cons, szs_nil, sz_again] at hR
    have fg := F_gagain (res := res) (tgt := tgt) M1 C hm (n := n) (rs := rs) (by omega) (by omega)
    have M2 := (M1.setH (R ++ [(Row.again (n - 1) rs).pv])).setH (R ++ [(Row.again (n - 1) rs).pv] ++ (Row.pvs rs).reverse)
    have e1 : Row.gos E [.again n rs] (celE l, told) = Row.gos E [.again (n - 1) rs] (Row.gos E rs (celE l, told)) := by
      rw [gos_cons, gos_nil, gos_cons, gos_nil, Row.go, Row.go, hn, show (n - 1).toNat = k by omega]; rfl
    rw [e1] at hT ⊢
    have x1 := gos_ext (E := E) [.again (n - 1) rs] (Row.gos E rs (celE l, told))
    obtain ⟨k1, st2, l2, w5, w6, w7, w8, w9, hk, ru, M3, K3, c3, f3⟩ := h b c a d _ told vs res tgt l (R ++ [(Row.again (n - 1) rs).pv]) (some (visV a d res tgt)) (some (Row.again n rs).pv) z7 z8 z9 M2 K C (by omega) (by rw [List.length_append]; show R.length + 1 + _ ≤ _; omega) hN pr pt
    have C3 : RgC (celE l2) := by
      rw [c3]
      exact gos_rg hE rs g _ C
    have es : (celE l2, (Row.gos E rs (celE l, told)).2) = Row.gos E rs (celE l, told) := by rw [c3]
    rw [← rev_one] at M3
    obtain ⟨k2, st4, l4, v5, v6, v7, v8, v9, hk2, ru2, M4, K4, c4, f4⟩ := run_again g h k (n - 1) (by omega) b c a d st2 (Row.gos E rs (celE l, told)).2 vs res tgt l2 R w5 w6 w7 w8 w9 M3 K3 C3 (by rw [es]; exact hT) (by rw [szs_cons, szs_nil, sz_again]; omega) hN pr pt
    rw [es] at M4 c4
    refine ⟨1 + k1 + k2, st4, l4, v5, v6, v7, v8, v9, ?_, ((step_go rfl M fg).then ru).then ru2, M4, K4, c4, ((((Fr.set (.inr (.inl rfl))).then (Fr.set (.inr (.inl rfl)))).then (Fr.set (.inr (.inl rfl)))).then f3).then f4⟩
    rw [Nat.succ_mul]; omega
end
end Lk
namespace Lk
open PySem L2 Vm
theorem app2_l {st : VSt} {p q : PV} {k : Nat} (h : k < st.length) : (st ++ [p] ++ [q])[k]? = st[k]? := by
  rw [List.append_assoc, List.getElem?_append_left h]
theorem app2_0 {st : VSt} {p q : PV} : (st ++ [p] ++ [q])[st.length]? = some p := by
  rw [List.append_assoc, List.getElem?_append_right (Nat.le_refl _), Nat.sub_self]; rfl
theorem app2_1 {st : VSt} {p q : PV} : (st ++ [p] ++ [q])[st.length + 1]? = some q := by
  rw [List.append_assoc, List.getElem?_append_right (by omega), show st.length + 1 - st.length = 1 by omega]; rfl
theorem deref_some {st : VSt} {k : Nat} {p : PV} (h : st[k]? = some p) : deref st (.loc k) = p := by
  show st.getD k .non = p
  rw [List.getD_eq_getElem?_getD, h]; rfl
section
variable {m : Nat} {fs : List Fnc} {I : PV} {E : Sem} (hE : RgE E) {ws : List Str} (hw : ws.length < 64) (hln : fs.length ≤ 1000) (hm : 4 ≤ m) {lF : List (Str × Fnc)} (hF : ∀ h ∈ fs, lkE lF h.name = some h)
include hE hw hm hF
theorem run_call {N j : Nat} {q : Fnc} (hq : q ∈ fs) (hj : j + 1 ≤ N) (hS : E q.name = callS E q) (hps : ∀ x ∈ q.pars, x ∈ ws) (hpl : q.pars.length ≤ 100) (hg : Row.Gds q.rows) (hsz : Row.szs q.rows ≤ 499000) (hrt : q.res.Good OkT ∧ q.res.depth ≤ 2) {k0 : Nat} (hQ : RunOk (m + 1) (.tup (fs.map Fnc.pv)) I (dE Fnc.pv lF) E ws j q.rows k0)
    {x : Option Str} (hx : ∀ y, x = some y → y ∈ ws) {ts : List Trm} (hl : ts.length = q.pars.length) (ht : ∀ t ∈ ts, t.Good OkT ∧ t.depth ≤ 2) : RunOk (m + 1) (.tup (fs.map Fnc.pv)) I (dE Fnc.pv lF) E ws N [.call x q.name ts] (2 + k0) := fun b c a d st told vs res tgt l R z5 z6 z7 z8 z9 M K C hT hR hN pr pt => by
  rw [rev_one] at M
  have kl := K.len
  obtain ⟨st1, est1⟩ : ∃ st1, st1 = st.set d (.lst R) := ⟨_, rfl⟩
  have M1 := M.setH R
  rw [← est1] at M1
  have ln1 : st1.length = st.length := by rw [est1, List.length_set]
  obtain ⟨V, hV⟩ : ∃ V, V = ts.map (Trm.wo (celE l)) := ⟨_, rfl⟩
  have rV : ∀ v ∈ V, Rg v := fun v hv => by
    rw [hV] at hv
    obtain ⟨t, ht', rfl⟩ := List.mem_map.mp hv
    exact wo_rg C t (ht t ht').1
  have mV : V.map (fun v => v % 1000003) = V := by
    have : ∀ L : List Int, (∀ v ∈ L, Rg v) → L.map (fun v => v % 1000003) = L := fun L => by
      induction L with
      | nil => intro _; rfl
      | cons v L ih => intro h; rw [List.map_cons, rg_em (h v List.mem_cons_self), ih fun w hw => h w (List.mem_cons_of_mem _ hw)]
    exact this V rV
  have ego : Row.gos E [.call x q.name ts] (celE l, told) = (updO (celE l) x (callS E q V).1, told ++ (callS E q V).2) := by
    rw [gos_cons, gos_nil, Row.go, hV, ← hS]
  rw [ego] at hT ⊢
  have hT : (told ++ (callS E q V).2).length ≤ 490000 := hT
  -- the turn that makes the visit
  have d1 : decide (("call" : Str) = "call") = true := by decide
  have f0 : ∀ z6 z7 z8 z9 s, eFld 0 (eVar 5) (eR (.tup (fs.map Fnc.pv)) I (dE Fnc.pv lF) b c (some (visV a d res tgt)) z6 z7 z8 z9) s = .ok (.loc a) s := fun _ _ _ _ _ => rfl
  have cw : ∀ (y7 y8 y9 : Option PV), eComp (iSeq (eBin vIx (eVar 6) (eC (.int 3)))) (gName 9) tTrue (eApp (Fm D (m + 1) i_worth) (aCons (eVar 9) (aCons (eFld 0 (eVar 5)) aNil))) [9] (eR (.tup (fs.map Fnc.pv)) I (dE Fnc.pv lF) b c (some (visV a d res tgt)) (some (.tup [.str "call", optS x, .str q.name, .tup (ts.map Trm.pv)])) y7 y8 y9) st1 = .ok (.lst (V.map PV.int)) st1 := fun y7 y8 y9 => by
    rw [comp_enc0 (j := .seq (.tup (ts.map Trm.pv))) (l := ts) (enc := Trm.pv) (res := fun t => PV.int (t.wo (celE l))) (i_tup (by simp -implicitDefEqProofs (disch := omega) only [za,zb,zc,zd,ze,zf,zg,zh,zi,zj,zk,zm,zn,zo,zp,zq,zt,zu,zv,zw,zx,zy,zA,zB,zC,zD,zE,zF,zG,zH,zI,zJ,zK,zL,zM,zN,zO,zP,zQ,zR,zS,zT,zU,zV,zW,zX,zY,zZ,ya,yb,yc,yd,ye,yf,yg,yh,yi,yj,yk,yl,ym,yn,yo,yp,yq,yr,yt,yu,yv,yw,yx,yy,yz,yA,yB,yC,yD,yE,yF,yG,yH,yI,yJ,yK,yL,yM,yN,yO,yP,yQ,yR,yS,yT,yU,yV,yW,yX,yY,yZ,wa,wb,wc,wd,we,wg,wj,wm,wp,wq,lA9,lB9,lC9,lD9,lE9,lF9,lG9,lH9,wt,lI9,lJ9,lK9,lL9,lM9,lN9,lO9,lP9,lQ9,lR9,lS9,lT9,↓reduceIte,Nat.reduceAdd,Nat.reduceLeDiff])) (fun _ => rfl) (by omega) (fun t ht' => by
      have vw := F_pworth M1.ce C t (ht t ht').1 (m + 1) (by have := (ht t ht').2; omega)
      simp -implicitDefEqProofs (disch := omega) only [za,zb,zc,zd,ze,zf,zg,zh,zi,zj,zk,zm,zn,zo,zp,zq,zt,zu,zv,zw,zx,zy,zA,zB,zC,zD,zE,zF,zG,zH,zI,zJ,zK,zL,zM,zN,zO,zP,zQ,zR,zS,zT,zU,zV,zW,zX,zY,zZ,ya,yb,yc,yd,ye,yf,yg,yh,yi,yj,yk,yl,ym,yn,yo,yp,yq,yr,yt,yu,yv,yw,yx,yy,yz,yA,yB,yC,yD,yE,yF,yG,yH,yI,yJ,yK,yL,yM,yN,yO,yP,yQ,yR,yS,yT,yU,yV,yW,yX,yY,yZ,wa,wb,wc,wd,we,wg,wj,wm,wp,wq,lA9,lB9,lC9,lD9,lE9,lF9,lG9,lH9,wt,lI9,lJ9,lK9,lL9,lM9,lN9,lO9,lP9,lQ9,lR9,lS9,lT9,↓reduceIte,Nat.reduceAdd,Nat.reduceLeDiff, f0, vw]), hV, List.map_map]
    rfl
  have vf : ∀ s, vIx (dE Fnc.pv lF) (.str q.name) s = .ok q.pv s := fun s => by
    unfold vIx
    show (match keyP (.str q.name) with
      | some k => opt (kLook (lF.map fun (p : Str × Fnc) => (Sum.inr p.1 : Key)) (lF.map fun (p : Str × Fnc) => p.2.pv) k) s
      | none => .bad) = _
    show opt (kLook (lF.map fun (p : Str × Fnc) => (Sum.inr p.1 : Key)) (lF.map fun (p : Str × Fnc) => p.2.pv) (.inr q.name)) s = _
    rw [kl_E (enc := Fnc.pv), hF q hq]; rfl
  have tx : pureP (optS x) = true := by cases x <;> rfl
  have lr : q.rows.length ≤ 1000000 := by have := len_szs q.rows; omega
  have nv := r_newV (q := q) (p := .lst (V.map PV.int)) (ns := V) (tgt := optS x) (st := st1) rfl (by omega) lr tx
  obtain ⟨L, hL⟩ : ∃ L, L = st1.length := ⟨_, rfl⟩
  rw [← hL] at nv
  obtain ⟨st2, est2⟩ : ∃ st2, st2 = st1 ++ [dE PV.int (cellsE q.pars V)] ++ [.lst (Row.pvs q.rows).reverse] := ⟨_, rfl⟩
  rw [← est2] at nv
  have ln2 : st2.length = L + 2 := by rw [est2, List.length_append, List.length_append, hL]; rfl
  have lo2 : ∀ k, k < L → st2[k]? = st1[k]? := fun k hk => by rw [est2]; exact app2_l (by omega)
  obtain ⟨st3, est3⟩ : ∃ st3, st3 = st2.set c (.lst ((vs ++ [visV a d res tgt]) ++ [visV L (L + 1) q.res.pv (optS x)])) := ⟨_, rfl⟩
  have bL := M1.bl
  have cL := M1.cl
  have aL := M1.al
  have dL := M1.hl
  rw [← hL] at bL cL aL dL
  have ap : ∀ y7 y9, sAppV (eVar 4) (eApp newV (aCons (eBin vIx (eVar 2) (eBin vIx (eVar 6) (eC (.int 2)))) (aCons (eVar 8) (aCons (eBin vIx (eVar 6) (eC (.int 1))) aNil)))) (eR (.tup (fs.map Fnc.pv)) I (dE Fnc.pv lF) b c (some (visV a d res tgt)) (some (.tup [.str "call", optS x, .str q.name, .tup (ts.map Trm.pv)])) y7 (some (.lst (V.map PV.int))) y9) st1 = .nx (eR (.tup (fs.map Fnc.pv)) I (dE Fnc.pv lF) b c (some (visV a d res tgt)) (some (.tup [.str "call", optS x, .str q.name, .tup (ts.map Trm.pv)])) y7 (some (.lst (V.map PV.int))) y9) st3 := fun y7 y9 => by
    rw [est3]
    exact r_appV (n := c) (xs := vs ++ [visV a d res tgt]) (y := visV L (L + 1) q.res.pv (optS x)) (st' := st2) rfl M1.vl (by simp -implicitDefEqProofs (disch := omega) only [za,zb,zc,zd,ze,zf,zg,zh,zi,zj,zk,zm,zn,zo,zp,zq,zt,zu,zv,zw,zx,zy,zA,zB,zC,zD,zE,zF,zG,zH,zI,zJ,zK,zL,zM,zN,zO,zP,zQ,zR,zS,zT,zU,zV,zW,zX,zY,zZ,ya,yb,yc,yd,ye,yf,yg,yh,yi,yj,yk,yl,ym,yn,yo,yp,yq,yr,yt,yu,yv,yw,yx,yy,yz,yA,yB,yC,yD,yE,yF,yG,yH,yI,yJ,yK,yL,yM,yN,yO,yP,yQ,yR,yS,yT,yU,yV,yW,yX,yY,yZ,wa,wb,wc,wd,we,wg,wj,wm,wp,wq,lA9,lB9,lC9,lD9,lE9,lF9,lG9,lH9,wt,lI9,lJ9,lK9,lL9,lM9,lN9,lO9,lP9,lQ9,lR9,lS9,lT9,↓reduceIte,Nat.reduceAdd,Nat.reduceLeDiff, vf, nv]) ((deref_of (lo2 c cL)).trans M1.vl) (by rw [List.length_append]; show vs.length + 1 < _; omega) (by
      show ([PV.loc L, .loc (L + 1), q.res.pv, optS x].all fun f => pureP f || (match f with | .loc _ => true | _ => false)) = true
      simp [q.res.pure, tx]) pures_vis
  have h3 : sCons (h_3 (Fm D (m + 1))) sNil (eR (.tup (fs.map Fnc.pv)) I (dE Fnc.pv lF) b c (some (visV a d res tgt)) (some (.tup [.str "call", optS x, .str q.name, .tup (ts.map Trm.pv)])) z7 z8 z9) st1 = .nx (eR (.tup (fs.map Fnc.pv)) I (dE Fnc.pv lF) b c (some (visV a d res tgt)) (some (.tup [.str "call", optS x, .str q.name, .tup (ts.map Trm.pv)])) z7 (some (.lst (V.map PV.int))) z9) st3 := by
    unfold h_3
    simp -implicitDefEqProofs (disch := omega) only [za,zb,zc,zd,ze,zf,zg,zh,zi,zj,zk,zm,zn,zo,zp,zq,zt,zu,zv,zw,zx,zy,zA,zB,zC,zD,zE,zF,zG,zH,zI,zJ,zK,zL,zM,zN,zO,zP,zQ,zR,zS,zT,zU,zV,zW,zX,zY,zZ,ya,yb,yc,yd,ye,yf,yg,yh,yi,yj,yk,yl,ym,yn,yo,yp,yq,yr,yt,yu,yv,yw,yx,yy,yz,yA,yB,yC,yD,yE,yF,yG,yH,yI,yJ,yK,yL,yM,yN,yO,yP,yQ,yR,yS,yT,yU,yV,yW,yX,yY,yZ,wa,wb,wc,wd,we,wg,wj,wm,wp,wq,lA9,lB9,lC9,lD9,lE9,lF9,lG9,lH9,wt,lI9,lJ9,lK9,lL9,lM9,lN9,lO9,lP9,lQ9,lR9,lS9,lT9,↓reduceIte,Nat.reduceAdd,Nat.reduceLeDiff, d1, cw, ap]
  have erp : (Row.call x q.name ts).pv = .tup [.str "call", optS x, .str q.name, .tup (ts.map Trm.pv)] := by rw [Row.pv]
  have r1 : Runs (m + 1) 1 (eR (.tup (fs.map Fnc.pv)) I (dE Fnc.pv lF) b c z5 z6 z7 z8 z9) st (eR (.tup (fs.map Fnc.pv)) I (dE Fnc.pv lF) b c (some (visV a d res tgt)) (some (Row.call x q.name ts).pv) z7 (some (.lst (V.map PV.int))) z9) st3 := by
    refine Runs.one M.vl ?_
    rw [turn_row M.vl M.ae, ← est1, erp]
    exact h3
  -- the visit
  have e3 : ∀ k, k < L → k ≠ c → st3[k]? = st1[k]? := fun k hk hc => by rw [est3, List.getElem?_set_ne hc.symm]; exact lo2 k hk
  have ln3 : st3.length = L + 2 := by rw [est3, List.length_set, ln2]
  have cel0 : celE (cellsE q.pars V) = parC q.pars V := by rw [cel_cells, mV]
  have M3 : Mch st3 b c told ((vs ++ [visV a d res tgt]) ++ [visV L (L + 1) q.res.pv (optS x)]) L (L + 1) (cellsE q.pars V) ([] ++ (Row.pvs q.rows).reverse) := by
    refine ⟨(deref_of (e3 b bL M1.bc)).trans M1.tl, ?_, deref_some ?_, deref_some ?_, by omega, by omega, by omega, by omega, by omega, by omega, by omega, by omega, by omega, M1.bc⟩
    · rw [est3]; exact deref_ss (by omega)
    · rw [est3, List.getElem?_set_ne (by omega), est2, hL]; exact app2_0
    · rw [est3, List.getElem?_set_ne (by omega), est2, hL, List.nil_append]; exact app2_1
  have C3 : RgC (celE (cellsE q.pars V)) := by
    rw [cel0]
    exact par_rg q.pars V _ (fun _ => ⟨Int.le_refl _, by decide⟩) rV
  have eg : Row.gos E q.rows (celE (cellsE q.pars V), told) = ((Row.gos E q.rows (parC q.pars V, [])).1, told ++ (callS E q V).2) := by rw [cel0, gos_from]; rfl
  obtain ⟨k4, st4, l4, w5, w6, w7, w8, w9, hk4, r4, M4, K4, c4, f4⟩ := hQ b c L (L + 1) st3 told (vs ++ [visV a d res tgt]) q.res.pv (optS x) (cellsE q.pars V) [] (some (visV a d res tgt)) (some (Row.call x q.name ts).pv) z7 (some (.lst (V.map PV.int))) z9 M3 (ko_cells hps) C3 (by rw [eg]; exact hT) (by show 0 + _ ≤ _; omega) (by rw [List.length_append]; show vs.length + 1 + j ≤ _; omega) q.res.pure tx
  rw [eg] at M4 c4
  have M4 : Mch st4 b c (told ++ (callS E q V).2) ((vs ++ [visV a d res tgt]) ++ [visV L (L + 1) q.res.pv (optS x)]) L (L + 1) l4 [] := M4
  have c4 : celE l4 = (Row.gos E q.rows (parC q.pars V, [])).1 := c4
  have C4 : RgC (celE l4) := by
    rw [c4]
    exact gos_rg hE q.rows hg _ (by rw [← cel0]; exact C3)
  have e4 : ∀ k, k < L → k ≠ b → k ≠ c → st4[k]? = st1[k]? := fun k hk hb hc => (f4.el k (by omega) (by omega) (by omega) hb hc).trans (e3 k hk hc)
  have ln4 := f4.le
  -- its end
  obtain ⟨st5, est5⟩ : ∃ st5, st5 = st4.set c (.lst (vs ++ [visV a d res tgt])) := ⟨_, rfl⟩
  have M5 : Mch st5 b c (told ++ (callS E q V).2) (vs ++ [visV a d res tgt]) L (L + 1) l4 [] := by
    rw [est5]
    exact ⟨by rw [deref_sn M4.bc.symm]; exact M4.tl, deref_ss M4.cl, by rw [deref_sn M4.ac.symm]; exact M4.ce, by rw [deref_sn M4.hc.symm]; exact M4.ae, by rw [List.length_set]; exact M4.bl, by rw [List.length_set]; exact M4.cl, by rw [List.length_set]; exact M4.al, by rw [List.length_set]; exact M4.hl, M4.ab, M4.ac, M4.ah', M4.hb, M4.hc, M4.bc⟩
  have e5 : ∀ k, k < L → k ≠ b → k ≠ c → st5[k]? = st1[k]? := fun k hk hb hc => by rw [est5, List.getElem?_set_ne hc.symm]; exact e4 k hk hb hc
  have ln5 : st5.length = st4.length := by rw [est5, List.length_set]
  have ce5 : deref st5 (.loc a) = dE PV.int l := (deref_of (e5 a aL M1.ab M1.ac)).trans M1.ce
  have ae5 : deref st5 (.loc d) = .lst R := (deref_of (e5 d dL M1.hb M1.hc)).trans M1.ae
  have fe := F_end (x := x) M5 ce5 (by omega) C4 hrt.1 (m := m) (by have := hrt.2; omega)
  have ev : q.res.wo (celE l4) = (callS E q V).1 := by rw [c4]; rfl
  rw [ev, est5] at fe
  have r6 : Runs (m + 1) 1 (eR (.tup (fs.map Fnc.pv)) I (dE Fnc.pv lF) b c w5 w6 w7 w8 w9) st4 _ _ := Runs.onec M4.vl (turn_end M4.vl M4.ae fe)
  rw [← est5] at r6
  have M6 : Mch st5 b c (told ++ (callS E q V).2) (vs ++ [visV a d res tgt]) a d l R := ⟨M5.tl, M5.vl, ce5, ae5, M5.bl, M5.cl, by omega, by omega, M1.ab, M1.ac, M1.ah', M1.hb, M1.hc, M1.bc⟩
  have F6 : Fr st st5 a d b c := ⟨by omega, fun k h1 h2 h3 h4 h5 => by
    rw [e5 k (by omega) h4 h5, est1, List.getElem?_set_ne h3.symm]⟩
  cases x with
  | none => exact ⟨1 + k4 + 1, st5, l, _, w6, w7, w8, w9, by omega, (r1.then r4).then r6, M6, K, rfl, F6⟩
  | some y => exact ⟨1 + k4 + 1, _, _, _, w6, w7, w8, w9, by omega, (r1.then r4).then r6, M6.setA _, K.put (hx y rfl) _, cel_put, F6.then (Fr.set (.inl rfl))⟩
end
end Lk
namespace Lk
open PySem L2 Vm
section
variable {m : Nat} {ws : List Str} {Z : Nat} {fs : List Fnc} (P : PgOk ws 23 Z fs) {I : PV} (hm : 4 ≤ m) {lF : List (Str × Fnc)} (hF : ∀ h ∈ fs, lkE lF h.name = some h)
abbrev RunP (m : Nat) (fs : List Fnc) (I : PV) (lF : List (Str × Fnc)) (ws : List Str) (N : Nat) (rs : List Row) (k0 : Nat) : Prop := RunOk (m + 1) (.tup (fs.map Fnc.pv)) I (dE Fnc.pv lF) (semP fs) ws N rs k0
theorem RunOk.mono {m : Nat} {P I F : PV} {E : Sem} {ws : List Str} {N : Nat} {rs : List Row} {k k' : Nat} (h : RunOk m P I F E ws N rs k) (e : k ≤ k') : RunOk m P I F E ws N rs k' := fun b c a d st told vs res tgt l R z5 z6 z7 z8 z9 M K C hT hR hN pr pt => by
  obtain ⟨x, st', l', y5, y6, y7, y8, y9, hk, r⟩ := h b c a d st told vs res tgt l R z5 z6 z7 z8 z9 M K C hT hR hN pr pt
  exact ⟨x, st', l', y5, y6, y7, y8, y9, Nat.le_trans hk e, r⟩
include P hm hF
mutual
theorem row_ok {i : Nat} (hi : i ≤ fs.length) (hc : ∀ j q, fs[j]? = some q → j < i → RunP m fs I lF ws j q.rows (tnF (tnP fs) q.rows)) : ∀ r : Row, r.Gd → r.In ws → r.Cl (CalF (fs.take i)) → RunP m fs I lF ws i [r] (tnR (tnP fs) r)
  | .set x t, g, hin, _ => by
    unfold Row.Gd at g
    unfold Row.In at hin
    rw [tnR]
    exact run_set hm P.wl hin.1 g.2
  | .tell t, g, _, _ => by
    unfold Row.Gd at g
    rw [tnR]
    exact run_tell hm g
  | .call x f ts, g, hin, hcl => by
    unfold Row.Gd at g
    unfold Row.In at hin
    unfold Row.Cl at hcl
    obtain ⟨q, hq, e1, e2⟩ := hcl
    subst e1
    obtain ⟨j, hj⟩ := List.mem_iff_getElem?.mp hq
    have hlt := (List.getElem?_eq_some_iff.mp hj).1
    rw [List.length_take] at hlt
    rw [List.getElem?_take_of_lt (by omega)] at hj
    have hqf := List.mem_of_getElem? hj
    have k := P.ok q hqf
    have zz := P.zz
    rw [tnR, tn_fix P.wf P.nd q hqf]
    exact run_call (sem_rg fs fun f hf => ⟨(P.ok f hf).gd, (P.ok f hf).rt.1⟩) P.wl hm hF hqf (j := j) (by omega) (sem_fix P.wf P.nd q hqf) k.ps k.pl k.gd (Nat.le_trans k.sz zz) k.rt (hc j q hj (by omega)) hin.1 e2.symm g.2.2
  | .when t rs, g, hin, hcl => by
    have g2 := gd_when g
    unfold Row.Gd at g
    unfold Row.In at hin
    unfold Row.Cl at hcl
    rw [tnR]
    exact run_when hm ⟨g.1, g.2.1⟩ (rows_ok hi hc rs g2 hin.2 hcl)
  | .again n rs, g, hin, hcl => by
    have g2 := gd_again g
    unfold Row.In at hin
    unfold Row.Cl at hcl
    rw [tnR]
    exact run_again (sem_rg fs fun f hf => ⟨(P.ok f hf).gd, (P.ok f hf).rt.1⟩) hm g2 (rows_ok hi hc rs g2 hin hcl) n.toNat n rfl
theorem rows_ok {i : Nat} (hi : i ≤ fs.length) (hc : ∀ j q, fs[j]? = some q → j < i → RunP m fs I lF ws j q.rows (tnF (tnP fs) q.rows)) : ∀ rs : List Row, Row.Gds rs → Row.Ins ws rs → Row.Cls (CalF (fs.take i)) rs → RunP m fs I lF ws i rs (tnF (tnP fs) rs)
  | [], _, _, _ => by rw [tnF]; exact run_nil
  | r :: rs, g, hin, hcl => by
    have g' := g
    rw [gds_cons] at g
    rw [ins_cons] at hin
    rw [cls_cons] at hcl
    rw [tnF]
    exact run_cons (sem_rg fs fun f hf => ⟨(P.ok f hf).gd, (P.ok f hf).rt.1⟩) g' (row_ok hi hc r g.1 hin.1 hcl.1) (rows_ok hi hc rs g.2 hin.2 hcl.2)
end
theorem fnc_runs : ∀ (i : Nat) (q : Fnc), fs[i]? = some q → RunP m fs I lF ws i q.rows (tnF (tnP fs) q.rows) := by
  intro i
  induction i using Nat.strongRecOn with
  | ind i ih =>
    intro q hq
    have k := P.ok q (List.mem_of_getElem? hq)
    have hi := (List.getElem?_eq_some_iff.mp hq).1
    exact rows_ok P hm hF (by omega) (fun j q' hj hlt => ih j hlt q' hj) q.rows k.gd k.ri (P.wf i q hq)
end
def lFs (fs : List Fnc) (acc : List (Str × Fnc)) : List (Str × Fnc) := fs.foldl (fun l q => putE l q.name q) acc
theorem lFs_no {x : Str} : ∀ (fs : List Fnc) (acc : List (Str × Fnc)), x ∉ fs.map Fnc.name → lkE (lFs fs acc) x = lkE acc x
  | [], acc, _ => rfl
  | f :: fs, acc, h => by
    rw [List.map_cons, List.mem_cons, not_or] at h
    show lkE (lFs fs (putE acc f.name f)) x = _
    rw [lFs_no fs _ h.2, lk_put, if_neg h.1]
theorem lFs_in : ∀ (fs : List Fnc) (acc : List (Str × Fnc)), (fs.map Fnc.name).Nodup → ∀ h ∈ fs, lkE (lFs fs acc) h.name = some h
  | f :: fs, acc, nd, h, hh => by
    rw [List.map_cons, List.nodup_cons] at nd
    show lkE (lFs fs (putE acc f.name f)) h.name = _
    rcases List.mem_cons.mp hh with rfl | hh
    · rw [lFs_no fs _ nd.1, lk_put, if_pos rfl]
    · exact lFs_in fs _ nd.2 h hh
theorem putE_len {α : Type} {l : List (Str × α)} {x : Str} {a : α} : (putE l x a).length ≤ l.length + 1 := by
  unfold putE
  split
  · rw [List.length_map]; omega
  · rw [List.length_append]; exact Nat.le_refl _
theorem dc_fs {j : IT} {f : PV → VSt → Res (Option (Key × PV))} {st : VSt} {fs : List Fnc} (hj : Itm j st = some (fs.map Fnc.pv)) (hf : ∀ q ∈ fs, f q.pv st = .ok (some (Sum.inr q.name, q.pv)) st) : ∀ (k : Nat) (acc : List (Str × Fnc)), k ≤ fs.length → acc.length + k ≤ 1000 →
    dcP j fs.length f k (acc.map fun (p : Str × Fnc) => (Sum.inr p.1 : Key), acc.map fun (p : Str × Fnc) => p.2.pv) st = .ok ((lFs (fs.drop (fs.length - k)) acc).map fun (p : Str × Fnc) => (Sum.inr p.1 : Key), (lFs (fs.drop (fs.length - k)) acc).map fun (p : Str × Fnc) => p.2.pv) st
  | 0, acc, _, _ => by
    unfold dcP
    rw [hj, Nat.sub_zero, List.drop_length]
    show (if (fs.map Fnc.pv).length = fs.length then Res.ok _ st else .bad) = _
    rw [if_pos (List.length_map _)]
    rfl
  | k + 1, acc, hk, hl => by
    have hlt : fs.length - (k + 1) < fs.length := by omega
    unfold dcP
    rw [hj]
    show (if (fs.map Fnc.pv).length = fs.length ∧ (acc.map fun (p : Str × Fnc) => (Sum.inr p.1 : Key)).length < 1000000 then match (fs.map Fnc.pv)[fs.length - (k + 1)]? with
      | some x => (f x st).bind fun o s => dcP j fs.length f k (match o with
        | some y => (kPutK (acc.map fun (p : Str × Fnc) => (Sum.inr p.1 : Key)) y.1, kPutV (acc.map fun (p : Str × Fnc) => (Sum.inr p.1 : Key)) (acc.map fun (p : Str × Fnc) => p.2.pv) y.1 y.2)
        | none => (acc.map fun (p : Str × Fnc) => (Sum.inr p.1 : Key), acc.map fun (p : Str × Fnc) => p.2.pv)) s
      | none => .bad else .bad) = _
    rw [if_pos ⟨List.length_map _, by rw [List.length_map]; omega⟩, List.getElem?_map, List.getElem?_eq_getElem hlt]
    show (f (fs[fs.length - (k + 1)]).pv st).bind _ = _
    rw [hf _ (List.getElem_mem hlt), zf]
    have pe := put_E (enc := Fnc.pv) acc (fs[fs.length - (k + 1)]).name fs[fs.length - (k + 1)]
    have pe1 := (PV.dct.inj pe).1
    have pe2 := (PV.dct.inj pe).2
    show dcP j fs.length f k (kPutK (acc.map fun (p : Str × Fnc) => (Sum.inr p.1 : Key)) (Sum.inr (fs[fs.length - (k + 1)]).name), kPutV (acc.map fun (p : Str × Fnc) => (Sum.inr p.1 : Key)) (acc.map fun (p : Str × Fnc) => p.2.pv) (Sum.inr (fs[fs.length - (k + 1)]).name) (fs[fs.length - (k + 1)]).pv) st = _
    rw [pe1, pe2]
    have pl := putE_len (l := acc) (x := (fs[fs.length - (k + 1)]).name) (a := fs[fs.length - (k + 1)])
    rw [dc_fs hj hf k (putE acc (fs[fs.length - (k + 1)]).name fs[fs.length - (k + 1)]) (by omega) (by omega)]
    rw [List.drop_eq_getElem_cons hlt, show fs.length - (k + 1) + 1 = fs.length - k by omega]
    rfl
theorem fns_run {fs : List Fnc} (hl : fs.length ≤ 100) {I : PV} (st : VSt) : eDct (iSeq (eVar 0)) (gName 7) tTrue (eBin vIx (eVar 7) (eC (.int 0))) (eVar 7) [7] [some (.tup (fs.map Fnc.pv)), some I, none, none, none, none, none, none, none, none] st = .ok (dE Fnc.pv (lFs fs [])) st := by
  have hi : iSeq (eVar 0) [some (.tup (fs.map Fnc.pv)), some I, none, none, none, none, none, none, none, none] st = .ok (.seq (.tup (fs.map Fnc.pv))) st := i_tup rfl
  have hj : Itm (.seq (.tup (fs.map Fnc.pv))) st = some (fs.map Fnc.pv) := rfl
  unfold eDct
  rw [hi, zf, hj]
  dsimp only
  have h := dc_fs (f := dcF (gName 7) tTrue (eBin vIx (eVar 7) (eC (.int 0))) (eVar 7) [7] [some (.tup (fs.map Fnc.pv)), some I, none, none, none, none, none, none, none, none]) hj (fun q hq => by
    have e1 : eBin vIx (eVar 7) (eC (.int 0)) [some (.tup (fs.map Fnc.pv)), some I, none, none, none, none, none, some q.pv, none, none] st = .ok (.str q.name) st := by
      simp -implicitDefEqProofs (disch := omega) only [za,zb,zc,zd,ze,zf,zg,zh,zi,zj,zk,zm,zn,zo,zp,zq,zt,zu,zv,zw,zx,zy,zA,zB,zC,zD,zE,zF,zG,zH,zI,zJ,zK,zL,zM,zN,zO,zP,zQ,zR,zS,zT,zU,zV,zW,zX,zY,zZ,ya,yb,yc,yd,ye,yf,yg,yh,yi,yj,yk,yl,ym,yn,yo,yp,yq,yr,yt,yu,yv,yw,yx,yy,yz,yA,yB,yC,yD,yE,yF,yG,yH,yI,yJ,yK,yL,yM,yN,yO,yP,yQ,yR,yS,yT,yU,yV,yW,yX,yY,yZ,wa,wb,wc,wd,we,wg,wj,wm,wp,wq,lA9,lB9,lC9,lD9,lE9,lF9,lG9,lH9,wt,lI9,lJ9,lK9,lL9,lM9,lN9,lO9,lP9,lQ9,lR9,lS9,lT9,↓reduceIte,Nat.reduceAdd,Nat.reduceLeDiff, v_f0]
    show (eBin vIx (eVar 7) (eC (.int 0)) [some (.tup (fs.map Fnc.pv)), some I, none, none, none, none, none, some q.pv, none, none] st).nox.bind (fun p s3 => (eVar 7 [some (.tup (fs.map Fnc.pv)), some I, none, none, none, none, none, some q.pv, none, none] s3).nox.bind fun y s4 => keyR p y s4) = _
    rw [e1]
    rfl) fs.length [] (Nat.le_refl _) (by show 0 + _ ≤ _; omega)
  rw [Nat.sub_self, List.drop_zero] at h
  rw [List.length_map]
  have h : dcP (.seq (.tup (fs.map Fnc.pv))) fs.length (dcF (gName 7) tTrue (eBin vIx (eVar 7) (eC (.int 0))) (eVar 7) [7] [some (.tup (fs.map Fnc.pv)), some I, none, none, none, none, none, none, none, none]) fs.length ([], []) st = _ := h
  rw [h]
  rfl
end Lk
namespace Lk
open PySem L2 Vm
theorem all_end {st : VSt} {p : PV} (h : st.all noLoc = true) (hp : noLoc p = true) : (st ++ [p]).all noLoc = true := by
  rw [List.all_append, h]
  show (true && (noLoc p && true)) = true
  rw [hp]; rfl
theorem gate_ok {b : SM} {env : VEnv} {st st' : VSt} {n : Nat} (h : st.all noLoc = true) (hb : b env st = .rt (.loc n) st') (hn : noLoc (st'.getD n .non) = true) : gateF b env st = .rt (.loc n) st' := by
  unfold gateF
  rw [if_pos h, hb]
  show (if noLoc (st'.getD n .non) = true then SR.rt (.loc n) st' else .bad) = _
  rw [if_pos hn]
theorem whl_run {m : Nat} {fs : List Fnc} {ws : List Str} {Z : Nat} (P : PgOk ws 23 Z fs) (hT : ∀ g, tnP fs g ≤ 5390000) {i : Nat} {f : Fnc} (hi : fs[i]? = some f) (hm : 4 ≤ m) {I : PV} {b c a d : Nat} {st : VSt} {l : List (Str × Int)} {tgt : PV} {z5 z6 z7 z8 z9 : Option PV}
    (M : Mch st b c [] [visV a d f.res.pv tgt] a d l (Row.pvs f.rows).reverse) (K : KOk ws l) (C : RgC (celE l)) (hL : (Row.gos (semP fs) f.rows (celE l, [])).2.length ≤ 490000) (pt : pureP tgt = true) :
    ∃ st' e', sWhile (eTruB (eVar 4)) (fb_run_0 (Fm D (m + 1))) (eR (.tup (fs.map Fnc.pv)) I (dE Fnc.pv (lFs fs [])) b c z5 z6 z7 z8 z9) st = .nx e' st' ∧ e'[3]? = some (some (.loc b)) ∧ deref st' (.loc b) = .lst (((Row.gos (semP fs) f.rows (celE l, [])).2 ++ [f.res.wo (Row.gos (semP fs) f.rows (celE l, [])).1]).map PV.int) ∧ Fr st st' a d b c := by
  have hlt := (List.getElem?_eq_some_iff.mp hi).1
  have hq := List.mem_of_getElem? hi
  have k := P.ok f hq
  have zz := P.zz
  have ln := P.ln
  have hE := sem_rg fs fun f hf => ⟨(P.ok f hf).gd, (P.ok f hf).rt.1⟩
  obtain ⟨n, st1, l1, y5, y6, y7, y8, y9, hn, ru, M1, K1, c1, f1⟩ := fnc_runs P hm (I := I) (lFs_in fs [] P.nd) i f hi b c a d st [] [] f.res.pv tgt l [] z5 z6 z7 z8 z9 M K C hL (by have := k.sz; show 0 + _ ≤ _; omega) (by show 0 + i ≤ _; omega) f.res.pure pt
  have M1 : Mch st1 b c (Row.gos (semP fs) f.rows (celE l, [])).2 ([] ++ [visV a d f.res.pv tgt]) a d l1 [] := M1
  have C1 : RgC (celE l1) := by
    rw [c1]
    exact gos_rg hE f.rows k.gd _ C
  obtain ⟨st2, est2⟩ : ∃ st2, st2 = st1.set c (.lst []) := ⟨_, rfl⟩
  have M2 : Mch st2 b c (Row.gos (semP fs) f.rows (celE l, [])).2 [] a d l1 [] := by
    rw [est2]
    exact ⟨by rw [deref_sn M1.bc.symm]; exact M1.tl, deref_ss M1.cl, by rw [deref_sn M1.ac.symm]; exact M1.ce, by rw [deref_sn M1.hc.symm]; exact M1.ae, by rw [List.length_set]; exact M1.bl, by rw [List.length_set]; exact M1.cl, by rw [List.length_set]; exact M1.al, by rw [List.length_set]; exact M1.hl, M1.ab, M1.ac, M1.ah', M1.hb, M1.hc, M1.bc⟩
  have fe := F_end0 (tgt := tgt) M2 C1 k.rt.1 (m := m) (by have := k.rt.2; omega) hL
  rw [c1] at fe
  rw [est2] at fe
  have r2 : Runs (m + 1) 1 (eR (.tup (fs.map Fnc.pv)) I (dE Fnc.pv (lFs fs [])) b c y5 y6 y7 y8 y9) st1 _ _ := Runs.onec M1.vl (turn_end M1.vl M1.ae fe)
  rw [← est2] at r2
  have r3 := ru.then r2
  have M3 := M2.setB ((Row.gos (semP fs) f.rows (celE l, [])).2 ++ [f.res.wo (Row.gos (semP fs) f.rows (celE l, [])).1])
  have tn := hT f.name
  rw [tn_fix P.wf P.nd f hq] at tn
  refine ⟨_, eR (.tup (fs.map Fnc.pv)) I (dE Fnc.pv (lFs fs [])) b c (some (visV a d f.res.pv tgt)) y6 y7 y8 y9, ?_, rfl, M3.tl, ?_⟩
  · unfold sWhile
    have h3 := r3 (10000000 - (n + 1))
    rw [show n + 1 + (10000000 - (n + 1)) = 10000000 by omega, show 10000000 - (n + 1) = (10000000 - (n + 2)) + 1 by omega] at h3
    rw [h3]
    exact while_f (tru_none M3.vl)
  · rw [est2]
    exact (f1.then (Fr.set (.inr (.inr (.inr rfl))))).then (Fr.set (.inr (.inr (.inl rfl))))
theorem F_prun {m : Nat} {fs : List Fnc} {ws : List Str} {Z : Nat} (P : PgOk ws 23 Z fs) (hT : ∀ g, tnP fs g ≤ 5390000) {n : Nat} {sp : List Int → Int × List Int} (h : Say n sp fs) (hs : ∀ vs, (sp vs).2.length ≤ 490000) (hm : 6 ≤ m) {xs : List Int} (hx : xs.length = n) {st : VSt} (hst : st.all noLoc = true) :
    Fm D m i_run [.tup (fs.map Fnc.pv), .lst (xs.map PV.int)] st = .ok (.lst ((runS sp xs).map PV.int)) st := by
  obtain ⟨m, rfl⟩ := ge_add (k := 2) (n := m) (by omega)
  obtain ⟨gs, f, efs, ln, esp⟩ := last_fnc h
  have hi : fs[gs.length]? = some f := by rw [efs, List.getElem?_append_right (Nat.le_refl _), Nat.sub_self]; rfl
  have hq := List.mem_of_getElem? hi
  have k := P.ok f hq
  have fx : sp = callS (semP fs) f := by rw [← esp]; exact sem_fix P.wf P.nd f hq
  have lfs := P.ln
  have zz := P.zz
  obtain ⟨V, hV⟩ : ∃ V, V = xs.map fun x => x % 1000003 := ⟨_, rfl⟩
  obtain ⟨b, hb⟩ : ∃ b, b = st.length := ⟨_, rfl⟩
  -- the first visit
  have vl : ∀ s, vIx (.tup (fs.map Fnc.pv)) (.int (-1)) s = .ok f.pv s := fun s => by
    rw [efs, List.map_append]; exact v_lastt
  have dct := fns_run (fs := fs) (by omega) (I := .lst (xs.map PV.int)) st
  have b0 : boxV (.lst []) st = .ok (.loc b) (st ++ [.lst []]) := by rw [hb]; exact x_boxV rfl
  have lr : f.rows.length ≤ 1000000 := by have := len_szs f.rows; have := k.sz; omega
  have nv := r_newV (q := f) (p := .lst (xs.map PV.int)) (ns := xs) (tgt := .non) (st := st ++ [.lst []]) rfl (by have := k.pl; omega) lr rfl
  have lA : (st ++ [PV.lst []]).length = b + 1 := by rw [List.length_append, hb]; rfl
  rw [lA] at nv
  obtain ⟨stB, hB⟩ : ∃ stB, stB = st ++ [PV.lst []] ++ [dE PV.int (cellsE f.pars xs)] ++ [.lst (Row.pvs f.rows).reverse] := ⟨_, rfl⟩
  rw [← hB] at nv
  have lB : stB.length = b + 3 := by rw [hB, List.length_append, List.length_append, lA]; rfl
  have sv : ∀ z4 z5 z6 z7 z8 z9, sSetV 4 (aCons (eApp newV (aCons (eBin vIx (eVar 0) (eUn vNeg (eC (.int 1)))) (aCons (eVar 1) (aCons (eC .non) aNil)))) aNil) [some (.tup (fs.map Fnc.pv)), some (.lst (xs.map PV.int)), some (dE Fnc.pv (lFs fs [])), some (.loc b), z4, z5, z6, z7, z8, z9] (st ++ [.lst []]) = .nx [some (.tup (fs.map Fnc.pv)), some (.lst (xs.map PV.int)), some (dE Fnc.pv (lFs fs [])), some (.loc b), some (.loc (b + 3)), z5, z6, z7, z8, z9] (stB ++ [.lst [visV (b + 1) (b + 2) f.res.pv .non]]) := fun z4 z5 z6 z7 z8 z9 => by
    have ea : aCons (eApp newV (aCons (eBin vIx (eVar 0) (eUn vNeg (eC (.int 1)))) (aCons (eVar 1) (aCons (eC .non) aNil)))) aNil [some (.tup (fs.map Fnc.pv)), some (.lst (xs.map PV.int)), some (dE Fnc.pv (lFs fs [])), some (.loc b), z4, z5, z6, z7, z8, z9] (st ++ [.lst []]) = .ok [visV (b + 1) (b + 2) f.res.pv .non] stB := by
      simp -implicitDefEqProofs (disch := omega) only [za,zb,zc,zd,ze,zf,zg,zh,zi,zj,zk,zm,zn,zo,zp,zq,zt,zu,zv,zw,zx,zy,zA,zB,zC,zD,zE,zF,zG,zH,zI,zJ,zK,zL,zM,zN,zO,zP,zQ,zR,zS,zT,zU,zV,zW,zX,zY,zZ,ya,yb,yc,yd,ye,yf,yg,yh,yi,yj,yk,yl,ym,yn,yo,yp,yq,yr,yt,yu,yv,yw,yx,yy,yz,yA,yB,yC,yD,yE,yF,yG,yH,yI,yJ,yK,yL,yM,yN,yO,yP,yQ,yR,yS,yT,yU,yV,yW,yX,yY,yZ,wa,wb,wc,wd,we,wg,wj,wm,wp,wq,lA9,lB9,lC9,lD9,lE9,lF9,lG9,lH9,wt,lI9,lJ9,lK9,lL9,lM9,lN9,lO9,lP9,lQ9,lR9,lS9,lT9,↓reduceIte,Nat.reduceAdd,Nat.reduceLeDiff, vl, nv]
    unfold sSetV
    rw [ea, zk, lB]
    have nn : (([visV (b + 1) (b + 2) f.res.pv .non] : List PV).all nV) = true := by
      show (([PV.loc (b + 1), .loc (b + 2), f.res.pv, .non].all fun f => pureP f || (match f with | .loc _ => true | _ => false)) && true) = true
      simp [f.res.pure, pureP]
    rw [if_pos ⟨(by decide : 1 < 1000000), nn⟩]
    rfl
  obtain ⟨stC, hC⟩ : ∃ stC, stC = stB ++ [.lst [visV (b + 1) (b + 2) f.res.pv .non]] := ⟨_, rfl⟩
  have lC : stC.length = b + 4 := by rw [hC, List.length_append, lB]; rfl
  have gC : ∀ k, k < b + 3 → stC[k]? = stB[k]? := fun k hk => by rw [hC, List.getElem?_append_left (by omega)]
  have gB : ∀ k, k < b + 1 → stB[k]? = (st ++ [PV.lst []])[k]? := fun k hk => by rw [hB]; exact app2_l (by omega)
  have M : Mch stC b (b + 3) [] [visV (b + 1) (b + 2) f.res.pv .non] (b + 1) (b + 2) (cellsE f.pars xs) (Row.pvs f.rows).reverse := by
    refine ⟨deref_some ?_, deref_some ?_, deref_some ?_, deref_some ?_, by omega, by omega, by omega, by omega, by omega, by omega, by omega, by omega, by omega, by omega⟩
    · rw [gC b (by omega), gB b (by omega), hb, List.getElem?_append_right (Nat.le_refl _), Nat.sub_self]; rfl
    · rw [hC, List.getElem?_append_right (by omega), lB, Nat.sub_self]; rfl
    · rw [gC _ (by omega), hB, ← lA]; exact app2_0
    · rw [gC _ (by omega), hB, show b + 2 = (st ++ [PV.lst []]).length + 1 by rw [lA]]; exact app2_1
  have ce : celE (cellsE f.pars xs) = parC f.pars V := by rw [cel_cells, hV]
  have C : RgC (celE (cellsE f.pars xs)) := by
    rw [ce]
    exact par_rg f.pars V _ (fun _ => ⟨Int.le_refl _, by decide⟩) fun v hv => by
      rw [hV] at hv
      obtain ⟨x, _, rfl⟩ := List.mem_map.mp hv
      exact rg_mod x
  have eg1 : (Row.gos (semP fs) f.rows (celE (cellsE f.pars xs), [])).2 = (sp V).2 := by rw [ce, fx]; rfl
  have eg2 : f.res.wo (Row.gos (semP fs) f.rows (celE (cellsE f.pars xs), [])).1 = (sp V).1 := by rw [ce, fx]; rfl
  obtain ⟨st', e', wr, e3, dl, fr⟩ := whl_run P hT hi (m := m) (by omega) (I := .lst (xs.map PV.int)) (z5 := none) (z6 := none) (z7 := none) (z8 := none) (z9 := none) M (ko_cells k.ps) C (by rw [eg1]; exact hs V) rfl
  rw [eg1, eg2] at dl
  have dl : deref st' (.loc b) = .lst ((runS sp xs).map PV.int) := by
    rw [dl]
    unfold runS
    rw [← hV]
  have gd : st'.getD b .non = .lst ((runS sp xs).map PV.int) := dl
  have tk : st'.take st.length = st := List.ext_getElem? fun i => by
    by_cases hi : i < st.length
    · rw [List.getElem?_take_of_lt hi, fr.el i (by omega) (by omega) (by omega) (by omega) (by omega), gC i (by omega), gB i (by omega), List.getElem?_append_left hi]
    · rw [List.getElem?_eq_none (by rw [List.length_take]; omega), List.getElem?_eq_none (by omega)]
  have body : b_run (Fm D (m + 1)) [some (.tup (fs.map Fnc.pv)), some (.lst (xs.map PV.int)), none, none, none, none, none, none, none, none] st = .rt (.loc b) st' := by
    have r3 : eVar 3 e' st' = .ok (.loc b) st' := by
      unfold eVar
      rw [e3]
    have s0 : q_run_0 (Fm D (m + 1)) [some (.tup (fs.map Fnc.pv)), some (.lst (xs.map PV.int)), none, none, none, none, none, none, none, none] st = .nx [some (.tup (fs.map Fnc.pv)), some (.lst (xs.map PV.int)), some (dE Fnc.pv (lFs fs [])), none, none, none, none, none, none, none] st := by
      unfold q_run_0
      rw [zP, dct, zk]
      rfl
    have s1 : q_run_1 (Fm D (m + 1)) [some (.tup (fs.map Fnc.pv)), some (.lst (xs.map PV.int)), some (dE Fnc.pv (lFs fs [])), none, none, none, none, none, none, none] st = .nx [some (.tup (fs.map Fnc.pv)), some (.lst (xs.map PV.int)), some (dE Fnc.pv (lFs fs [])), some (.loc b), none, none, none, none, none, none] (st ++ [.lst []]) := by
      unfold q_run_1
      simp -implicitDefEqProofs (disch := omega) only [za,zb,zc,zd,ze,zf,zg,zh,zi,zj,zk,zm,zn,zo,zp,zq,zt,zu,zv,zw,zx,zy,zA,zB,zC,zD,zE,zF,zG,zH,zI,zJ,zK,zL,zM,zN,zO,zP,zQ,zR,zS,zT,zU,zV,zW,zX,zY,zZ,ya,yb,yc,yd,ye,yf,yg,yh,yi,yj,yk,yl,ym,yn,yo,yp,yq,yr,yt,yu,yv,yw,yx,yy,yz,yA,yB,yC,yD,yE,yF,yG,yH,yI,yJ,yK,yL,yM,yN,yO,yP,yQ,yR,yS,yT,yU,yV,yW,yX,yY,yZ,wa,wb,wc,wd,we,wg,wj,wm,wp,wq,lA9,lB9,lC9,lD9,lE9,lF9,lG9,lH9,wt,lI9,lJ9,lK9,lL9,lM9,lN9,lO9,lP9,lQ9,lR9,lS9,lT9,↓reduceIte,Nat.reduceAdd,Nat.reduceLeDiff, b0]
    rw [b_run_q, zO, s0, zm, zO, s1, zm, zO]
    unfold q_run_2 q_run_3 q_run_4
    rw [sv, zm, zO, ← hC, wr, zm, zO, zS, r3, zk]
    rfl
  have gt := gate_ok hst body (by rw [gd]; exact int_pures _)
  rw [c_run, gt]
  show (if (true && decide (b < st.length)) = true then Res.bad else .ok (freeze st' st.length (.loc b)) (st'.take st.length)) = _
  rw [if_neg (by rw [decide_eq_false (by omega)]; decide), tk]
  have fz : freeze st' st.length (.loc b) = .lst ((runS sp xs).map PV.int) := by
    unfold freeze
    rw [if_neg (by omega)]
    exact gd
  rw [fz]
end Lk
namespace Lk
open PySem L2 Vm
abbrev Lv : Nat := 200
def pgV (fs : List Fnc) : PV := .tup (fs.map Fnc.pv)
def ilV (xs : List Int) : PV := .lst (xs.map PV.int)
theorem F_numbers {m : Nat} {st : VSt} {n : Nat} {xs : List Int} (hd : deref st (.loc n) = .lst (xs.map PV.int)) : Fm D (m + 1) i__law_numbers [.loc n] st = .ok (.bl true) st := by
  have vi : vIsa "list" [.loc n] st = .ok (.bl true) st := by
    have e : tyP st (.loc n) = some "list" := by unfold tyP; rw [hd]
    unfold vIsa
    dsimp only
    rw [e]
    rfl
  have va : ∀ i s, vIsa "int" [.int i] s = .ok (.bl true) s := fun _ _ => rfl
  have vb : ∀ i s, vIsa "bool" [.int i] s = .ok (.bl false) s := fun _ _ => rfl
  obtain ⟨e', ⟨z, rfl⟩, hf⟩ := for_keep (a := eVar 0) (g := gName 1) (body := fb__law_numbers_0 (Fm D m)) (p := .loc n) (xs := xs.map PV.int) (env := [some (.loc n), none]) (st := st) (fun e => ∃ z, e = [some (.loc n), z]) rfl (by unfold seqOf; rw [hd]) (fun x hx e he => by
    obtain ⟨i, _, rfl⟩ := List.mem_map.mp hx
    obtain ⟨z, rfl⟩ := he
    refine ⟨_, ⟨some (.int i), rfl⟩, ?_⟩
    unfold fb__law_numbers_0
    simp -implicitDefEqProofs (disch := omega) only [za,zb,zc,zd,ze,zf,zg,zh,zi,zj,zk,zm,zn,zo,zp,zq,zt,zu,zv,zw,zx,zy,zA,zB,zC,zD,zE,zF,zG,zH,zI,zJ,zK,zL,zM,zN,zO,zP,zQ,zR,zS,zT,zU,zV,zW,zX,zY,zZ,ya,yb,yc,yd,ye,yf,yg,yh,yi,yj,yk,yl,ym,yn,yo,yp,yq,yr,yt,yu,yv,yw,yx,yy,yz,yA,yB,yC,yD,yE,yF,yG,yH,yI,yJ,yK,yL,yM,yN,yO,yP,yQ,yR,yS,yT,yU,yV,yW,yX,yY,yZ,wa,wb,wc,wd,we,wg,wj,wm,wp,wq,lA9,lB9,lC9,lD9,lE9,lF9,lG9,lH9,wt,lI9,lJ9,lK9,lL9,lM9,lN9,lO9,lP9,lQ9,lR9,lS9,lT9,↓reduceIte,Nat.reduceAdd,Nat.reduceLeDiff, x_body, va, vb]) ⟨none, rfl⟩
  have tk : st.take st.length = st := List.take_length
  rw [c__law_numbers, b__law_numbers_q]
  unfold q__law_numbers_0 q__law_numbers_1 q__law_numbers_2
  simp -implicitDefEqProofs (disch := omega) only [za,zb,zc,zd,ze,zf,zg,zh,zi,zj,zk,zm,zn,zo,zp,zq,zt,zu,zv,zw,zx,zy,zA,zB,zC,zD,zE,zF,zG,zH,zI,zJ,zK,zL,zM,zN,zO,zP,zQ,zR,zS,zT,zU,zV,zW,zX,zY,zZ,ya,yb,yc,yd,ye,yf,yg,yh,yi,yj,yk,yl,ym,yn,yo,yp,yq,yr,yt,yu,yv,yw,yx,yy,yz,yA,yB,yC,yD,yE,yF,yG,yH,yI,yJ,yK,yL,yM,yN,yO,yP,yQ,yR,yS,yT,yU,yV,yW,yX,yY,yZ,wa,wb,wc,wd,we,wg,wj,wm,wp,wq,lA9,lB9,lC9,lD9,lE9,lF9,lG9,lH9,wt,lI9,lJ9,lK9,lL9,lM9,lN9,lO9,lP9,lQ9,lR9,lS9,lT9,↓reduceIte,Nat.reduceAdd,Nat.reduceLeDiff, vi, hf]
theorem il_same {p : PV} {xs : List Int} {st : VSt} (i : isSq p = true) (h : deref st p = ilV xs) : vEqF true p (ilV xs) st = .ok (.bl false) st := v_same (by
  rw [h]
  show soks (xs.map PV.int) = true
  exact soks_ints xs) (by
  rw [h]
  show deps (xs.map PV.int) + 1 ≤ 64
  rw [deps_ints]; decide) i (by rw [h]; rfl)
section
variable {fs : List Fnc} {ws : List Str} {Z : Nat} (P : PgOk ws 23 Z fs) {W : Str → Nat} (dp : Dp W 23 fs) (hT : ∀ g, tnP fs g ≤ 5390000) {n : Nat} {sp : List Int → Int × List Int} (h : Say n sp fs) (hs : ∀ vs, (sp vs).2.length ≤ 490000) {x1 x2 : List Int} {m : Nat} (hm : 40 + 2 * fs.length ≤ m) {ns : List Int}
include P dp hT h hs hm
theorem step_law {x : List Int} (lx : x.length = n) {kk : Int} (vk : ∀ s, vIx (.lst [ilV x1, ilV x2]) (.int kk) s = .ok (ilV x) s) {st : VSt} (hst : st.all noLoc = true) {z3 z4 z5 : Option PV} : ∃ st' z5', st'.all noLoc = true ∧
    bodyP (gName 3) (fb_law_0 (Fm D m)) (.int kk) [some (.scr ns), some (pgV fs), some (.lst [ilV x1, ilV x2]), z3, z4, z5] st = .nx [some (.scr ns), some (pgV fs), some (.lst [ilV x1, ilV x2]), some (.int kk), some (ilV x), z5'] st' := by
  obtain ⟨m, rfl⟩ := ge_add (k := 1) (n := m) (by omega)
  have lt : (runS sp x).length ≤ 490001 := by
    unfold runS
    rw [List.length_append]
    have := hs (x.map fun v => v % 1000003)
    show _ + 1 ≤ _
    omega
  have vla : ∀ s, vListA [ilV x] s = .ok (ilV x) s := fun _ => rfl
  have fr : Fm D (m + 1) i_run [pgV fs, ilV x] st = .ok (ilV (runS sp x)) st := F_prun P hT h hs (by omega) lx hst
  have bx : boxV (ilV (runS sp x)) st = .ok (.loc st.length) (st ++ [ilV (runS sp x)]) := x_boxV (int_pures _)
  have dx : deref (st ++ [ilV (runS sp x)]) (.loc st.length) = ilV (runS sp x) := deref_end
  have e1 : ∀ s, vEqF true (ilV x) (ilV x) s = .ok (.bl false) s := fun s => il_same rfl rfl
  have fnm : Fm D (m + 1) i__law_numbers [.loc st.length] (st ++ [ilV (runS sp x)]) = .ok (.bl true) (st ++ [ilV (runS sp x)]) := F_numbers dx
  have fl : Fm D (m + 1) i__law_run [pgV fs, ilV x] (st ++ [ilV (runS sp x)]) = .ok (ilV (runS sp x)) (st ++ [ilV (runS sp x)]) := F_run P dp h hs lx (by omega) _
  have e2 : vEqF true (.loc st.length) (ilV (runS sp x)) (st ++ [ilV (runS sp x)]) = .ok (.bl false) (st ++ [ilV (runS sp x)]) := il_same rfl dx
  have pt := r_app (l := eVar 5) (a := eC (.int 5)) (env := [some (.scr ns), some (pgV fs), some (.lst [ilV x1, ilV x2]), some (.int kk), some (ilV x), some (.loc st.length)]) (st := st ++ [ilV (runS sp x)]) (st' := st ++ [ilV (runS sp x)]) (n := st.length) (xs := (runS sp x).map PV.int) (y := .int 5) rfl dx rfl dx (by rw [List.length_map]; omega) rfl
  refine ⟨(st ++ [ilV (runS sp x)]).set st.length (.lst ((runS sp x).map PV.int ++ [.int 5])), some (.loc st.length), ?_, ?_⟩
  · rw [Vm.set_end]
    refine all_end hst ?_
    show pures ((runS sp x).map PV.int ++ [.int 5]) = true
    rw [pures_app, int_pures]; rfl
  · unfold fb_law_0
    simp -implicitDefEqProofs (disch := omega) only [za,zb,zc,zd,ze,zf,zg,zh,zi,zj,zk,zm,zn,zo,zp,zq,zt,zu,zv,zw,zx,zy,zA,zB,zC,zD,zE,zF,zG,zH,zI,zJ,zK,zL,zM,zN,zO,zP,zQ,zR,zS,zT,zU,zV,zW,zX,zY,zZ,ya,yb,yc,yd,ye,yf,yg,yh,yi,yj,yk,yl,ym,yn,yo,yp,yq,yr,yt,yu,yv,yw,yx,yy,yz,yA,yB,yC,yD,yE,yF,yG,yH,yI,yJ,yK,yL,yM,yN,yO,yP,yQ,yR,yS,yT,yU,yV,yW,yX,yY,yZ,wa,wb,wc,wd,we,wg,wj,wm,wp,wq,lA9,lB9,lC9,lD9,lE9,lF9,lG9,lH9,wt,lI9,lJ9,lK9,lL9,lM9,lN9,lO9,lP9,lQ9,lR9,lS9,lT9,↓reduceIte,Nat.reduceAdd,Nat.reduceLeDiff, x_body, vk, vla, fr, bx, e1, fnm, fl, e2, pt]
end
theorem say0 (ns : List Int) : ∃ n sp gs f, progF ns = gs ++ [f] ∧ f.pars.length = n ∧ n ≤ 100 ∧ (∀ vs, (sp vs).2.length ≤ 490000) ∧ Say n sp (progF ns) := by
  obtain ⟨gs, f, e⟩ : ∃ gs f, progF ns = gs ++ [f] := by
    unfold progF loopF
    split
    · exact ⟨_, _, rfl⟩
    · exact ⟨_, _, rfl⟩
  refine ⟨_, semP (progF ns) f.name, gs, f, e, rfl, ?_, fun vs => prog_told ns _ vs, f.name, ?_, rfl⟩
  · exact ((prog_ok ns).ok f (by rw [e]; exact List.mem_append_right _ List.mem_cons_self)).pl
  · rw [e, List.map_append]
    exact List.getLast?_concat
theorem main (ns : List Int) (_ : ns.length ≤ 63) : ∃ st, callI d_law (Fm D Lv) [.scr ns] [] = .ok (.bl true) st := by
  rw [call_np rfl]
  show ∃ st, endI false 0 (b_law (Fm D Lv) [some (.scr ns), none, none, none, none, none] []) = _
  have hp := fun s => F_program' (n := Lv) (by decide) ns s
  have hp : ∀ s, Fm D Lv i__law_program [.scr ns, .int 4] s = .ok (pgV (progF ns)) s := hp
  obtain ⟨P, W, dp⟩ := prog_dp ns
  have hl8 := (prog_len ns).2
  obtain ⟨n, sp, gs, f, e, ln, l100, hs, S⟩ := say0 ns
  obtain ⟨x1, l1, f1⟩ := F_inputs (ns := ns) (at_ := 0) (m := Lv) (by decide) (gs := gs) (f := f) (by omega)
  obtain ⟨x2, l2, f2⟩ := F_inputs (ns := ns) (at_ := 2) (m := Lv) (by decide) (gs := gs) (f := f) (by omega)
  rw [ln] at l1 l2
  rw [← e] at f1 f2
  have f1 : ∀ s, Fm D Lv i__law_inputs [.scr ns, .int 0, pgV (progF ns)] s = .ok (ilV x1) s := f1
  have f2 : ∀ s, Fm D Lv i__law_inputs [.scr ns, .int 2, pgV (progF ns)] s = .ok (ilV x2) s := f2
  have hT := prog_tn ns
  have v0 : ∀ s, vIx (.lst [ilV x1, ilV x2]) (.int 0) s = .ok (ilV x1) s := fun s => yt
  have v1 : ∀ s, vIx (.lst [ilV x1, ilV x2]) (.int 1) s = .ok (ilV x2) s := fun s => yv
  have hm : 40 + 2 * (progF ns).length ≤ Lv := by show _ ≤ 200; omega
  obtain ⟨s1, y1, a1, b1⟩ := step_law P dp hT S hs (x1 := x1) (x2 := x2) (ns := ns) hm l1 v0 (st := []) rfl (z3 := none) (z4 := none) (z5 := none)
  obtain ⟨s2, y2, a2, b2⟩ := step_law P dp hT S hs (x1 := x1) (x2 := x2) (ns := ns) hm l2 v1 a1 (z3 := some (.int 0)) (z4 := some (ilV x1)) (z5 := y1)
  obtain ⟨s3, y3, a3, b3⟩ := step_law P dp hT S hs (x1 := x1) (x2 := x2) (ns := ns) hm l1 v0 a2 (z3 := some (.int 1)) (z4 := some (ilV x2)) (z5 := y2)
  have hf := for_lst (a := eLst (aCons (eC (.int 0)) (aCons (eC (.int 1)) (aCons (eC (.int 0)) aNil)))) (g := gName 3) (body := fb_law_0 (Fm D Lv)) (env := [some (.scr ns), some (pgV (progF ns)), some (.lst [ilV x1, ilV x2]), none, none, none]) (st := []) (st' := []) (xs := [.int 0, .int 1, .int 0]) rfl
  rw [forL_cons, b1] at hf
  dsimp only at hf
  rw [forL_cons, b2] at hf
  dsimp only at hf
  rw [forL_cons, b3] at hf
  dsimp only at hf
  rw [forL_nil] at hf
  rw [b_law_q]
  have e : sCons (q_law_0 (Fm D Lv)) (sCons (q_law_1 (Fm D Lv)) (sCons (q_law_2 (Fm D Lv)) (sCons (q_law_3 (Fm D Lv)) sNil))) [some (.scr ns), none, none, none, none, none] [] = .rt (.bl true) s3 := by
    unfold q_law_0 q_law_1 q_law_2 q_law_3
    simp -implicitDefEqProofs (disch := omega) only [za,zb,zc,zd,ze,zf,zg,zh,zi,zj,zk,zm,zn,zo,zp,zq,zt,zu,zv,zw,zx,zy,zA,zB,zC,zD,zE,zF,zG,zH,zI,zJ,zK,zL,zM,zN,zO,zP,zQ,zR,zS,zT,zU,zV,zW,zX,zY,zZ,ya,yb,yc,yd,ye,yf,yg,yh,yi,yj,yk,yl,ym,yn,yo,yp,yq,yr,yt,yu,yv,yw,yx,yy,yz,yA,yB,yC,yD,yE,yF,yG,yH,yI,yJ,yK,yL,yM,yN,yO,yP,yQ,yR,yS,yT,yU,yV,yW,yX,yY,yZ,wa,wb,wc,wd,we,wg,wj,wm,wp,wq,lA9,lB9,lC9,lD9,lE9,lF9,lG9,lH9,wt,lI9,lJ9,lK9,lL9,lM9,lN9,lO9,lP9,lQ9,lR9,lS9,lT9,↓reduceIte,Nat.reduceAdd,Nat.reduceLeDiff, hp, f1, f2, hf]
  rw [e]
  exact ⟨_, rfl⟩
end Lk
namespace Lk
open PySem PySem.Spec PyProof.Rows L2 Vm
theorem all_mk (main : ∀ ns : List Int, ns.length ≤ 63 → ∃ st, callI d_law (Fm D 200) [.scr ns] [] = .ok (.bl true) st) {P : Program} {w : World} {K : PySem.W.Frag} {h : Heap} {mg : Str → Option Value} {fa f0 f1 f2 f3 f4 f5 f6 f7 f8 f9 f10 f11 f12 f13 f14 f15 f16 f17 f18 f19 f20 f21 f22 f23 f24 : Addr} (X : K.In h) (G : h.Ns mainGlobals mg) (hfa : mg "law" = some (.ref fa))
    {od0 an0 od1 an1 od2 an2 od3 an3 od4 an4 od5 an5 od6 an6 od7 an7 od8 an8 od9 an9 od10 an10 od11 an11 od12 an12 od13 an13 od14 an14 od15 an15 od16 an16 od17 an17 od18 an18 od19 an19 od20 an20 od21 an21 od22 an22 od23 an23 od24 an24 : Option Addr} {sl0 sl1 sl2 sl3 sl4 sl5 sl6 sl7 sl8 sl9 sl10 sl11 sl12 sl13 sl14 sl15 sl16 sl17 sl18 sl19 sl20 sl21 sl22 sl23 sl24 : Array (Option Value)} {oc0 kV0 dc0 pm0 cd0 ct0 oc1 kV1 dc1 pm1 cd1 ct1 oc2 kV2 dc2 pm2 cd2 ct2 oc3 kV3 dc3 pm3 cd3 ct3 oc4 kV4 dc4 pm4 cd4 ct4 oc5 kV5 dc5 pm5 cd5 ct5 oc6 kV6 dc6 pm6 cd6 ct6 oc7 kV7 dc7 pm7 cd7 ct7 oc8 kV8 dc8 pm8 cd8 ct8 oc9 kV9 dc9 pm9 cd9 ct9 oc10 kV10 dc10 pm10 cd10 ct10 oc11 kV11 dc11 pm11 cd11 ct11 oc12 kV12 dc12 pm12 cd12 ct12 oc13 kV13 dc13 pm13 cd13 ct13 oc14 kV14 dc14 pm14 cd14 ct14 oc15 kV15 dc15 pm15 cd15 ct15 oc16 kV16 dc16 pm16 cd16 ct16 oc17 kV17 dc17 pm17 cd17 ct17 oc18 kV18 dc18 pm18 cd18 ct18 oc19 kV19 dc19 pm19 cd19 ct19 oc20 kV20 dc20 pm20 cd20 ct20 oc21 kV21 dc21 pm21 cd21 ct21 oc22 kV22 dc22 pm22 cd22 ct22 oc23 kV23 dc23 pm23 cd23 ct23 oc24 kV24 dc24 pm24 cd24 ct24 : Value} {t0 : Tok}
    (a0 : PySem.W.nsIn K mainGlobals "worth" = some (some (.ref f0))) (l0 : K.lookup f0 = some ⟨oc0, od0, .func (PySem.W.fnOf "worth" "worth" (defArgs s_worth) (defBody s_worth) (defScope s_worth) .none kV0 dc0 pm0 an0 cd0 ct0), sl0⟩) (c0 : PySem.W.codeIn K cd0 "worth" = true) (k0 : PySem.W.keepIn K (.ref f0) = true)
    (a1 : PySem.W.nsIn K mainGlobals "run" = some (some (.ref f1))) (l1 : K.lookup f1 = some ⟨oc1, od1, .func (PySem.W.fnOf "run" "run" (defArgs s_run) (defBody s_run) (defScope s_run) .none kV1 dc1 pm1 an1 cd1 ct1), sl1⟩) (c1 : PySem.W.codeIn K cd1 "run" = true) (k1 : PySem.W.keepIn K (.ref f1) = true)
    (a2 : PySem.W.nsIn K mainGlobals "_end" = some (some (.ref f2))) (l2 : K.lookup f2 = some ⟨oc2, od2, .func (PySem.W.fnOf "_end" "_end" (defArgs s__end) (defBody s__end) (defScope s__end) .none kV2 dc2 pm2 an2 cd2 ct2), sl2⟩) (c2 : PySem.W.codeIn K cd2 "_end" = true) (k2 : PySem.W.keepIn K (.ref f2) = true)
    (a3 : PySem.W.nsIn K mainGlobals "_go_through" = some (some (.ref f3))) (l3 : K.lookup f3 = some ⟨oc3, od3, .func (PySem.W.fnOf "_go_through" "_go_through" (defArgs s__go_through) (defBody s__go_through) (defScope s__go_through) .none kV3 dc3 pm3 an3 cd3 ct3), sl3⟩) (c3 : PySem.W.codeIn K cd3 "_go_through" = true) (k3 : PySem.W.keepIn K (.ref f3) = true)
    (a4 : PySem.W.nsIn K mainGlobals "_law_cell" = some (some (.ref f4))) (l4 : K.lookup f4 = some ⟨oc4, od4, .func (PySem.W.fnOf "_law_cell" "_law_cell" (defArgs s__law_cell) (defBody s__law_cell) (defScope s__law_cell) .none kV4 dc4 pm4 an4 cd4 ct4), sl4⟩) (c4 : PySem.W.codeIn K cd4 "_law_cell" = true) (k4 : PySem.W.keepIn K (.ref f4) = true)
    (a5 : PySem.W.nsIn K mainGlobals "_law_mixed" = some (some (.ref f5))) (l5 : K.lookup f5 = some ⟨oc5, od5, .func (PySem.W.fnOf "_law_mixed" "_law_mixed" (defArgs s__law_mixed) (defBody s__law_mixed) (defScope s__law_mixed) .none kV5 dc5 pm5 an5 cd5 ct5), sl5⟩) (c5 : PySem.W.codeIn K cd5 "_law_mixed" = true) (k5 : PySem.W.keepIn K (.ref f5) = true)
    (a6 : PySem.W.nsIn K mainGlobals "_law_words" = some (some (.ref f6))) (l6 : K.lookup f6 = some ⟨oc6, od6, .func (PySem.W.fnOf "_law_words" "_law_words" (defArgs s__law_words) (defBody s__law_words) (defScope s__law_words) .none kV6 dc6 pm6 an6 cd6 ct6), sl6⟩) (c6 : PySem.W.codeIn K cd6 "_law_words" = true) (k6 : PySem.W.keepIn K (.ref f6) = true)
    (a7 : PySem.W.nsIn K mainGlobals "_law_term" = some (some (.ref f7))) (l7 : K.lookup f7 = some ⟨oc7, od7, .func (PySem.W.fnOf "_law_term" "_law_term" (defArgs s__law_term) (defBody s__law_term) (defScope s__law_term) .none kV7 dc7 pm7 an7 cd7 ct7), sl7⟩) (c7 : PySem.W.codeIn K cd7 "_law_term" = true) (k7 : PySem.W.keepIn K (.ref f7) = true)
    (a8 : PySem.W.nsIn K mainGlobals "_law_given" = some (some (.ref f8))) (l8 : K.lookup f8 = some ⟨oc8, od8, .func (PySem.W.fnOf "_law_given" "_law_given" (defArgs s__law_given) (defBody s__law_given) (defScope s__law_given) .none kV8 dc8 pm8 an8 cd8 ct8), sl8⟩) (c8 : PySem.W.codeIn K cd8 "_law_given" = true) (k8 : PySem.W.keepIn K (.ref f8) = true)
    (a9 : PySem.W.nsIn K mainGlobals "_law_call" = some (some (.ref f9))) (l9 : K.lookup f9 = some ⟨oc9, od9, .func (PySem.W.fnOf "_law_call" "_law_call" (defArgs s__law_call) (defBody s__law_call) (defScope s__law_call) .none kV9 dc9 pm9 an9 cd9 ct9), sl9⟩) (c9 : PySem.W.codeIn K cd9 "_law_call" = true) (k9 : PySem.W.keepIn K (.ref f9) = true)
    (a10 : PySem.W.nsIn K mainGlobals "_law_row" = some (some (.ref f10))) (l10 : K.lookup f10 = some ⟨oc10, od10, .func (PySem.W.fnOf "_law_row" "_law_row" (defArgs s__law_row) (defBody s__law_row) (defScope s__law_row) .none kV10 dc10 pm10 an10 cd10 ct10), sl10⟩) (c10 : PySem.W.codeIn K cd10 "_law_row" = true) (k10 : PySem.W.keepIn K (.ref f10) = true)
    (a11 : PySem.W.nsIn K mainGlobals "_law_rows" = some (some (.ref f11))) (l11 : K.lookup f11 = some ⟨oc11, od11, .func (PySem.W.fnOf "_law_rows" "_law_rows" (defArgs s__law_rows) (defBody s__law_rows) (defScope s__law_rows) .none kV11 dc11 pm11 an11 cd11 ct11), sl11⟩) (c11 : PySem.W.codeIn K cd11 "_law_rows" = true) (k11 : PySem.W.keepIn K (.ref f11) = true)
    (a12 : PySem.W.nsIn K mainGlobals "_law_work" = some (some (.ref f12))) (l12 : K.lookup f12 = some ⟨oc12, od12, .func (PySem.W.fnOf "_law_work" "_law_work" (defArgs s__law_work) (defBody s__law_work) (defScope s__law_work) .none kV12 dc12 pm12 an12 cd12 ct12), sl12⟩) (c12 : PySem.W.codeIn K cd12 "_law_work" = true) (k12 : PySem.W.keepIn K (.ref f12) = true)
    (a13 : PySem.W.nsIn K mainGlobals "_law_bounded" = some (some (.ref f13))) (l13 : K.lookup f13 = some ⟨oc13, od13, .func (PySem.W.fnOf "_law_bounded" "_law_bounded" (defArgs s__law_bounded) (defBody s__law_bounded) (defScope s__law_bounded) .none kV13 dc13 pm13 an13 cd13 ct13), sl13⟩) (c13 : PySem.W.codeIn K cd13 "_law_bounded" = true) (k13 : PySem.W.keepIn K (.ref f13) = true)
    (a14 : PySem.W.nsIn K mainGlobals "_law_looped" = some (some (.ref f14))) (l14 : K.lookup f14 = some ⟨oc14, od14, .func (PySem.W.fnOf "_law_looped" "_law_looped" (defArgs s__law_looped) (defBody s__law_looped) (defScope s__law_looped) .none kV14 dc14 pm14 an14 cd14 ct14), sl14⟩) (c14 : PySem.W.codeIn K cd14 "_law_looped" = true) (k14 : PySem.W.keepIn K (.ref f14) = true)
    (a15 : PySem.W.nsIn K mainGlobals "_law_function" = some (some (.ref f15))) (l15 : K.lookup f15 = some ⟨oc15, od15, .func (PySem.W.fnOf "_law_function" "_law_function" (defArgs s__law_function) (defBody s__law_function) (defScope s__law_function) .none kV15 dc15 pm15 an15 cd15 ct15), sl15⟩) (c15 : PySem.W.codeIn K cd15 "_law_function" = true) (k15 : PySem.W.keepIn K (.ref f15) = true)
    (a16 : PySem.W.nsIn K mainGlobals "_law_variables" = some (some (.ref f16))) (l16 : K.lookup f16 = some ⟨oc16, od16, .func (PySem.W.fnOf "_law_variables" "_law_variables" (defArgs s__law_variables) (defBody s__law_variables) (defScope s__law_variables) .none kV16 dc16 pm16 an16 cd16 ct16), sl16⟩) (c16 : PySem.W.codeIn K cd16 "_law_variables" = true) (k16 : PySem.W.keepIn K (.ref f16) = true)
    (a17 : PySem.W.nsIn K mainGlobals "_law_program" = some (some (.ref f17))) (l17 : K.lookup f17 = some ⟨oc17, od17, .func (PySem.W.fnOf "_law_program" "_law_program" (defArgs s__law_program) (defBody s__law_program) (defScope s__law_program) .none kV17 dc17 pm17 an17 cd17 ct17), sl17⟩) (c17 : PySem.W.codeIn K cd17 "_law_program" = true) (k17 : PySem.W.keepIn K (.ref f17) = true)
    (a18 : PySem.W.nsIn K mainGlobals "_law_worth" = some (some (.ref f18))) (l18 : K.lookup f18 = some ⟨oc18, od18, .func (PySem.W.fnOf "_law_worth" "_law_worth" (defArgs s__law_worth) (defBody s__law_worth) (defScope s__law_worth) .none kV18 dc18 pm18 an18 cd18 ct18), sl18⟩) (c18 : PySem.W.codeIn K cd18 "_law_worth" = true) (k18 : PySem.W.keepIn K (.ref f18) = true)
    (a19 : PySem.W.nsIn K mainGlobals "_law_gone" = some (some (.ref f19))) (l19 : K.lookup f19 = some ⟨oc19, od19, .func (PySem.W.fnOf "_law_gone" "_law_gone" (defArgs s__law_gone) (defBody s__law_gone) (defScope s__law_gone) .none kV19 dc19 pm19 an19 cd19 ct19), sl19⟩) (c19 : PySem.W.codeIn K cd19 "_law_gone" = true) (k19 : PySem.W.keepIn K (.ref f19) = true)
    (a20 : PySem.W.nsIn K mainGlobals "_law_called" = some (some (.ref f20))) (l20 : K.lookup f20 = some ⟨oc20, od20, .func (PySem.W.fnOf "_law_called" "_law_called" (defArgs s__law_called) (defBody s__law_called) (defScope s__law_called) .none kV20 dc20 pm20 an20 cd20 ct20), sl20⟩) (c20 : PySem.W.codeIn K cd20 "_law_called" = true) (k20 : PySem.W.keepIn K (.ref f20) = true)
    (a21 : PySem.W.nsIn K mainGlobals "_law_run" = some (some (.ref f21))) (l21 : K.lookup f21 = some ⟨oc21, od21, .func (PySem.W.fnOf "_law_run" "_law_run" (defArgs s__law_run) (defBody s__law_run) (defScope s__law_run) .none kV21 dc21 pm21 an21 cd21 ct21), sl21⟩) (c21 : PySem.W.codeIn K cd21 "_law_run" = true) (k21 : PySem.W.keepIn K (.ref f21) = true)
    (a22 : PySem.W.nsIn K mainGlobals "_law_inputs" = some (some (.ref f22))) (l22 : K.lookup f22 = some ⟨oc22, od22, .func (PySem.W.fnOf "_law_inputs" "_law_inputs" (defArgs s__law_inputs) (defBody s__law_inputs) (defScope s__law_inputs) .none kV22 dc22 pm22 an22 cd22 ct22), sl22⟩) (c22 : PySem.W.codeIn K cd22 "_law_inputs" = true) (k22 : PySem.W.keepIn K (.ref f22) = true)
    (a23 : PySem.W.nsIn K mainGlobals "_law_numbers" = some (some (.ref f23))) (l23 : K.lookup f23 = some ⟨oc23, od23, .func (PySem.W.fnOf "_law_numbers" "_law_numbers" (defArgs s__law_numbers) (defBody s__law_numbers) (defScope s__law_numbers) .none kV23 dc23 pm23 an23 cd23 ct23), sl23⟩) (c23 : PySem.W.codeIn K cd23 "_law_numbers" = true) (k23 : PySem.W.keepIn K (.ref f23) = true)
    (a24 : PySem.W.nsIn K mainGlobals "law" = some (some (.ref f24))) (l24 : K.lookup f24 = some ⟨oc24, od24, .func (PySem.W.fnOf "law" "law" (defArgs s_law) (defBody s_law) (defScope s_law) .none kV24 dc24 pm24 an24 cd24 ct24), sl24⟩) (c24 : PySem.W.codeIn K cd24 "law" = true) (k24 : PySem.W.keepIn K (.ref f24) = true)
    (z0 : PySem.W.nsIn K mainGlobals "bool" = some none)
    (z1 : PySem.W.nsIn K mainGlobals "int" = some none)
    (z2 : PySem.W.nsIn K mainGlobals "isinstance" = some none)
    (z3 : PySem.W.nsIn K mainGlobals "len" = some none)
    (z4 : PySem.W.nsIn K mainGlobals "list" = some none)
    (z5 : PySem.W.nsIn K mainGlobals "max" = some none)
    (z6 : PySem.W.nsIn K mainGlobals "range" = some none)
    (z7 : PySem.W.nsIn K mainGlobals "tuple" = some none)
    (z8 : PySem.W.nsIn K mainGlobals "zip" = some none)
    (y0 : PySem.W.nsIn K mainGlobals "RESTS_OF" = some (some (.int 1000003 t0)))
    {vC vI : Addr} {ocV kVV dcV pmV cdV ctV : Value} {odV anV : Option Addr} {slV : Array (Option Value)}
    (vg : PySem.W.nsIn K mainGlobals "Visit" = some (some (.ref vC)))
    (vm : PySem.W.makesIn K vC = true)
    (vi : PySem.W.findIn K (.ref vC) "__init__" = some (some (.ref vI)))
    (vf : PySem.W.isFn K (.ref vI) = true)
    (vk : PySem.W.keepIn K (.ref vC) = true)
    (vp : PySem.W.plainGet K vC Str.empty = true)
    (vh : PySem.W.hasDictIn K vC = true)
    (vo : PySem.W.plainOver K vC = true)
    (vs : PySem.W.findIn K (.ref vC) "__setattr__" = some (some (.builtin "object.__setattr__")))
    (vn0 : PySem.W.findIn K (.ref vC) "cells" = some none)
    (vn1 : PySem.W.findIn K (.ref vC) "ahead" = some none)
    (vn2 : PySem.W.findIn K (.ref vC) "result" = some none)
    (vn3 : PySem.W.findIn K (.ref vC) "target" = some none)
    (vl : K.lookup vI = some ⟨ocV, odV, .func (PySem.W.fnOf "__init__" "Visit.__init__" (defArgs s_vinit) (defBody s_vinit) (defScope s_vinit) .none kVV dcV pmV anV cdV ctV), slV⟩)
    (vc : PySem.W.codeIn K cdV "Visit.__init__" = true)
    (vK : PySem.W.keepIn K (.ref vI) = true) :
    ∃ fd : FuncData, (∀ (s : Shared) (v : Value), BindsTo s fd ⟨[v], []⟩ [("_law_script", v)]) ∧ ∀ base : Heap, K.In base → base.Ns mainGlobals mg → FnOk P w K mg base CX0 203 fa fd ["_law_script"] (spLaw K) := by
  have e := hfa.symm.trans (PySem.W.mg_of X G a24)
  cases e
  have F0 := fun_mk (st := s_worth) l0 c0 k0
  have b0 := F0.binds (ps := ["term", "cells"]) fun _ _ _ _ _ _ us hl => match us, hl with | [_, _], _ => rfl
  have F1 := fun_mk (st := s_run) l1 c1 k1
  have b1 := F1.binds (ps := ["program", "inputs"]) fun _ _ _ _ _ _ us hl => match us, hl with | [_, _], _ => rfl
  have F2 := fun_mk (st := s__end) l2 c2 k2
  have b2 := F2.binds (ps := ["visit", "around", "told"]) fun _ _ _ _ _ _ us hl => match us, hl with | [_, _, _], _ => rfl
  have F3 := fun_mk (st := s__go_through) l3 c3 k3
  have b3 := F3.binds (ps := ["row", "visit", "told"]) fun _ _ _ _ _ _ us hl => match us, hl with | [_, _, _], _ => rfl
  have F4 := fun_mk (st := s__law_cell) l4 c4 k4
  have b4 := F4.binds (ps := ["_law_script", "_law_k"]) fun _ _ _ _ _ _ us hl => match us, hl with | [_, _], _ => rfl
  have F5 := fun_mk (st := s__law_mixed) l5 c5 k5
  have b5 := F5.binds (ps := ["_law_cell_here", "_law_k"]) fun _ _ _ _ _ _ us hl => match us, hl with | [_, _], _ => rfl
  have F6 := fun_mk (st := s__law_words) l6 c6 k6
  have b6 := F6.binds (ps := ["_law_cell_here", "_law_many"]) fun _ _ _ _ _ _ us hl => match us, hl with | [_, _], _ => rfl
  have F7 := fun_mk (st := s__law_term) l7 c7 k7
  have b7 := F7.binds (ps := ["_law_cell_here", "_law_words_here", "_law_deep"]) fun _ _ _ _ _ _ us hl => match us, hl with | [_, _, _], _ => rfl
  have F8 := fun_mk (st := s__law_given) l8 c8 k8
  have b8 := F8.binds (ps := ["_law_cell_here", "_law_words_here", "_law_name"]) fun _ _ _ _ _ _ us hl => match us, hl with | [_, _, _], _ => rfl
  have F9 := fun_mk (st := s__law_call) l9 c9 k9
  have b9 := F9.binds (ps := ["_law_cell_here", "_law_words_here", "_law_heads"]) fun _ _ _ _ _ _ us hl => match us, hl with | [_, _, _], _ => rfl
  have F10 := fun_mk (st := s__law_row) l10 c10 k10
  have b10 := F10.binds (ps := ["_law_cell_here", "_law_words_here", "_law_heads", "_law_deep"]) fun _ _ _ _ _ _ us hl => match us, hl with | [_, _, _, _], _ => rfl
  have F11 := fun_mk (st := s__law_rows) l11 c11 k11
  have b11 := F11.binds (ps := ["_law_cell_here", "_law_words_here", "_law_heads", "_law_deep", "_law_many"]) fun _ _ _ _ _ _ us hl => match us, hl with | [_, _, _, _, _], _ => rfl
  have F12 := fun_mk (st := s__law_work) l12 c12 k12
  have b12 := F12.binds (ps := ["_law_rows_here", "_law_works"]) fun _ _ _ _ _ _ us hl => match us, hl with | [_, _], _ => rfl
  have F13 := fun_mk (st := s__law_bounded) l13 c13 k13
  have b13 := F13.binds (ps := ["_law_cell_here", "_law_name", "_law_words_here", "_law_heads", "_law_works"]) fun _ _ _ _ _ _ us hl => match us, hl with | [_, _, _, _, _], _ => rfl
  have F14 := fun_mk (st := s__law_looped) l14 c14 k14
  have b14 := F14.binds (ps := ["_law_program_here", "_law_cell_here"]) fun _ _ _ _ _ _ us hl => match us, hl with | [_, _], _ => rfl
  have F15 := fun_mk (st := s__law_function) l15 c15 k15
  have b15 := F15.binds (ps := ["_law_cell_here", "_law_name", "_law_words_here", "_law_heads"]) fun _ _ _ _ _ _ us hl => match us, hl with | [_, _, _, _], _ => rfl
  have F16 := fun_mk (st := s__law_variables) l16 c16 k16
  have b16 := F16.binds (ps := ["_law_script", "_law_at"]) fun _ _ _ _ _ _ us hl => match us, hl with | [_, _], _ => rfl
  have F17 := fun_mk (st := s__law_program) l17 c17 k17
  have b17 := F17.binds (ps := ["_law_script", "_law_at"]) fun _ _ _ _ _ _ us hl => match us, hl with | [_, _], _ => rfl
  have F18 := fun_mk (st := s__law_worth) l18 c18 k18
  have b18 := F18.binds (ps := ["_law_term_here", "_law_cells"]) fun _ _ _ _ _ _ us hl => match us, hl with | [_, _], _ => rfl
  have F19 := fun_mk (st := s__law_gone) l19 c19 k19
  have b19 := F19.binds (ps := ["_law_program_here", "_law_rows_here", "_law_cells", "_law_told"]) fun _ _ _ _ _ _ us hl => match us, hl with | [_, _, _, _], _ => rfl
  have F20 := fun_mk (st := s__law_called) l20 c20 k20
  have b20 := F20.binds (ps := ["_law_program_here", "_law_function_here", "_law_numbers_here", "_law_told"]) fun _ _ _ _ _ _ us hl => match us, hl with | [_, _, _, _], _ => rfl
  have F21 := fun_mk (st := s__law_run) l21 c21 k21
  have b21 := F21.binds (ps := ["_law_program_here", "_law_inputs_here"]) fun _ _ _ _ _ _ us hl => match us, hl with | [_, _], _ => rfl
  have F22 := fun_mk (st := s__law_inputs) l22 c22 k22
  have b22 := F22.binds (ps := ["_law_script", "_law_at", "_law_program_here"]) fun _ _ _ _ _ _ us hl => match us, hl with | [_, _, _], _ => rfl
  have F23 := fun_mk (st := s__law_numbers) l23 c23 k23
  have b23 := F23.binds (ps := ["_law_found"]) fun _ _ _ _ _ _ us hl => match us, hl with | [_], _ => rfl
  have F24 := fun_mk (st := s_law) l24 c24 k24
  have b24 := F24.binds (ps := ["_law_script"]) fun _ _ _ _ _ _ us hl => match us, hl with | [_], _ => rfl
  have FvI := fun_mk (st := s_vinit) vl vc vK
  have bvI := FvI.binds (ps := ["self", "function", "numbers", "target"]) fun _ _ _ _ _ _ us hl => match us, hl with | [_, _, _, _], _ => rfl
  let CC : Nat → Addr := fun _ => 0
  have hB : ∀ x ∈ bs, mg x = none := fun x hx => by
    rcases List.mem_cons.mp hx with rfl | hx
    · exact PySem.W.mg_none_of X G z0
    rcases List.mem_cons.mp hx with rfl | hx
    · exact PySem.W.mg_none_of X G z1
    rcases List.mem_cons.mp hx with rfl | hx
    · exact PySem.W.mg_none_of X G z2
    rcases List.mem_cons.mp hx with rfl | hx
    · exact PySem.W.mg_none_of X G z3
    rcases List.mem_cons.mp hx with rfl | hx
    · exact PySem.W.mg_none_of X G z4
    rcases List.mem_cons.mp hx with rfl | hx
    · exact PySem.W.mg_none_of X G z5
    rcases List.mem_cons.mp hx with rfl | hx
    · exact PySem.W.mg_none_of X G z6
    rcases List.mem_cons.mp hx with rfl | hx
    · exact PySem.W.mg_none_of X G z7
    rcases List.mem_cons.mp hx with rfl | hx
    · exact PySem.W.mg_none_of X G z8
    cases hx
  have hC : ∀ p ∈ cs, ∃ u, mg p.1 = some u ∧ RelV (.int p.2) u := fun p hx => by
    rcases List.mem_cons.mp hx with rfl | hx
    · exact ⟨_, PySem.W.mg_of X G y0, t0, rfl⟩
    cases hx
  have hX : ∀ p ∈ pr.xs, ExF K mg p.1 (CC p.2) := fun p hx => by
    cases hx
  refine ⟨PySem.W.fnOf "law" "law" (defArgs s_law) (defBody s_law) (defScope s_law) .none kV24 dc24 pm24 an24 cd24 ct24, fun s v => .of_eq rfl, fun base _ _ => ?_⟩
  have hV : VsF P w K mg base := by
    obtain ⟨u, gu, ru⟩ := hC ("RESTS_OF", 1000003) (by simp)
    exact ⟨vC, vI, _, ⟨vm, vi, vf, vk⟩, ⟨⟨vp, vh, vo, vs⟩, fun f hf => by
      rcases List.mem_cons.mp hf with rfl | hf
      · exact vn0
      rcases List.mem_cons.mp hf with rfl | hf
      · exact vn1
      rcases List.mem_cons.mp hf with rfl | hf
      · exact vn2
      rcases List.mem_cons.mp hf with rfl | hf
      · exact vn3
      cases hf⟩, ok_vinit FvI (hB "zip" (by simp)) (hB "list" (by simp)) gu ru, PySem.W.mg_of X G vg, bvI⟩
  have A : FnAt P w K mg base CC pr (Fm D 200) 200 := all_fn (fun i hi => match i, hi with
    | 0, _ => ⟨f0, _, _, PySem.W.mg_of X G a0, k0, ⟨b0, .inl rfl⟩, fun n T hF => ok_worth F0 hB hC hX hF⟩
    | 1, _ => ⟨f1, _, _, PySem.W.mg_of X G a1, k1, ⟨b1, .inl rfl⟩, fun n T hF => ok_run F1 hB hC hX hF hV⟩
    | 2, _ => ⟨f2, _, _, PySem.W.mg_of X G a2, k2, ⟨b2, .inl rfl⟩, fun n T hF => ok__end F2 hB hC hX hF⟩
    | 3, _ => ⟨f3, _, _, PySem.W.mg_of X G a3, k3, ⟨b3, .inl rfl⟩, fun n T hF => ok__go_through F3 hB hC hX hF⟩
    | 4, _ => ⟨f4, _, _, PySem.W.mg_of X G a4, k4, ⟨b4, .inl rfl⟩, fun n T hF => ok__law_cell F4 hB hC hX hF⟩
    | 5, _ => ⟨f5, _, _, PySem.W.mg_of X G a5, k5, ⟨b5, .inl rfl⟩, fun n T hF => ok__law_mixed F5 hB hC hX hF⟩
    | 6, _ => ⟨f6, _, _, PySem.W.mg_of X G a6, k6, ⟨b6, .inl rfl⟩, fun n T hF => ok__law_words F6 hB hC hX hF⟩
    | 7, _ => ⟨f7, _, _, PySem.W.mg_of X G a7, k7, ⟨b7, .inl rfl⟩, fun n T hF => ok__law_term F7 hB hC hX hF⟩
    | 8, _ => ⟨f8, _, _, PySem.W.mg_of X G a8, k8, ⟨b8, .inl rfl⟩, fun n T hF => ok__law_given F8 hB hC hX hF⟩
    | 9, _ => ⟨f9, _, _, PySem.W.mg_of X G a9, k9, ⟨b9, .inl rfl⟩, fun n T hF => ok__law_call F9 hB hC hX hF⟩
    | 10, _ => ⟨f10, _, _, PySem.W.mg_of X G a10, k10, ⟨b10, .inl rfl⟩, fun n T hF => ok__law_row F10 hB hC hX hF⟩
    | 11, _ => ⟨f11, _, _, PySem.W.mg_of X G a11, k11, ⟨b11, .inl rfl⟩, fun n T hF => ok__law_rows F11 hB hC hX hF⟩
    | 12, _ => ⟨f12, _, _, PySem.W.mg_of X G a12, k12, ⟨b12, .inl rfl⟩, fun n T hF => ok__law_work F12 hB hC hX hF⟩
    | 13, _ => ⟨f13, _, _, PySem.W.mg_of X G a13, k13, ⟨b13, .inl rfl⟩, fun n T hF => ok__law_bounded F13 hB hC hX hF⟩
    | 14, _ => ⟨f14, _, _, PySem.W.mg_of X G a14, k14, ⟨b14, .inl rfl⟩, fun n T hF => ok__law_looped F14 hB hC hX hF⟩
    | 15, _ => ⟨f15, _, _, PySem.W.mg_of X G a15, k15, ⟨b15, .inl rfl⟩, fun n T hF => ok__law_function F15 hB hC hX hF⟩
    | 16, _ => ⟨f16, _, _, PySem.W.mg_of X G a16, k16, ⟨b16, .inl rfl⟩, fun n T hF => ok__law_variables F16 hB hC hX hF⟩
    | 17, _ => ⟨f17, _, _, PySem.W.mg_of X G a17, k17, ⟨b17, .inl rfl⟩, fun n T hF => ok__law_program F17 hB hC hX hF⟩
    | 18, _ => ⟨f18, _, _, PySem.W.mg_of X G a18, k18, ⟨b18, .inl rfl⟩, fun n T hF => ok__law_worth F18 hB hC hX hF⟩
    | 19, _ => ⟨f19, _, _, PySem.W.mg_of X G a19, k19, ⟨b19, .inl rfl⟩, fun n T hF => ok__law_gone F19 hB hC hX hF⟩
    | 20, _ => ⟨f20, _, _, PySem.W.mg_of X G a20, k20, ⟨b20, .inl rfl⟩, fun n T hF => ok__law_called F20 hB hC hX hF⟩
    | 21, _ => ⟨f21, _, _, PySem.W.mg_of X G a21, k21, ⟨b21, .inl rfl⟩, fun n T hF => ok__law_run F21 hB hC hX hF⟩
    | 22, _ => ⟨f22, _, _, PySem.W.mg_of X G a22, k22, ⟨b22, .inl rfl⟩, fun n T hF => ok__law_inputs F22 hB hC hX hF⟩
    | 23, _ => ⟨f23, _, _, PySem.W.mg_of X G a23, k23, ⟨b23, .inl rfl⟩, fun n T hF => ok__law_numbers F23 hB hC hX hF⟩
    | 24, _ => ⟨fa, _, _, PySem.W.mg_of X G a24, k24, ⟨b24, .inl rfl⟩, fun n T hF => ok_law F24 hB hC hX hF⟩
    | k + 25, h => (Nat.not_lt_of_le (Nat.le_add_left 25 k) h).elim) 200
  exact fn_cx0 (ok_law F24 hB hC hX A) (law_ok main)
end Lk
open PySem PySem.W PyProof.Rows
set_option maxRecDepth 100000 in
set_option maxHeartbeats 0 in
theorem PySem.Challenge.cw_safeturn_k06_run_holds : PySem.Challenge.rw_safeturn_k06_run.Holds := by
  w_on; o_law; k_head; (case hw => w_witness2)
  k_fill
  refine L2.walk_of (l := PySem.Challenge.rw_safeturn_k06_run) (n := 63) (k := 203) (x := "_law_script") (CX := fun _ => L2.CX0) (sp := fun w => Vm.spLaw _) rfl (by decide) rfl ⟨rfl, by decide, by decide⟩ (fun w h Y => PySem.W.kIn_of Y) ?F (fun _ _ a ns hl _ hS => ⟨a, ns, rfl, hS, hl, fun _ => rfl⟩) (fun _ _ _ _ _ h => h)
  case F =>
    intro w mg fa h KX G hmg
    refine' Lk.all_mk Lk.main KX G hmg ?a0 ?l0 ?c0 ?k0 ?a1 ?l1 ?c1 ?k1 ?a2 ?l2 ?c2 ?k2 ?a3 ?l3 ?c3 ?k3 ?a4 ?l4 ?c4 ?k4 ?a5 ?l5 ?c5 ?k5 ?a6 ?l6 ?c6 ?k6 ?a7 ?l7 ?c7 ?k7 ?a8 ?l8 ?c8 ?k8 ?a9 ?l9 ?c9 ?k9 ?a10 ?l10 ?c10 ?k10 ?a11 ?l11 ?c11 ?k11 ?a12 ?l12 ?c12 ?k12 ?a13 ?l13 ?c13 ?k13 ?a14 ?l14 ?c14 ?k14 ?a15 ?l15 ?c15 ?k15 ?a16 ?l16 ?c16 ?k16 ?a17 ?l17 ?c17 ?k17 ?a18 ?l18 ?c18 ?k18 ?a19 ?l19 ?c19 ?k19 ?a20 ?l20 ?c20 ?k20 ?a21 ?l21 ?c21 ?k21 ?a22 ?l22 ?c22 ?k22 ?a23 ?l23 ?c23 ?k23 ?a24 ?l24 ?c24 ?k24 ?z0 ?z1 ?z2 ?z3 ?z4 ?z5 ?z6 ?z7 ?z8 ?y0   ?vg ?vm ?vi ?vf ?vk ?vp ?vh ?vo ?vs ?vn0 ?vn1 ?vn2 ?vn3 ?vl ?vc ?vK
    (case a0 => k_is); (case l0 => k_is); (case c0 => k_is); (case k0 => k_is)
    (case a1 => k_is); (case l1 => k_is); (case c1 => k_is); (case k1 => k_is)
    (case a2 => k_is); (case l2 => k_is); (case c2 => k_is); (case k2 => k_is)
    (case a3 => k_is); (case l3 => k_is); (case c3 => k_is); (case k3 => k_is)
    (case a4 => k_is); (case l4 => k_is); (case c4 => k_is); (case k4 => k_is)
    (case a5 => k_is); (case l5 => k_is); (case c5 => k_is); (case k5 => k_is)
    (case a6 => k_is); (case l6 => k_is); (case c6 => k_is); (case k6 => k_is)
    (case a7 => k_is); (case l7 => k_is); (case c7 => k_is); (case k7 => k_is)
    (case a8 => k_is); (case l8 => k_is); (case c8 => k_is); (case k8 => k_is)
    (case a9 => k_is); (case l9 => k_is); (case c9 => k_is); (case k9 => k_is)
    (case a10 => k_is); (case l10 => k_is); (case c10 => k_is); (case k10 => k_is)
    (case a11 => k_is); (case l11 => k_is); (case c11 => k_is); (case k11 => k_is)
    (case a12 => k_is); (case l12 => k_is); (case c12 => k_is); (case k12 => k_is)
    (case a13 => k_is); (case l13 => k_is); (case c13 => k_is); (case k13 => k_is)
    (case a14 => k_is); (case l14 => k_is); (case c14 => k_is); (case k14 => k_is)
    (case a15 => k_is); (case l15 => k_is); (case c15 => k_is); (case k15 => k_is)
    (case a16 => k_is); (case l16 => k_is); (case c16 => k_is); (case k16 => k_is)
    (case a17 => k_is); (case l17 => k_is); (case c17 => k_is); (case k17 => k_is)
    (case a18 => k_is); (case l18 => k_is); (case c18 => k_is); (case k18 => k_is)
    (case a19 => k_is); (case l19 => k_is); (case c19 => k_is); (case k19 => k_is)
    (case a20 => k_is); (case l20 => k_is); (case c20 => k_is); (case k20 => k_is)
    (case a21 => k_is); (case l21 => k_is); (case c21 => k_is); (case k21 => k_is)
    (case a22 => k_is); (case l22 => k_is); (case c22 => k_is); (case k22 => k_is)
    (case a23 => k_is); (case l23 => k_is); (case c23 => k_is); (case k23 => k_is)
    (case a24 => k_is); (case l24 => k_is); (case c24 => k_is); (case k24 => k_is)
    (case z0 => k_is)
    (case z1 => k_is)
    (case z2 => k_is)
    (case z3 => k_is)
    (case z4 => k_is)
    (case z5 => k_is)
    (case z6 => k_is)
    (case z7 => k_is)
    (case z8 => k_is)
    (case y0 => k_is)
    (case vg => k_is)
    (case vm => k_is)
    (case vi => k_is)
    (case vf => k_is)
    (case vk => k_is)
    (case vp => k_is)
    (case vh => k_is)
    (case vo => k_is)
    (case vs => k_is)
    (case vn0 => k_is)
    (case vn1 => k_is)
    (case vn2 => k_is)
    (case vn3 => k_is)
    (case vl => k_is)
    (case vc => k_is)
    (case vK => k_is)
