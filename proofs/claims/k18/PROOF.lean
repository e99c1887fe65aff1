import PyProof.Rows.All
import Wide.All
import OpenK.AllK
import Wide.FinOn
import HandS.ForMost
import HandS.Defaults
import HandS.MakeKwOnly
import HandS.OwnEq
import HandS.IsInst
import HandS.DictComp
import HandS.SortInts
import HandS.WideMore
import HandS.Walk
import HandS.Head0
import HandS.Head1
import HandS.Head2
import HandS.HeadEnd
import HandS.HeadHook1
import HandS.HeadHook2
import HandS.HeadHook3
import HandS.HeadHook4
import KE.KStateDown
import HandS.NoneIn
import HandS.TupMul
import HandS.TupAny
import HandS.ExcInit
import HandS.FStr
import KE.KExcIs
import HandS.Style
import HandS.More
import HandS.SetKeys
import KE.GoesEnum
import PySem.Challenge.RW_spikehold_k18_states_of_a_network
set_option Elab.async false
set_option linter.all false
set_option maxRecDepth 100000
namespace Y
open PySem L2

/-! ### facts that grow with the heap -/
def Gw (H H' : Hp) : Prop := ∀ a o, H a = some o → H' a = some o
theorem Gw.refl (H : Hp) : Gw H H := fun _ _ h => h
theorem Gw.trans {H H1 H2 : Hp} (a : Gw H H1) (b : Gw H1 H2) : Gw H H2 := fun x o h => b x o (a x o h)
theorem Gw.new {H : Hp} {p : Addr} {o : HO} (h : H p = none) : Gw H (upd H p o) := fun a u e => by
  rw [upd_ne (ne_of_none e h)]
  exact e
theorem Gw.mut {H H' : Hp} {p : Addr} {o : HO} (e : Gw H H') (h : H p = none) : Gw H (upd H' p o) := fun a u ha => by
  rw [upd_ne (ne_of_none ha h)]
  exact e a u ha
theorem Gw.free {H H' : Hp} {p : Addr} (e : Gw H H') (h : H' p = none) : H p = none := by
  cases h1 : H p with
  | none => rfl
  | some o =>
    rw [e p o h1] at h
    cases h

/-- what a value is, by a heap that only grows -/
structure Pr where
  p : Hp → V → Prop
  m : ∀ {H H' : Hp} {v : V}, Gw H H' → p H v → p H' v
def pI (i : Int) : Pr := ⟨fun _ v => v = .int i, fun _ h => h⟩
def pB (b : Bool) : Pr := ⟨fun _ v => v = .bl b, fun _ h => h⟩
def pS (s : Str) : Pr := ⟨fun _ v => v = .str s, fun _ h => h⟩
def pN : Pr := ⟨fun _ v => v = .non, fun _ h => h⟩
def pOpt {α : Type} (r : α → Pr) : Option α → Pr
  | none => pN
  | some a => r a
/-- values one by one -/
def Sat (H : Hp) : List V → List Pr → Prop
  | [], [] => True
  | v :: vs, P :: Ps => P.p H v ∧ Sat H vs Ps
  | _, _ => False
theorem Sat.m {H H' : Hp} (e : Gw H H') : ∀ {vs : List V} {Ps : List Pr}, Sat H vs Ps → Sat H' vs Ps
  | [], [], _ => trivial
  | _ :: _, P :: _, h => ⟨P.m e h.1, Sat.m e h.2⟩
  | [], _ :: _, h => h.elim
  | _ :: _, [], h => h.elim
theorem Sat.len {H : Hp} : ∀ {vs : List V} {Ps : List Pr}, Sat H vs Ps → vs.length = Ps.length
  | [], [], _ => rfl
  | _ :: _, _ :: _, h => congrArg Nat.succ (Sat.len h.2)
  | [], _ :: _, h => h.elim
  | _ :: _, [], h => h.elim
theorem Sat.get {H : Hp} : ∀ {vs : List V} {Ps : List Pr} {i : Nat} {P : Pr}, Sat H vs Ps → Ps[i]? = some P → ∃ v, vs[i]? = some v ∧ P.p H v
  | [], [], _, _, _, e => by simp at e
  | v :: _, P :: _, 0, _, h, e => by
    simp at e
    subst e
    exact ⟨v, rfl, h.1⟩
  | v :: vs, P :: Ps, i + 1, _, h, e => by
    obtain ⟨w, h1, h2⟩ := Sat.get (i := i) h.2 (by simpa using e)
    exact ⟨w, by simpa using h1, h2⟩
  | [], _ :: _, _, _, h, _ => h.elim
  | _ :: _, [], _, _, h, _ => h.elim
theorem Sat.getv {H : Hp} {vs : List V} {Ps : List Pr} {i : Nat} {v : V} (h : Sat H vs Ps) (e : vs[i]? = some v) : ∃ P, Ps[i]? = some P ∧ P.p H v := by
  have hi : i < vs.length := (List.getElem?_eq_some_iff.mp e).1
  have hj : i < Ps.length := h.len ▸ hi
  obtain ⟨w, h1, h2⟩ := h.get (List.getElem?_eq_getElem hj)
  rw [e] at h1
  cases h1
  exact ⟨_, List.getElem?_eq_getElem hj, h2⟩
theorem Sat.app {H : Hp} : ∀ {vs : List V} {Ps : List Pr} {ws : List V} {Qs : List Pr}, Sat H vs Ps → Sat H ws Qs → Sat H (vs ++ ws) (Ps ++ Qs)
  | [], [], _, _, _, q => q
  | _ :: _, _ :: _, _, _, h, q => ⟨h.1, Sat.app h.2 q⟩
  | [], _ :: _, _, _, h, _ => h.elim
  | _ :: _, [], _, _, h, _ => h.elim
theorem Sat.snoc {H : Hp} {vs : List V} {Ps : List Pr} {v : V} {P : Pr} (h : Sat H vs Ps) (q : P.p H v) : Sat H (vs ++ [v]) (Ps ++ [P]) := h.app ⟨q, trivial⟩
theorem Sat.set {H : Hp} {v : V} {P : Pr} (q : P.p H v) : ∀ {vs : List V} {Ps : List Pr} (i : Nat), Sat H vs Ps → Sat H (vs.set i v) (Ps.set i P)
  | [], [], _, h => h
  | _ :: _, _ :: _, 0, h => ⟨q, h.2⟩
  | _ :: _, _ :: _, i + 1, h => ⟨h.1, Sat.set q i h.2⟩
  | [], _ :: _, _, h => h.elim
  | _ :: _, [], _, h => h.elim
theorem Sat.drop {H : Hp} : ∀ {vs : List V} {Ps : List Pr} (n : Nat), Sat H vs Ps → Sat H (vs.drop n) (Ps.drop n)
  | _, _, 0, h => h
  | [], [], _ + 1, h => h
  | _ :: _, _ :: _, n + 1, h => Sat.drop n h.2
  | [], _ :: _, _ + 1, h => h.elim
  | _ :: _, [], _ + 1, h => h.elim
theorem Sat.take {H : Hp} : ∀ {vs : List V} {Ps : List Pr} (n : Nat), Sat H vs Ps → Sat H (vs.take n) (Ps.take n)
  | _, _, 0, _ => trivial
  | [], [], _ + 1, h => h
  | _ :: _, _ :: _, n + 1, h => ⟨h.1, Sat.take n h.2⟩
  | [], _ :: _, _ + 1, h => h.elim
  | _ :: _, [], _ + 1, h => h.elim
theorem Sat.erase {H : Hp} : ∀ {vs : List V} {Ps : List Pr} (i : Nat), Sat H vs Ps → Sat H (vs.eraseIdx i) (Ps.eraseIdx i)
  | [], [], _, h => h
  | _ :: _, _ :: _, 0, h => h.2
  | _ :: _, _ :: _, i + 1, h => ⟨h.1, Sat.erase i h.2⟩
  | [], _ :: _, _, h => h.elim
  | _ :: _, [], _, h => h.elim

/-! ### what owns a region: the value, the addresses -/
structure Ow where
  p : Hp → Hp → V → List Addr → Prop
  m : ∀ {G G' H H' : Hp} {v : V} {L : List Addr}, Gw G G' → (∀ a ∈ L, H' a = H a) → p G H v L → p G' H' v L
/-- one object -/
def oW (W : Hp → HO → Prop) (m : ∀ {G G' : Hp} {o : HO}, Gw G G' → W G o → W G' o) : Ow :=
  ⟨fun G H v L => ∃ a o, v = .ref a ∧ L = [a] ∧ H a = some o ∧ W G o, fun e k ⟨a, o, h1, h2, h3, h4⟩ => ⟨a, o, h1, h2, by rw [k a (by rw [h2]; exact List.mem_singleton.mpr rfl)]; exact h3, m e h4⟩⟩
def wL (Ps : List Pr) (G : Hp) (o : HO) : Prop := ∃ vs, o = .lst vs ∧ Sat G vs Ps ∧ vs.length ≤ sizeLine
def wO (C : Addr) (ns : List Str) (Ps : List Pr) (G : Hp) (o : HO) : Prop := ∃ dx vs, o = .ins C dx (ns.zip vs) ∧ Sat G vs Ps
theorem wL.m {Ps : List Pr} {G G' : Hp} {o : HO} (e : Gw G G') : wL Ps G o → wL Ps G' o := fun ⟨vs, h1, h2, h3⟩ => ⟨vs, h1, h2.m e, h3⟩
theorem wO.m {C : Addr} {ns : List Str} {Ps : List Pr} {G G' : Hp} {o : HO} (e : Gw G G') : wO C ns Ps G o → wO C ns Ps G' o := fun ⟨dx, vs, h1, h2⟩ => ⟨dx, vs, h1, h2.m e⟩
/-- a dict of ints and texts -/
def SatK (H : Hp) : List (Key × V) → List (Key × Pr) → Prop
  | [], [] => True
  | v :: vs, P :: Ps => v.1 = P.1 ∧ P.2.p H v.2 ∧ SatK H vs Ps
  | _, _ => False
theorem SatK.m {H H' : Hp} (e : Gw H H') : ∀ {vs : List (Key × V)} {Ps : List (Key × Pr)}, SatK H vs Ps → SatK H' vs Ps
  | [], [], _ => trivial
  | _ :: _, P :: _, h => ⟨h.1, P.2.m e h.2.1, SatK.m e h.2.2⟩
  | [], _ :: _, h => h.elim
  | _ :: _, [], h => h.elim
def wD (Ps : List (Key × Pr)) (G : Hp) (o : HO) : Prop := ∃ vs, o = .dK vs ∧ SatK G vs Ps
theorem wD.m {Ps : List (Key × Pr)} {G G' : Hp} {o : HO} (e : Gw G G') : wD Ps G o → wD Ps G' o := fun ⟨vs, h1, h2⟩ => ⟨vs, h1, h2.m e⟩
def oL (Ps : List Pr) : Ow := oW (wL Ps) wL.m
def oO (C : Addr) (ns : List Str) (Ps : List Pr) : Ow := oW (wO C ns Ps) wO.m
def oD (Ps : List (Key × Pr)) : Ow := oW (wD Ps) wD.m
/-- an object that no one changes -/
def pW (W : Hp → HO → Prop) (m : ∀ {G G' : Hp} {o : HO}, Gw G G' → W G o → W G' o) : Pr := ⟨fun H v => ∃ a o, v = .ref a ∧ H a = some o ∧ W H o, fun e ⟨a, o, h1, h2, h3⟩ => ⟨a, o, h1, e _ _ h2, m e h3⟩⟩
/-- a list; a tuple; an object of the class at C; a dict -/
def pL (Ps : List Pr) : Pr := pW (wL Ps) wL.m
def pO (C : Addr) (ns : List Str) (Ps : List Pr) : Pr := pW (wO C ns Ps) wO.m
def pD (Ps : List (Key × Pr)) : Pr := pW (wD Ps) wD.m
def pT (Ps : List Pr) : Pr := ⟨fun H v => ∃ a vs, v = .ref a ∧ H a = some (.tup vs) ∧ Sat H vs Ps, fun e ⟨a, vs, h1, h2, h3⟩ => ⟨a, vs, h1, e _ _ h2, h3.m e⟩⟩
/-- the script: a list that the caller froze -/
def pScr (K : PySem.W.Frag) (ns : List Int) : Pr := ⟨fun H v => ∃ a, v = .ref a ∧ SqL K H a (ns.map V.int) ∧ ns.length ≤ 63, fun e ⟨a, h1, h2, h3⟩ => ⟨a, h1, Same.seq e h2, h3⟩⟩

/-! ### slots -/
inductive Slot where
  | any
  | val (P : Pr)
  | own (W : Ow)
abbrev Ctx := List Slot
def SlotOk (G H : Hp) (L : List Addr) : Slot → Option (Option V) → Prop
  | .any, _ => True
  | .val P, some (some v) => P.p G v
  | .own W, some (some v) => W.p G H v L
  | _, _ => False
/-- growth: G what no one changes, H the whole -/
structure Gr (G H G' H' : Hp) : Prop where
  g : Gw G G'
  h : Gw H H'
  s : Gw G' H'
  f : ∀ a, H a ≠ none → G a = none → G' a = none
theorem Gr.refl {G H : Hp} (s : Gw G H) : Gr G H G H := ⟨Gw.refl G, Gw.refl H, s, fun _ _ h => h⟩
theorem Gr.trans {G H G1 H1 G2 H2 : Hp} (a : Gr G H G1 H1) (b : Gr G1 H1 G2 H2) : Gr G H G2 H2 :=
  ⟨a.g.trans b.g, a.h.trans b.h, b.s, fun x hx gx => b.f x (fun z => hx (a.h.free z)) (a.f x hx gx)⟩
theorem gw_upd {G H : Hp} {p : Addr} {o : HO} (s : Gw G H) : Gw (upd G p o) (upd H p o) := fun a u e => by
  by_cases z : a = p
  · subst z
    rw [upd_same] at e ⊢
    exact e
  · rw [upd_ne z] at e ⊢
    exact s a u e
/-- a new object that no one will change -/
theorem Gr.new {G H : Hp} {p : Addr} {o : HO} (s : Gw G H) (hp : H p = none) : Gr G H (upd G p o) (upd H p o) :=
  ⟨Gw.new (s.free hp), Gw.new hp, gw_upd s, fun a ha ga => by
    have z : a ≠ p := fun z => ha (z ▸ hp)
    rw [upd_ne z]
    exact ga⟩
/-- a new object, tracked alone -/
theorem Gr.lay {G H : Hp} {p : Addr} {o : HO} (s : Gw G H) (hp : H p = none) : Gr G H G (upd H p o) := ⟨Gw.refl G, Gw.new hp, s.trans (Gw.new hp), fun _ _ h => h⟩
/-- where a body stands: the heaps at its entry, what else is known -/
structure Fm where
  G : Hp
  H : Hp
  X : Hp → Prop
  m : ∀ {H H' : Hp}, Gw H H' → X H → X H'
structure EOk1 (F : Fm) (Γ : Ctx) (σ : St) (G H : Hp) (Ls : Nat → List Addr) : Prop where
  gr : Gr F.G F.H G H
  x : F.X G
  len : σ.length = Γ.length
  at_ : ∀ (i : Nat) (sl : Slot), Γ[i]? = some sl → SlotOk G H (Ls i) sl σ[i]?
  fr : ∀ (i : Nat) (W : Ow), Γ[i]? = some (.own W) → ∀ a ∈ Ls i, G a = none ∧ F.H a = none ∧ H a ≠ none
  dis : ∀ (i j : Nat) (W W' : Ow), Γ[i]? = some (.own W) → Γ[j]? = some (.own W') → i ≠ j → ∀ a ∈ Ls i, a ∉ Ls j
def EOk (F : Fm) (Γ : Ctx) (σ : St) (G H : Hp) : Prop := ∃ Ls, EOk1 F Γ σ G H Ls
theorem SlotOk.val_ {G H : Hp} {L : List Addr} {P : Pr} {o : Option (Option V)} (h : SlotOk G H L (.val P) o) : ∃ v, o = some (some v) ∧ P.p G v := by
  cases o with
  | none => exact h.elim
  | some v =>
    cases v with
    | none => exact h.elim
    | some v => exact ⟨v, rfl, h⟩
theorem SlotOk.own_ {G H : Hp} {L : List Addr} {W : Ow} {o : Option (Option V)} (h : SlotOk G H L (.own W) o) : ∃ v, o = some (some v) ∧ W.p G H v L := by
  cases o with
  | none => exact h.elim
  | some v =>
    cases v with
    | none => exact h.elim
    | some v => exact ⟨v, rfl, h⟩
/-- G grows, H stays on L -/
theorem SlotOk.go {G H G' H' : Hp} {L : List Addr} {sl : Slot} {o : Option (Option V)} (g : Gw G G') (k : ∀ W, sl = .own W → ∀ a ∈ L, H' a = H a) (h : SlotOk G H L sl o) : SlotOk G' H' L sl o := by
  cases sl with
  | any => trivial
  | val P =>
    obtain ⟨v, rfl, q⟩ := h.val_
    exact P.m g q
  | own W =>
    obtain ⟨v, rfl, q⟩ := h.own_
    exact W.m g (k W rfl) q
theorem Gw.at {H H' : Hp} (e : Gw H H') {a : Addr} (h : H a ≠ none) : H' a = H a := by
  cases z : H a with
  | none => exact absurd z h
  | some o => exact e a o z
section
variable {F : Fm} {Γ : Ctx} {σ : St} {G H G' H' : Hp} {Ls : Nat → List Addr} {i : Nat} {P : Pr} {W W' : Ow} {v : V}
theorem EOk.grow (e : EOk F Γ σ G H) (g : Gr G H G' H') : EOk F Γ σ G' H' := by
  obtain ⟨Ls, e⟩ := e
  exact ⟨Ls, e.gr.trans g, F.m g.g e.x, e.len, fun i sl h => (e.at_ i sl h).go g.g (fun W hW a ha => g.h.at (e.fr i W (hW ▸ h) a ha).2.2),
    fun i W h a ha => ⟨g.f a (e.fr i W h a ha).2.2 (e.fr i W h a ha).1, (e.fr i W h a ha).2.1, fun z => (e.fr i W h a ha).2.2 (g.h.free z)⟩, e.dis⟩
theorem EOk.s (e : EOk F Γ σ G H) : Gw G H := let ⟨_, e⟩ := e; e.gr.s
theorem EOk.len (e : EOk F Γ σ G H) : σ.length = Γ.length := let ⟨_, e⟩ := e; e.len
theorem EOk.val (e : EOk F Γ σ G H) (h : Γ[i]? = some (.val P)) : ∃ v, σ[i]? = some (some v) ∧ P.p G v := by
  obtain ⟨Ls, e⟩ := e
  exact (e.at_ i _ h).val_
theorem set_get {α : Type} {l : List α} {i j : Nat} {x y : α} (h : (l.set i x)[j]? = some y) : (i = j ∧ i < l.length ∧ y = x) ∨ (i ≠ j ∧ l[j]? = some y) := by
  by_cases z : i = j
  · subst z
    by_cases hi : i < l.length
    · rw [List.getElem?_set_self hi] at h
      exact .inl ⟨rfl, hi, (Option.some.inj h).symm⟩
    · rw [List.getElem?_eq_none (by rw [List.length_set]; omega)] at h
      cases h
  · rw [List.getElem?_set_ne z] at h
    exact .inr ⟨z, h⟩
theorem lt_of_get {α : Type} {l : List α} {i : Nat} {x : α} (h : l[i]? = some x) : i < l.length := (List.getElem?_eq_some_iff.mp h).1
/-- slot i gets a value -/
theorem EOk.set (e : EOk F Γ σ G H) (h : P.p G v) (hi : i < Γ.length) : EOk F (Γ.set i (.val P)) (σ.set i (some v)) G H := by
  obtain ⟨Ls, e⟩ := e
  have hi2 : i < σ.length := e.len ▸ hi
  have bk : ∀ {j : Nat} {W : Ow}, (Γ.set i (.val P))[j]? = some (.own W) → Γ[j]? = some (.own W) := fun {j W} hj => by
    rcases set_get hj with ⟨_, _, z⟩ | ⟨_, z⟩
    · cases z
    · exact z
  refine ⟨Ls, e.gr, e.x, by rw [List.length_set, List.length_set, e.len], fun j sl hj => ?_, fun j W hj => e.fr j W (bk hj), fun j k W W' hj hk => e.dis j k W W' (bk hj) (bk hk)⟩
  rcases set_get hj with ⟨rfl, _, rfl⟩ | ⟨z, hj⟩
  · rw [List.getElem?_set_self hi2]
    exact h
  · rw [List.getElem?_set_ne z]
    exact e.at_ j sl hj
/-- slot i gets a region of its own -/
theorem EOk.setOwn {L : List Addr} (e : EOk F Γ σ G H) (g : Gr G H G' H') (hL : ∀ a ∈ L, H a = none ∧ G' a = none ∧ H' a ≠ none) (hw : W.p G' H' v L) (hi : i < Γ.length) : EOk F (Γ.set i (.own W)) (σ.set i (some v)) G' H' := by
  have e' := e.grow g
  obtain ⟨Ls, e⟩ := e
  have hi2 : i < σ.length := e.len ▸ hi
  have em : ∀ {j : Nat} {sl : Slot}, Γ[j]? = some sl → SlotOk G' H' (Ls j) sl σ[j]? := fun {j sl} h => (e.at_ j sl h).go g.g (fun W hW a ha => g.h.at (e.fr j W (hW ▸ h) a ha).2.2)
  have fm : ∀ {j : Nat} {W : Ow}, Γ[j]? = some (.own W) → ∀ a ∈ Ls j, G' a = none ∧ F.H a = none ∧ H' a ≠ none := fun {j W} h a ha =>
    ⟨g.f a (e.fr j W h a ha).2.2 (e.fr j W h a ha).1, (e.fr j W h a ha).2.1, fun z => (e.fr j W h a ha).2.2 (g.h.free z)⟩
  refine ⟨fun j => if j = i then L else Ls j, e.gr.trans g, F.m g.g e.x, by rw [List.length_set, List.length_set, e.len], fun j sl hj => ?_, fun j W1 hj a ha => ?_, fun j k W1 W2 hj hk ne a ha => ?_⟩
  · rcases set_get hj with ⟨rfl, _, rfl⟩ | ⟨z, hj⟩
    · rw [List.getElem?_set_self hi2, if_pos rfl]
      exact hw
    · rw [List.getElem?_set_ne z, if_neg (Ne.symm z)]
      exact em hj
  · rcases set_get hj with ⟨rfl, _, _⟩ | ⟨z, hj⟩
    · rw [if_pos rfl] at ha
      exact ⟨(hL a ha).2.1, e.gr.h.free (hL a ha).1, (hL a ha).2.2⟩
    · rw [if_neg (Ne.symm z)] at ha
      exact fm hj a ha
  · rcases set_get hj with ⟨rfl, _, _⟩ | ⟨z, hj⟩
    · rw [if_pos rfl] at ha
      rw [if_neg (Ne.symm ne)]
      rcases set_get hk with ⟨e1, _, _⟩ | ⟨_, hk⟩
      · exact absurd e1 ne
      · exact fun q => (e.fr k W2 hk a q).2.2 (hL a ha).1
    · rw [if_neg (Ne.symm z)] at ha
      rcases set_get hk with ⟨rfl, _, _⟩ | ⟨z2, hk⟩
      · rw [if_pos rfl]
        exact fun q => (e.fr j W1 hj a ha).2.2 (hL a q).1
      · rw [if_neg (Ne.symm z2)]
        exact e.dis j k W1 W2 hj hk ne a ha
/-- the region of slot i has changed -/
theorem EOk1.mut {L : List Addr} (e : EOk1 F Γ σ G H Ls) (hi : Γ[i]? = some (.own W)) (hσ : σ[i]? = some (some v)) (ho : ∀ a, a ∉ Ls i → H a ≠ none → H' a = H a) (hw : W'.p G H' v L) (hL : ∀ a ∈ L, a ∈ Ls i ∨ H a = none) (hn : ∀ a ∈ L, H' a ≠ none) :
    EOk F (Γ.set i (.own W')) σ G H' := by
  have hi1 : i < Γ.length := lt_of_get hi
  have off : ∀ {a : Addr}, H a ≠ none → (a ∈ Ls i → False) → H' a = H a := fun {a} h n => ho a n h
  have sG : Gw G H' := fun a o h => by
    have h1 := e.gr.s a o h
    rw [off (by rw [h1]; exact fun z => nomatch z) (fun q => by rw [(e.fr i W hi a q).1] at h; cases h)]
    exact h1
  have sH : Gw F.H H' := fun a o h => by
    have h1 := e.gr.h a o h
    rw [off (by rw [h1]; exact fun z => nomatch z) (fun q => by rw [(e.fr i W hi a q).2.1] at h; cases h)]
    exact h1
  refine ⟨fun j => if j = i then L else Ls j, ⟨e.gr.g, sH, sG, e.gr.f⟩, e.x, by rw [List.length_set, e.len], fun j sl hj => ?_, fun j W1 hj a ha => ?_, fun j k W1 W2 hj hk ne a ha => ?_⟩
  · rcases set_get hj with ⟨rfl, _, rfl⟩ | ⟨z, hj⟩
    · rw [hσ, if_pos rfl]
      exact hw
    · rw [if_neg (Ne.symm z)]
      exact (e.at_ j sl hj).go (Gw.refl G) (fun W2 hW a ha => off (e.fr j W2 (hW ▸ hj) a ha).2.2 (fun q => e.dis j i W2 W (hW ▸ hj) hi (Ne.symm z) a ha q))
  · rcases set_get hj with ⟨rfl, _, _⟩ | ⟨z, hj⟩
    · rw [if_pos rfl] at ha
      rcases hL a ha with q | q
      · exact ⟨(e.fr _ W hi a q).1, (e.fr _ W hi a q).2.1, hn a ha⟩
      · exact ⟨e.gr.s.free q, e.gr.h.free q, hn a ha⟩
    · rw [if_neg (Ne.symm z)] at ha
      have f := e.fr j W1 hj a ha
      exact ⟨f.1, f.2.1, by rw [off f.2.2 (fun q => e.dis j i W1 W hj hi (Ne.symm z) a ha q)]; exact f.2.2⟩
  · rcases set_get hj with ⟨rfl, _, _⟩ | ⟨z, hj⟩
    · rw [if_pos rfl] at ha
      rw [if_neg (Ne.symm ne)]
      rcases set_get hk with ⟨e1, _, _⟩ | ⟨_, hk⟩
      · exact absurd e1 ne
      · rcases hL a ha with q | q
        · exact e.dis _ k W W2 hi hk ne a q
        · exact fun q2 => (e.fr k W2 hk a q2).2.2 q
    · rw [if_neg (Ne.symm z)] at ha
      rcases set_get hk with ⟨rfl, _, _⟩ | ⟨z2, hk⟩
      · rw [if_pos rfl]
        intro q
        rcases hL a q with q | q
        · exact e.dis j _ W1 W hj hi ne a ha q
        · exact (e.fr j W1 hj a ha).2.2 q
      · rw [if_neg (Ne.symm z2)]
        exact e.dis j k W1 W2 hj hk ne a ha
/-- a region that will not change any more -/
def Frz (W : Ow) (P : Pr) : Prop := ∀ (G H : Hp) (v : V) (L : List Addr), Gw G H → (∀ a ∈ L, G a = none) → W.p G H v L → ∃ G', Gw G G' ∧ Gw G' H ∧ (∀ a, a ∉ L → G' a = G a) ∧ P.p G' v
theorem frz_W {w : Hp → HO → Prop} {m : ∀ {G G' : Hp} {o : HO}, Gw G G' → w G o → w G' o} : Frz (oW w m) (pW w m) := fun G H v L s hL ⟨a, o, h1, h2, h3, h4⟩ => by
  subst h2
  have ga : G a = none := hL a (List.mem_singleton.mpr rfl)
  refine ⟨upd G a o, Gw.new ga, fun b u hb => ?_, fun b hb => upd_ne (fun z => hb (List.mem_singleton.mpr z)), a, o, h1, upd_same, m (Gw.new ga) h4⟩
  by_cases z : b = a
  · subst z
    rw [upd_same] at hb
    cases hb
    exact h3
  · rw [upd_ne z] at hb
    exact s b u hb
theorem frz_L {Ps : List Pr} : Frz (oL Ps) (pL Ps) := frz_W
theorem frz_O {C : Addr} {ns : List Str} {Ps : List Pr} : Frz (oO C ns Ps) (pO C ns Ps) := frz_W
theorem frz_D {Ps : List (Key × Pr)} : Frz (oD Ps) (pD Ps) := frz_W
theorem EOk.frz (e : EOk F Γ σ G H) (f : Frz W P) (hi : Γ[i]? = some (.own W)) : ∃ G', Gw G G' ∧ EOk F (Γ.set i (.val P)) σ G' H := by
  obtain ⟨Ls, e⟩ := e
  obtain ⟨v, s1, hw⟩ := (e.at_ i _ hi).own_
  obtain ⟨G', g1, g2, g3, hp⟩ := f G H v (Ls i) e.gr.s (fun a ha => (e.fr i W hi a ha).1) hw
  have bk : ∀ {j : Nat} {W1 : Ow}, (Γ.set i (.val P))[j]? = some (.own W1) → i ≠ j ∧ Γ[j]? = some (.own W1) := fun {j W1} hj => by
    rcases set_get hj with ⟨_, _, z⟩ | ⟨z, h⟩
    · cases z
    · exact ⟨z, h⟩
  have off : ∀ {a : Addr}, (a ∈ Ls i → False) → G' a = G a := fun {a} n => g3 a n
  refine ⟨G', g1, Ls, ⟨e.gr.g.trans g1, e.gr.h, g2, fun a ha ga => ?_⟩, F.m g1 e.x, by rw [List.length_set, e.len], fun j sl hj => ?_, fun j W1 hj a ha => ?_, fun j k W1 W2 hj hk => e.dis j k W1 W2 (bk hj).2 (bk hk).2⟩
  · rw [off (fun q => ha (e.fr i W hi a q).2.1)]
    exact e.gr.f a ha ga
  · rcases set_get hj with ⟨rfl, _, rfl⟩ | ⟨z, hj⟩
    · rw [s1]
      exact hp
    · exact (e.at_ j sl hj).go g1 (fun _ _ _ _ => rfl)
  · obtain ⟨z, hj⟩ := bk hj
    have f := e.fr j W1 hj a ha
    exact ⟨by rw [off (fun q => e.dis j i W1 W hj hi (Ne.symm z) a ha q)]; exact f.1, f.2⟩
/-- less is said of slot i -/
theorem EOk.drop (e : EOk F Γ σ G H) (i : Nat) : EOk F (Γ.set i .any) σ G H := by
  obtain ⟨Ls, e⟩ := e
  have bk : ∀ {j : Nat} {W1 : Ow}, (Γ.set i .any)[j]? = some (.own W1) → Γ[j]? = some (.own W1) := fun {j W1} hj => by
    rcases set_get hj with ⟨_, _, z⟩ | ⟨z, h⟩
    · cases z
    · exact h
  refine ⟨Ls, e.gr, e.x, by rw [List.length_set, e.len], fun j sl hj => ?_, fun j W1 hj => e.fr j W1 (bk hj), fun j k W1 W2 hj hk => e.dis j k W1 W2 (bk hj) (bk hk)⟩
  rcases set_get hj with ⟨rfl, _, rfl⟩ | ⟨z, hj⟩
  · trivial
  · exact e.at_ j sl hj
/-- slot i forgotten, in both -/
theorem EOk.wipe1 (e : EOk F Γ σ G H) (i : Nat) : EOk F (Γ.set i .any) (σ.set i none) G H := by
  obtain ⟨Ls, e⟩ := e.drop i
  refine ⟨Ls, e.gr, e.x, by rw [List.length_set]; exact e.len, fun j sl hj => ?_, e.fr, e.dis⟩
  have q := e.at_ j sl hj
  rcases set_get hj with ⟨rfl, _, rfl⟩ | ⟨z, _⟩
  · trivial
  · rw [List.getElem?_set_ne z]
    exact q
theorem EOk.more {X' : Hp → Prop} {m' : ∀ {H H' : Hp}, Gw H H' → X' H → X' H'} (e : EOk F Γ σ G H) (h : X' G) : EOk ⟨F.G, F.H, fun H => F.X H ∧ X' H, fun g q => ⟨F.m g q.1, m' g q.2⟩⟩ Γ σ G H := by
  obtain ⟨Ls, e⟩ := e
  exact ⟨Ls, e.gr, ⟨e.x, h⟩, e.len, e.at_, e.fr, e.dis⟩
theorem EOk.less {X' : Hp → Prop} {m' : ∀ {H H' : Hp}, Gw H H' → (F.X H ∧ X' H) → (F.X H' ∧ X' H')} (e : EOk ⟨F.G, F.H, fun H => F.X H ∧ X' H, m'⟩ Γ σ G H) : EOk F Γ σ G H ∧ X' G := by
  obtain ⟨Ls, e⟩ := e
  exact ⟨⟨Ls, e.gr, e.x.1, e.len, e.at_, e.fr, e.dis⟩, e.x.2⟩
end
def wipeC (Γ : Ctx) : List Nat → Ctx
  | [] => Γ
  | v :: vs => (wipeC Γ vs).set v .any
theorem EOk.wipe {F : Fm} {Γ : Ctx} {σ : St} {G H : Hp} (e : EOk F Γ σ G H) : ∀ vs : List Nat, EOk F (wipeC Γ vs) (L2.wipe σ vs) G H
  | [] => e
  | v :: vs => (EOk.wipe e vs).wipe1 v
end Y

set_option Elab.async false
set_option linter.all false
set_option maxRecDepth 100000
namespace Y
open PySem L2
section
variable {K : PySem.W.Frag} {Γ : Ctx} {te ta tb ti : TE} {t u : TT} {P P1 P2 Q1 : Pr} {Ps Qs : List Pr} {W : Ow} {i j : Int} {n : Nat}
/-! ### what an expression is -/
def EvE (te : TE) (Γ : Ctx) (P : Pr) : Prop := ∀ (F : Fm) (σ : St) (G H : Hp), EOk F Γ σ G H → ∀ Q : VK, (∀ v G' H', Gr G H G' H' → P.p G' v → Q v H') → te σ H Q
/-- a new region -/
def EvW (te : TE) (Γ : Ctx) (W : Ow) : Prop := ∀ (F : Fm) (σ : St) (G H : Hp), EOk F Γ σ G H → ∀ Q : VK, (∀ v L G' H', Gr G H G' H' → (∀ a ∈ L, H a = none ∧ G' a = none ∧ H' a ≠ none) → W.p G' H' v L → Q v H') → te σ H Q
/-- a list to be read -/
def EvR (K : PySem.W.Frag) (te : TE) (Γ : Ctx) (Ps : List Pr) : Prop := ∀ (F : Fm) (σ : St) (G H : Hp), EOk F Γ σ G H → ∀ Q : VK, (∀ a vs G' H', Gr G H G' H' → SqL K H' a vs → Sat G' vs Ps → vs.length ≤ sizeLine → Q (.ref a) H') → te σ H Q
/-- .. that is tracked -/
def EvS (te : TE) (Γ : Ctx) (Ps : List Pr) : Prop := ∀ (F : Fm) (σ : St) (G H : Hp), EOk F Γ σ G H → ∀ Q : VK, (∀ a vs G' H', Gr G H G' H' → H' a = some (.lst vs) → Sat G' vs Ps → vs.length ≤ sizeLine → Q (.ref a) H') → te σ H Q
def EvT (t : TT) (Γ : Ctx) (b : Bool) : Prop := ∀ (F : Fm) (σ : St) (G H : Hp), EOk F Γ σ G H → ∀ Q : Bool → Hp → Prop, (∀ G' H', Gr G H G' H' → Q b H') → t σ H Q
def EvA (ta : TA) (Γ : Ctx) (Ps : List Pr) : Prop := ∀ (F : Fm) (σ : St) (G H : Hp), EOk F Γ σ G H → ∀ Q : List V → Hp → Prop, (∀ vs G' H', Gr G H G' H' → Sat G' vs Ps → Q vs H') → ta σ H Q
def EvO (to : TO) (Γ : Ctx) (o : Option Int) : Prop := ∀ (F : Fm) (σ : St) (G H : Hp), EOk F Γ σ G H → ∀ Q : Option Int → Hp → Prop, (∀ G' H', Gr G H G' H' → Q o H') → to σ H Q

theorem e_to {P' : Pr} (h : EvE te Γ P) (e : P = P') : EvE te Γ P' := e ▸ h
theorem t_to {b b' : Bool} (h : EvT t Γ b) (e : b = b') : EvT t Γ b' := e ▸ h
theorem e_var {i : Nat} (h : Γ[i]? = some (.val P)) : EvE (tVar i) Γ P := fun F σ G H e Q q => by
  obtain ⟨v, h1, h2⟩ := e.val h
  exact ⟨v, h1, q v G H (Gr.refl e.s) h2⟩
theorem e_int : EvE (tC (.int i)) Γ (pI i) := fun F σ G H e Q q => q _ G H (Gr.refl e.s) rfl
theorem e_bl {b : Bool} : EvE (tC (.bl b)) Γ (pB b) := fun F σ G H e Q q => q _ G H (Gr.refl e.s) rfl
theorem e_non : EvE (tC .non) Γ pN := fun F σ G H e Q q => q _ G H (Gr.refl e.s) rfl
theorem e_str {s : Str} : EvE (tC (.str s)) Γ (pS s) := fun F σ G H e Q q => q _ G H (Gr.refl e.s) rfl
theorem e_frz (f : Frz W P) (h : EvW te Γ W) : EvE te Γ P := fun F σ G H e Q q => h F σ G H e Q fun v L G' H' g hL hw => by
  obtain ⟨G2, g1, g2, g3, hp⟩ := f G' H' v L g.s (fun a ha => (hL a ha).2.1) hw
  refine q v G2 H' ⟨g.g.trans g1, g.h, g2, fun a ha ga => ?_⟩ hp
  rw [g3 a (fun z => ha (hL a z).1)]
  exact g.f a ha ga
theorem e_L (h : EvW te Γ (oL Ps)) : EvE te Γ (pL Ps) := e_frz frz_L h
theorem sL_E (h : EvE te Γ (pL Ps)) : EvS te Γ Ps := fun F σ G H e Q q => h F σ G H e Q fun v G' H' g ⟨a, o, h1, h2, vs, h3, h4, h5⟩ => by
  subst h1 h3
  exact q a vs G' H' g (g.s _ _ h2) h4 h5
theorem sL_W (h : EvW te Γ (oL Ps)) : EvS te Γ Ps := sL_E (e_L h)
theorem sL_O {i : Nat} (h : Γ[i]? = some (.own (oL Ps))) : EvS (tVar i) Γ Ps := fun F σ G H e Q q => by
  obtain ⟨Ls, e1⟩ := e
  obtain ⟨v, h1, a, o, h2, h3, h4, vs, h5, h6, h7⟩ := (e1.at_ i _ h).own_
  subst h2 h5
  exact ⟨_, h1, q a vs G H (Gr.refl e1.gr.s) h4 h6 h7⟩
theorem r_S (h : EvS te Γ Ps) : EvR K te Γ Ps := fun F σ G H e Q q => h F σ G H e Q fun a vs G' H' g h1 h2 h3 => q a vs G' H' g (SqL.of h1) h2 h3
theorem r_E (h : EvE te Γ (pL Ps)) : EvR K te Γ Ps := r_S (sL_E h)
theorem r_W (h : EvW te Γ (oL Ps)) : EvR K te Γ Ps := r_S (sL_W h)
theorem r_O {i : Nat} (h : Γ[i]? = some (.own (oL Ps))) : EvR K (tVar i) Γ Ps := r_S (sL_O h)
theorem sat_ints {H : Hp} : ∀ ns : List Int, Sat H (ns.map V.int) (ns.map pI)
  | [] => trivial
  | _ :: r => ⟨rfl, sat_ints r⟩
theorem r_scr {ns : List Int} (h : EvE te Γ (pScr K ns)) : EvR K te Γ (ns.map pI) := fun F σ G H e Q q => h F σ G H e Q fun v G' H' g ⟨a, h1, h2, h3⟩ => by
  subst h1
  refine q a _ G' H' g (Same.seq g.s h2) (sat_ints ns) ?_
  rw [List.length_map]
  exact Nat.le_trans h3 (by decide)
theorem r_to {Ps' : List Pr} (h : EvR K te Γ Ps) (e : Ps = Ps') : EvR K te Γ Ps' := e ▸ h

/-! ### operators -/
def RR (r : R2) (P1 P2 P : Pr) : Prop := ∀ (G H : Hp) (x y : V) (Q : VK), Gw G H → P1.p G x → P2.p G y → (∀ v G' H', Gr G H G' H' → P.p G' v → Q v H') → r x y H Q
theorem e_op {r : R2} (hr : RR r P1 P2 P) (ha : EvE ta Γ P1) (hb : EvE tb Γ P2) : EvE (tOp r ta tb) Γ P := fun F σ G H e Q q =>
  ha F σ G H e _ fun x G1 H1 g1 p1 => hb F σ G1 H1 (e.grow g1) _ fun y G2 H2 g2 p2 => hr G2 H2 x y Q g2.s (P1.m g2.g p1) p2 fun v G3 H3 g3 p3 => q v G3 H3 ((g1.trans g2).trans g3) p3
theorem rr_I {C : Int → Int → Prop} {g : Int → Int → Int} (h : C i j) : RR (rI C fun i j => .int (g i j)) (pI i) (pI j) (pI (g i j)) := fun G H x y Q s hx hy q => ⟨i, j, hx, hy, h, q _ G H (Gr.refl s) rfl⟩
theorem rr_I0 {g : Int → Int → Int} : RR (rI0 fun i j => .int (g i j)) (pI i) (pI j) (pI (g i j)) := fun G H x y Q s hx hy q => ⟨i, j, hx, hy, q _ G H (Gr.refl s) rfl⟩
theorem rr_B0 {g : Int → Int → Bool} : RR (rI0 fun i j => .bl (g i j)) (pI i) (pI j) (pB (g i j)) := fun G H x y Q s hx hy q => ⟨i, j, hx, hy, q _ G H (Gr.refl s) rfl⟩
theorem rr_eqI : RR rEq (pI i) (pI j) (pB (decide (i = j))) := fun G H x y Q s hx hy q => by
  cases hx
  cases hy
  refine ⟨rfl, ?_⟩
  refine q _ G H (Gr.refl s) ?_
  show V.bl _ = V.bl _
  rw [dec_int] <;> rfl
theorem rr_neI : RR rNe (pI i) (pI j) (pB (!decide (i = j))) := fun G H x y Q s hx hy q => by
  cases hx
  cases hy
  refine ⟨rfl, ?_⟩
  refine q _ G H (Gr.refl s) ?_
  show V.bl _ = V.bl _
  rw [dec_int] <;> rfl
theorem rr_eqB {a b : Bool} : RR rEq (pB a) (pB b) (pB (a == b)) := fun G H x y Q s hx hy q => by
  cases hx
  cases hy
  refine ⟨rfl, ?_⟩
  refine q _ G H (Gr.refl s) ?_
  show V.bl _ = V.bl _
  rw [dec_bl]
theorem rr_neB {a b : Bool} : RR rNe (pB a) (pB b) (pB (!(a == b))) := fun G H x y Q s hx hy q => by
  cases hx
  cases hy
  refine ⟨rfl, ?_⟩
  refine q _ G H (Gr.refl s) ?_
  show V.bl _ = V.bl _
  rw [dec_bl]
theorem rr_eqS {a b : Str} : RR rEq (pS a) (pS b) (pB (a == b)) := fun G H x y Q s hx hy q => by
  cases hx
  cases hy
  refine ⟨rfl, ?_⟩
  refine q _ G H (Gr.refl s) ?_
  show V.bl _ = V.bl _
  rw [dec_str]
theorem rr_neS {a b : Str} : RR rNe (pS a) (pS b) (pB (!(a == b))) := fun G H x y Q s hx hy q => by
  cases hx
  cases hy
  refine ⟨rfl, ?_⟩
  refine q _ G H (Gr.refl s) ?_
  show V.bl _ = V.bl _
  rw [dec_str]
/-- None or an int, compared -/
theorem rr_eqOI {a b : Option Int} : RR rEq (pOpt pI a) (pOpt pI b) (pB (a == b)) := fun G H x y Q s hx hy q => by
  cases a <;> cases b <;> cases hx <;> cases hy <;> refine ⟨rfl, q _ G H (Gr.refl s) ?_⟩
  · rfl
  · rfl
  · rfl
  · show V.bl _ = V.bl _
    rw [dec_int] <;> rfl
theorem rr_neOI {a b : Option Int} : RR rNe (pOpt pI a) (pOpt pI b) (pB (!(a == b))) := fun G H x y Q s hx hy q => by
  cases a <;> cases b <;> cases hx <;> cases hy <;> refine ⟨rfl, q _ G H (Gr.refl s) ?_⟩
  · rfl
  · rfl
  · rfl
  · show V.bl _ = V.bl _
    rw [dec_int] <;> rfl
/-- is None -/
def NN {α : Type} (r : α → Pr) : Prop := ∀ (a : α) (H : Hp), ¬ (r a).p H .non
theorem nn_I : NN pI := fun _ _ h => nomatch (show V.non = V.int _ from h)
theorem nn_S : NN pS := fun _ _ h => nomatch (show V.non = V.str _ from h)
theorem nn_B : NN pB := fun _ _ h => nomatch (show V.non = V.bl _ from h)
theorem nn_W {α : Type} {W : α → Hp → HO → Prop} {m : ∀ a, ∀ {G G' : Hp} {o : HO}, Gw G G' → W a G o → W a G' o} : NN (fun a => pW (W a) (m a)) := fun _ _ ⟨_, _, h, _⟩ => nomatch h
theorem nn_T {α : Type} {f : α → List Pr} : NN (fun a => pT (f a)) := fun _ _ ⟨_, _, h, _⟩ => nomatch h
abbrev rIsN : R2 := fun x y H Q => y = .non ∧ Q (.bl (decide (x = .non))) H
abbrev rNotN : R2 := fun x y H Q => y = .non ∧ Q (.bl (!decide (x = .non))) H
theorem opt_non {α : Type} {r : α → Pr} (hn : NN r) {o : Option α} {G : Hp} {x : V} (h : (pOpt r o).p G x) : decide (x = .non) = o.isNone := by
  cases o with
  | none => exact decide_eq_true h
  | some a => exact decide_eq_false fun z => hn a G (z ▸ h)
theorem rr_isN {α : Type} {r : α → Pr} (hn : NN r) {o : Option α} : RR rIsN (pOpt r o) pN (pB o.isNone) := fun G H x y Q s hx hy q => ⟨hy, q _ G H (Gr.refl s) (congrArg V.bl (opt_non hn hx))⟩
theorem rr_notN {α : Type} {r : α → Pr} (hn : NN r) {o : Option α} : RR rNotN (pOpt r o) pN (pB o.isSome) := fun G H x y Q s hx hy q => ⟨hy, q _ G H (Gr.refl s) (congrArg V.bl (by rw [opt_non hn hx]; cases o <;> rfl))⟩
/-- texts -/
abbrev rCatS : R2 := fun x y H Q => ∃ i j, x = .str i ∧ y = .str j ∧ i.length + j.length ≤ sizeLine ∧ Q (.str (i ++ j)) H
theorem rr_catS {a b : Str} (h : a.length + b.length ≤ sizeLine) : RR rCatS (pS a) (pS b) (pS (a ++ b)) := fun G H x y Q s hx hy q => ⟨a, b, hx, hy, h, q _ G H (Gr.refl s) rfl⟩
/-- one operand -/
def RU (r : V → Hp → VK → Prop) (P1 P : Pr) : Prop := ∀ (G H : Hp) (x : V) (Q : VK), Gw G H → P1.p G x → (∀ v G' H', Gr G H G' H' → P.p G' v → Q v H') → r x H Q
theorem e_un {r : V → Hp → VK → Prop} (hr : RU r P1 P) (ha : EvE ta Γ P1) : EvE (tUn r ta) Γ P := fun F σ G H e Q q =>
  ha F σ G H e _ fun x G1 H1 g1 p1 => hr G1 H1 x Q g1.s p1 fun v G2 H2 g2 p2 => q v G2 H2 (g1.trans g2) p2
theorem ru_I {g : Int → Int} : RU (rU fun i => .int (g i)) (pI i) (pI (g i)) := fun G H x Q s hx q => ⟨i, hx, q _ G H (Gr.refl s) rfl⟩

/-! ### lists -/
theorem sat_atI {H : Hp} {vs : List V} {k : Int} (s : Sat H vs Ps) (h : atI Ps k = some P) : ∃ v, atI vs k = some v ∧ P.p H v := by
  unfold atI at h ⊢
  rw [← s.len] at h
  cases z : ixN vs.length k with
  | none =>
    rw [z] at h
    cases h
  | some m =>
    rw [z] at h
    exact s.get h
theorem e_ixL {k : Int} (hl : EvR K ta Γ Ps) (hi : EvE tb Γ (pI k)) (h : atI Ps k = some P) : EvE (tOp (rIxL K) ta tb) Γ P := fun F σ G H e Q q =>
  hl F σ G H e _ fun a vs G1 H1 g1 s1 s2 _ => hi F σ G1 H1 (e.grow g1) _ fun y G2 H2 g2 p2 => by
    obtain ⟨v, h1, h2⟩ := sat_atI (s2.m g2.g) h
    exact ⟨a, vs, k, v, rfl, p2, Same.seq g2.h s1, h1, q v G2 H2 (g1.trans g2) h2⟩
theorem e_ixT {k : Int} (hl : EvE ta Γ (pT Ps)) (hi : EvE tb Γ (pI k)) (h : atI Ps k = some P) : EvE (tOp (rIxT K) ta tb) Γ P := fun F σ G H e Q q =>
  hl F σ G H e _ fun x G1 H1 g1 ⟨a, vs, e1, s1, s2⟩ => hi F σ G1 H1 (e.grow g1) _ fun y G2 H2 g2 p2 => by
    obtain ⟨v, h1, h2⟩ := sat_atI (s2.m g2.g) h
    exact ⟨a, vs, k, v, e1, p2, SqT.of (g2.s _ _ (g2.g _ _ s1)), h1, q v G2 H2 (g1.trans g2) h2⟩
abbrev rLenS (K : PySem.W.Frag) : List V → Hp → VK → Prop := fun xs H Q => ∃ p ys, xs = [.ref p] ∧ (SqL K H p ys ∨ SqT K H p ys) ∧ Q (.int ys.length) H
theorem e_len (hl : EvR K ta Γ Ps) : EvE (tCB (rLenS K) (tCons ta tNil)) Γ (pI (Ps.length : Int)) := fun F σ G H e Q q =>
  hl F σ G H e _ fun a vs G1 H1 g1 s1 s2 _ => ⟨a, vs, rfl, .inl s1, q _ G1 H1 g1 (by rw [s2.len] <;> rfl)⟩
theorem e_lenT (hl : EvE ta Γ (pT Ps)) : EvE (tCB (rLenS K) (tCons ta tNil)) Γ (pI (Ps.length : Int)) := fun F σ G H e Q q =>
  hl F σ G H e _ fun x G1 H1 g1 ⟨a, vs, e1, s1, s2⟩ => ⟨a, vs, by rw [e1], .inr (SqT.of (g1.s _ _ s1)), q _ G1 H1 g1 (by rw [s2.len] <;> rfl)⟩
/-- new lists -/
theorem Gr.layL {G H : Hp} {p : Addr} {vs : List V} (s : Gw G H) (hp : H p = none) (hs : Sat G vs Ps) (hl : vs.length ≤ sizeLine) : (∀ a ∈ [p], H a = none ∧ G a = none ∧ (upd H p (.lst vs)) a ≠ none) ∧ (oL Ps).p G (upd H p (.lst vs)) (.ref p) [p] := by
  refine ⟨fun a ha => ?_, p, .lst vs, rfl, rfl, upd_same, vs, rfl, hs, hl⟩
  have z : a = p := List.mem_singleton.mp ha
  subst z
  exact ⟨hp, s.free hp, by rw [upd_same]; exact fun z => nomatch z⟩
/-- behind a growth -/
theorem lay_back {G H G1 H1 : Hp} {p : Addr} {vs : List V} (g : Gr G H G1 H1) (hp : H1 p = none) (hs : Sat G1 vs Ps) (hl : vs.length ≤ sizeLine) :
    Gr G H G1 (upd H1 p (.lst vs)) ∧ (∀ a ∈ [p], H a = none ∧ G1 a = none ∧ (upd H1 p (.lst vs)) a ≠ none) ∧ (oL Ps).p G1 (upd H1 p (.lst vs)) (.ref p) [p] := by
  have q := Gr.layL g.s hp hs hl
  refine ⟨g.trans (Gr.lay g.s hp), fun a ha => ⟨g.h.free (q.1 a ha).1, (q.1 a ha).2⟩, q.2⟩
abbrev rListS (K : PySem.W.Frag) : List V → Hp → VK → Prop := fun xs H Q => ∃ p ys, xs = [.ref p] ∧ (SqL K H p ys ∨ SqT K H p ys) ∧ ∀ l, H l = none → Q (.ref l) (upd H l (.lst ys))
theorem w_list (hl : EvR K ta Γ Ps) : EvW (tCB (rListS K) (tCons ta tNil)) Γ (oL Ps) := fun F σ G H e Q q =>
  hl F σ G H e _ fun a vs G1 H1 g1 s1 s2 s3 => ⟨a, vs, rfl, .inl s1, fun l hl => by
    obtain ⟨g2, k1, k2⟩ := lay_back g1 hl s2 s3
    exact q _ _ _ _ g2 k1 k2⟩
theorem w_lst {ts : TA} (h : EvA ts Γ Ps) (hn : Ps.length ≤ 1000) : EvW (tLst ts) Γ (oL Ps) := fun F σ G H e Q q =>
  h F σ G H e _ fun vs G1 H1 g1 s1 => by
    have hz : vs.length ≤ sizeLine := s1.len ▸ Nat.le_trans hn (by decide)
    exact ⟨hz, fun l hl => by
      obtain ⟨g2, k1, k2⟩ := lay_back g1 hl s1 hz
      exact q _ _ _ _ g2 k1 k2⟩
theorem e_tup {ts : TA} (h : EvA ts Γ Ps) (hn : Ps.length ≤ 1000) : EvE (tTup ts) Γ (pT Ps) := fun F σ G H e Q q =>
  h F σ G H e _ fun vs G1 H1 g1 s1 => by
    have hz : vs.length ≤ sizeLine := s1.len ▸ Nat.le_trans hn (by decide)
    exact ⟨hz, fun l hl => q _ _ _ (g1.trans (Gr.new g1.s hl)) ⟨l, vs, rfl, upd_same, s1.m (Gr.new (o := .tup vs) g1.s hl).g⟩⟩
theorem w_cat (ha : EvS ta Γ Ps) (hb : EvS tb Γ Qs) (hn : Ps.length + Qs.length ≤ sizeLine) : EvW (tOp rCat ta tb) Γ (oL (Ps ++ Qs)) := fun F σ G H e Q q =>
  ha F σ G H e _ fun a vs G1 H1 g1 h1 s1 _ => hb F σ G1 H1 (e.grow g1) _ fun b ws G2 H2 g2 h2 s2 _ => by
    have hz : (vs ++ ws).length ≤ sizeLine := by
      rw [List.length_append, s1.len, s2.len]
      exact hn
    refine ⟨a, b, vs, ws, rfl, rfl, g2.h _ _ h1, h2, by rw [s1.len, s2.len]; exact hn, fun l hl => ?_⟩
    obtain ⟨g3, k1, k2⟩ := lay_back (g1.trans g2) hl ((s1.m g2.g).app s2) hz
    exact q _ _ _ _ g3 k1 k2
theorem sat_rep {H : Hp} {vs : List V} (s : Sat H vs Ps) : ∀ n : Nat, Sat H (List.replicate n vs).flatten (List.replicate n Ps).flatten
  | 0 => trivial
  | n + 1 => by
    rw [List.replicate_succ, List.replicate_succ, List.flatten_cons, List.flatten_cons]
    exact s.app (sat_rep s n)
theorem w_rep {k : Int} (ha : EvS ta Γ Ps) (hb : EvE tb Γ (pI k)) (hk : -(2 ^ 63) ≤ k ∧ k < 2 ^ 63) (hn : Ps.length * k.toNat ≤ sizeLine) : EvW (tOp rRep ta tb) Γ (oL (List.replicate k.toNat Ps).flatten) := fun F σ G H e Q q =>
  ha F σ G H e _ fun a vs G1 H1 g1 h1 s1 _ => hb F σ G1 H1 (e.grow g1) _ fun y G2 H2 g2 p2 => by
    have hs := sat_rep (s1.m g2.g) k.toNat
    have hz : (List.replicate k.toNat vs).flatten.length ≤ sizeLine := by
      rw [List.length_flatten, List.map_replicate, List.sum_replicate_nat, s1.len, Nat.mul_comm]
      exact hn
    refine ⟨a, k, vs, rfl, p2, g2.h _ _ h1, hk.1, hk.2, by rw [s1.len]; exact hn, fun l hl => ?_⟩
    obtain ⟨g3, k1, k2⟩ := lay_back (g1.trans g2) hl hs hz
    exact q _ _ _ _ g3 k1 k2
def cutP {α : Type} (xs : List α) (lo hi : Option Int) : List α := (xs.drop (HT.sIx xs.length 0 lo)).take (HT.sIx xs.length xs.length hi - HT.sIx xs.length 0 lo)
theorem o_none : EvO tNoPart Γ none := fun F σ G H e Q q => q G H (Gr.refl e.s)
theorem o_some (h : EvE te Γ (pI i)) : EvO (tPart te) Γ (some i) := fun F σ G H e Q q => h F σ G H e _ fun v G' H' g p => ⟨i, p, q G' H' g⟩
theorem w_slice {tl th : TO} {lo hi : Option Int} (hx : EvR K ta Γ Ps) (hl : EvO tl Γ lo) (hh : EvO th Γ hi) : EvW (tSl (rSlL K) ta tl th) Γ (oL (cutP Ps lo hi)) := fun F σ G H e Q q =>
  hx F σ G H e _ fun a vs G1 H1 g1 s1 s2 s3 => hl F σ G1 H1 (e.grow g1) _ fun G2 H2 g2 => hh F σ G2 H2 ((e.grow g1).grow g2) _ fun G3 H3 g3 => by
    have s4 : Sat G3 (cutV vs lo hi) (cutP Ps lo hi) := by
      unfold cutV cutP
      rw [← s2.len]
      exact ((s2.m (g2.g.trans g3.g)).drop _).take _
    have hz : (cutV vs lo hi).length ≤ sizeLine := by
      unfold cutV
      rw [List.length_take, List.length_drop]
      omega
    refine ⟨a, vs, rfl, Same.seq (g2.h.trans g3.h) s1, fun l hl => ?_⟩
    obtain ⟨g4, k1, k2⟩ := lay_back ((g1.trans g2).trans g3) hl s4 hz
    exact q _ _ _ _ g4 k1 k2
/-- x in xs, ints -/
theorem any_eqV (x : Int) : ∀ {H : Hp} {vs : List V} {xs : List Int}, Sat H vs (xs.map pI) → vs.all flatV = true ∧ inV (.int x) vs = decide (x ∈ xs)
  | _, [], [], _ => ⟨rfl, rfl⟩
  | _, v :: vs, y :: ys, h => by
    obtain ⟨h1, h2⟩ := h
    have h1' : v = .int y := h1
    subst h1'
    obtain ⟨a, b⟩ := any_eqV x h2
    refine ⟨by rw [List.all_cons, a] <;> rfl, ?_⟩
    unfold inV at b ⊢
    rw [List.any_cons, b]
    by_cases z : x = y
    · subst z
      simp [eqV]
    · have : (eqV (V.int y) (V.int x)) = false := by
        show (y == x) = false
        exact beq_eq_false_iff_ne.mpr (Ne.symm z)
      rw [this]
      simp [z]
  | _, [], _ :: _, h => h.elim
  | _, _ :: _, [], h => h.elim
theorem e_inL {x : Int} {xs : List Int} (ha : EvE ta Γ (pI x)) (hb : EvR K tb Γ (xs.map pI)) : EvE (tOp (rIn K false) ta tb) Γ (pB (decide (x ∈ xs))) := fun F σ G H e Q q =>
  ha F σ G H e _ fun y G1 H1 g1 p1 => hb F σ G1 H1 (e.grow g1) _ fun a vs G2 H2 g2 s1 s2 _ => by
    have p1' : y = .int x := p1
    subst p1'
    obtain ⟨k1, k2⟩ := any_eqV x s2
    refine ⟨a, vs, rfl, .inl s1, rfl, k1, q _ G2 H2 (g1.trans g2) ?_⟩
    show V.bl _ = V.bl _
    rw [if_neg Bool.false_ne_true, k2]
theorem e_notInL {x : Int} {xs : List Int} (ha : EvE ta Γ (pI x)) (hb : EvR K tb Γ (xs.map pI)) : EvE (tOp (rIn K true) ta tb) Γ (pB (!decide (x ∈ xs))) := fun F σ G H e Q q =>
  ha F σ G H e _ fun y G1 H1 g1 p1 => hb F σ G1 H1 (e.grow g1) _ fun a vs G2 H2 g2 s1 s2 _ => by
    have p1' : y = .int x := p1
    subst p1'
    obtain ⟨k1, k2⟩ := any_eqV x s2
    refine ⟨a, vs, rfl, .inl s1, rfl, k1, q _ G2 H2 (g1.trans g2) ?_⟩
    show V.bl _ = V.bl _
    rw [if_pos rfl, k2]

/-! ### fields -/
theorem lookup_zip {f : Str} : ∀ {ns : List Str} {vs : List V} {i : Nat} {v : V}, ns.Nodup → ns[i]? = some f → vs[i]? = some v → (ns.zip vs).lookup f = some v
  | [], _, _, _, _, h, _ => by simp at h
  | _ :: _, [], _, _, _, _, h => by simp at h
  | n :: ns, w :: vs, 0, v, nd, h1, h2 => by
    simp at h1 h2
    subst h1 h2
    simp [List.lookup]
  | n :: ns, w :: vs, i + 1, v, nd, h1, h2 => by
    have h1' : ns[i]? = some f := by simpa using h1
    have h2' : vs[i]? = some v := by simpa using h2
    have ne : (f == n) = false := by
      refine beq_eq_false_iff_ne.mpr fun z => (List.nodup_cons.mp nd).1 ?_
      rw [← z]
      exact List.mem_of_getElem? h1'
    rw [List.zip_cons_cons, List.lookup_cons, ne]
    exact lookup_zip (List.nodup_cons.mp nd).2 h1' h2'
theorem e_fld {C : Addr} {ns : List Str} {f : Str} {i : Nat} (c : Cls K C) (n : NoAttr K C f) (nd : ns.Nodup) (hi : ns[i]? = some f) (hP : Ps[i]? = some P) (h : EvE ta Γ (pO C ns Ps)) : EvE (tFld K ta f) Γ P := fun F σ G H e Q q =>
  h F σ G H e _ fun v G1 H1 g1 ⟨a, o, e1, e2, dx, vs, e3, s⟩ => by
    subst e1 e3
    obtain ⟨w, h1, h2⟩ := s.get hP
    exact ⟨a, C, dx, _, w, rfl, g1.s _ _ e2, c, n, lookup_zip nd hi h1, q w G1 H1 g1 h2⟩
/-- of an object that is one's own -/
theorem e_fldO {C : Addr} {ns : List Str} {f : Str} {i s : Nat} (c : Cls K C) (n : NoAttr K C f) (nd : ns.Nodup) (hi : ns[i]? = some f) (hP : Ps[i]? = some P) (h : Γ[s]? = some (.own (oO C ns Ps))) : EvE (tFld K (tVar s) f) Γ P := fun F σ G H e Q q => by
  obtain ⟨Ls, e1⟩ := e
  obtain ⟨v, h1, a, o, h2, h3, h4, dx, vs, h5, h6⟩ := (e1.at_ s _ h).own_
  subst h2 h5
  obtain ⟨w, k1, k2⟩ := h6.get hP
  exact ⟨_, h1, a, C, dx, _, w, rfl, h4, c, n, lookup_zip nd hi k1, q w G H (Gr.refl e1.gr.s) k2⟩

/-! ### arguments -/
theorem a_nil : EvA tNil Γ [] := fun F σ G H e Q q => q [] G H (Gr.refl e.s) trivial
theorem a_cons {tr : TA} (h : EvE te Γ P) (hr : EvA tr Γ Ps) : EvA (tCons te tr) Γ (P :: Ps) := fun F σ G H e Q q =>
  h F σ G H e _ fun v G1 H1 g1 p1 => hr F σ G1 H1 (e.grow g1) _ fun vs G2 H2 g2 s2 => q _ G2 H2 (g1.trans g2) ⟨P.m g2.g p1, s2⟩
/-! ### calls of built-ins by values -/
def RC (r : List V → Hp → VK → Prop) (Ps : List Pr) (P : Pr) : Prop := ∀ (G H : Hp) (vs : List V) (Q : VK), Gw G H → Sat G vs Ps → (∀ v G' H', Gr G H G' H' → P.p G' v → Q v H') → r vs H Q
theorem e_cb {r : List V → Hp → VK → Prop} {ts : TA} (hr : RC r Ps P) (h : EvA ts Γ Ps) : EvE (tCB r ts) Γ P := fun F σ G H e Q q =>
  h F σ G H e _ fun vs G1 H1 g1 s1 => hr G1 H1 vs Q g1.s s1 fun v G2 H2 g2 p2 => q v G2 H2 (g1.trans g2) p2
theorem sat1 {H : Hp} {vs : List V} (s : Sat H vs [P]) : ∃ v, vs = [v] ∧ P.p H v := by
  match vs, s with
  | [v], s => exact ⟨v, rfl, s.1⟩
  | _ :: _ :: _, s => exact s.2.elim
theorem sat2 {H : Hp} {vs : List V} (s : Sat H vs [P1, P2]) : ∃ v w, vs = [v, w] ∧ P1.p H v ∧ P2.p H w := by
  match vs, s with
  | [v, w], s => exact ⟨v, w, rfl, s.1, s.2.1⟩
  | [_], s => exact s.2.elim
  | _ :: _ :: _ :: _, s => exact s.2.2.elim
abbrev rMax2 : List V → Hp → VK → Prop := fun xs H Q => ∃ i j, xs = [.int i, .int j] ∧ Q (.int (if j > i then j else i)) H
abbrev rMin2 : List V → Hp → VK → Prop := fun xs H Q => ∃ i j, xs = [.int i, .int j] ∧ Q (.int (if j < i then j else i)) H
theorem rc_max2 : RC rMax2 [pI i, pI j] (pI (max i j)) := fun G H vs Q s st q => by
  obtain ⟨v, w, rfl, h1, h2⟩ := sat2 st
  cases h1
  cases h2
  refine ⟨i, j, rfl, q _ G H (Gr.refl s) ?_⟩
  show V.int _ = V.int _
  congr 1
  by_cases z : j > i
  · rw [if_pos z]; omega
  · rw [if_neg z]; omega
theorem rc_min2 : RC rMin2 [pI i, pI j] (pI (min i j)) := fun G H vs Q s st q => by
  obtain ⟨v, w, rfl, h1, h2⟩ := sat2 st
  cases h1
  cases h2
  refine ⟨i, j, rfl, q _ G H (Gr.refl s) ?_⟩
  show V.int _ = V.int _
  congr 1
  by_cases z : j < i
  · rw [if_pos z]; omega
  · rw [if_neg z]; omega
abbrev rAbs : List V → Hp → VK → Prop := fun xs H Q => ∃ i, xs = [.int i] ∧ Q (.int (if i < 0 then -i else i)) H
theorem rc_abs : RC rAbs [pI i] (pI (i.natAbs : Int)) := fun G H vs Q s st q => by
  obtain ⟨v, rfl, h1⟩ := sat1 st
  cases h1
  refine ⟨i, rfl, q _ G H (Gr.refl s) ?_⟩
  show V.int _ = V.int _
  congr 1
  by_cases z : i < 0
  · rw [if_pos z]; omega
  · rw [if_neg z]; omega
abbrev rInt1 : List V → Hp → VK → Prop := fun xs H Q => (∃ i, xs = [.int i] ∧ Q (.int i) H) ∨ ∃ k, xs = [.bl k] ∧ Q (.int (if k then 1 else 0)) H
theorem rc_intI : RC rInt1 [pI i] (pI i) := fun G H vs Q s st q => by
  obtain ⟨v, rfl, h1⟩ := sat1 st
  cases h1
  exact .inl ⟨i, rfl, q _ G H (Gr.refl s) rfl⟩
theorem rc_intB {b : Bool} : RC rInt1 [pB b] (pI (if b then 1 else 0)) := fun G H vs Q s st q => by
  obtain ⟨v, rfl, h1⟩ := sat1 st
  cases h1
  exact .inr ⟨b, rfl, q _ G H (Gr.refl s) rfl⟩

/-! ### tests -/
theorem t_test {b : Bool} (h : EvE te Γ (pB b)) : EvT (tTest te) Γ b := fun F σ G H e Q q => h F σ G H e _ fun v G' H' g p => ⟨b, p, q G' H' g⟩
theorem t_B {b : Bool} (h : EvE te Γ (pB b)) : EvT (tB te) Γ b := fun F σ G H e Q q => h F σ G H e _ fun v G' H' g p => ⟨b, p, q G' H' g⟩
theorem t_not {b : Bool} (h : EvT t Γ b) : EvT (tNot t) Γ (!b) := fun F σ G H e Q q => h F σ G H e _ fun G' H' g => q G' H' g
theorem t_and {a b c : Bool} (h1 : EvT t Γ a) (h2 : a = true → EvT u Γ b) (h : c = (a && b)) : EvT (tAnd t u) Γ c := fun F σ G H e Q q => h1 F σ G H e _ fun G' H' g => by
  subst h
  cases a with
  | true => exact h2 rfl F σ G' H' (e.grow g) Q fun G2 H2 g2 => q G2 H2 (g.trans g2)
  | false => exact q G' H' g
theorem t_or {a b c : Bool} (h1 : EvT t Γ a) (h2 : a = false → EvT u Γ b) (h : c = (a || b)) : EvT (tOr t u) Γ c := fun F σ G H e Q q => h1 F σ G H e _ fun G' H' g => by
  subst h
  cases a with
  | true => exact q G' H' g
  | false => exact h2 rfl F σ G' H' (e.grow g) Q fun G2 H2 g2 => q G2 H2 (g.trans g2)
/-- with parts that may have no value -/
theorem t_andM {a c : Bool} {m : Option Bool} (h1 : EvT t Γ a) (h2 : ∀ b, a = true → m = some b → EvT u Γ b) (h : (if a then m else some false) = some c) : EvT (tAnd t u) Γ c := by
  cases a with
  | true =>
    rw [if_pos rfl] at h
    exact t_and h1 (fun z => h2 c z h) rfl
  | false =>
    rw [if_neg Bool.false_ne_true] at h
    cases h
    exact t_and (b := false) h1 (fun z => nomatch z) rfl
theorem t_orM {a c : Bool} {m : Option Bool} (h1 : EvT t Γ a) (h2 : ∀ b, a = false → m = some b → EvT u Γ b) (h : (if a then some true else m) = some c) : EvT (tOr t u) Γ c := by
  cases a with
  | true =>
    rw [if_pos rfl] at h
    cases h
    exact t_or (b := true) h1 (fun z => nomatch z) rfl
  | false =>
    rw [if_neg Bool.false_ne_true] at h
    exact t_or h1 (fun z => h2 c z h) rfl
/-- .. as values -/
theorem e_and {a b c : Bool} (h1 : EvE ta Γ (pB a)) (h2 : a = true → EvE tb Γ (pB b)) (h : c = (a && b)) : EvE (tAndV ta tb) Γ (pB c) := fun F σ G H e Q q => h1 F σ G H e _ fun v G' H' g p => ⟨a, p, by
  subst h
  cases a with
  | true => exact h2 rfl F σ G' H' (e.grow g) Q fun w G2 H2 g2 p2 => q w G2 H2 (g.trans g2) p2
  | false => exact q _ G' H' g rfl⟩
theorem e_or {a b c : Bool} (h1 : EvE ta Γ (pB a)) (h2 : a = false → EvE tb Γ (pB b)) (h : c = (a || b)) : EvE (tOrV ta tb) Γ (pB c) := fun F σ G H e Q q => h1 F σ G H e _ fun v G' H' g p => ⟨a, p, by
  subst h
  cases a with
  | true => exact q _ G' H' g rfl
  | false => exact h2 rfl F σ G' H' (e.grow g) Q fun w G2 H2 g2 p2 => q w G2 H2 (g.trans g2) p2⟩
theorem e_andM {a c : Bool} {m : Option Bool} (h1 : EvE ta Γ (pB a)) (h2 : ∀ b, a = true → m = some b → EvE tb Γ (pB b)) (h : (if a then m else some false) = some c) : EvE (tAndV ta tb) Γ (pB c) := by
  cases a with
  | true =>
    rw [if_pos rfl] at h
    exact e_and h1 (fun z => h2 c z h) rfl
  | false =>
    rw [if_neg Bool.false_ne_true] at h
    cases h
    exact e_and (b := false) h1 (fun z => nomatch z) rfl
theorem e_orM {a c : Bool} {m : Option Bool} (h1 : EvE ta Γ (pB a)) (h2 : ∀ b, a = false → m = some b → EvE tb Γ (pB b)) (h : (if a then some true else m) = some c) : EvE (tOrV ta tb) Γ (pB c) := by
  cases a with
  | true =>
    rw [if_pos rfl] at h
    cases h
    exact e_or (b := true) h1 (fun z => nomatch z) rfl
  | false =>
    rw [if_neg Bool.false_ne_true] at h
    exact e_or h1 (fun z => h2 c z h) rfl
theorem e_not {b : Bool} (h : EvE te Γ (pB b)) : EvE (tNotV te) Γ (pB (!b)) := fun F σ G H e Q q => h F σ G H e _ fun v G' H' g p => ⟨b, p, q _ G' H' g rfl⟩
theorem e_if {b : Bool} {α : Type} {r : α → Pr} {m1 m2 : Option α} {c : α} (h : EvT t Γ b) (h1 : ∀ x, b = true → m1 = some x → EvE ta Γ (r x)) (h2 : ∀ x, b = false → m2 = some x → EvE tb Γ (r x)) (hc : (if b then m1 else m2) = some c) : EvE (tIf t ta tb) Γ (r c) := fun F σ G H e Q q => h F σ G H e _ fun G' H' g => by
  cases b with
  | true =>
    rw [if_pos rfl] at hc
    exact h1 c rfl hc F σ G' H' (e.grow g) Q fun w G2 H2 g2 p2 => q w G2 H2 (g.trans g2) p2
  | false =>
    rw [if_neg Bool.false_ne_true] at hc
    exact h2 c rfl hc F σ G' H' (e.grow g) Q fun w G2 H2 g2 p2 => q w G2 H2 (g.trans g2) p2
end
end Y

set_option Elab.async false
set_option linter.all false
set_option maxRecDepth 100000
namespace Y
open PySem L2
/-! ### what a statement comes to -/
inductive Out where
  | nx (Γ : Ctx)
  | rt (P : Pr)
  | bk (Γ : Ctx)
  | ct (Γ : Ctx)
  | nc (Γ : Ctx)
  | ru (k : Nat) (W : Ow) (P : Pr)
  | rn (k : Nat) (W : Ow) (P : Pr)
  | rw (W : Ow)
  | gn (g : Fm → Ends → Prop)
def Goal (F : Fm) (D : Ends) : Out → Prop
  | .nx Γ => ∀ σ G H, EOk F Γ σ G H → D.nx σ H
  | .rt P => ∀ v G H, Gr F.G F.H G H → P.p G v → D.rt v H
  | .bk Γ => ∀ σ G H, EOk F Γ σ G H → D.bk σ H
  | .ct Γ => ∀ σ G H, EOk F Γ σ G H → D.ct σ H
  | .nc Γ => ∀ σ G H, EOk F Γ σ G H → D.nx σ H ∧ D.ct σ H
  | .ru k W P => ∀ v σ G H Γ, EOk F Γ σ G H → Γ[k]? = some (.own W) → P.p G v → D.rt v H
  | .rn k W P => (∀ v σ G H Γ, EOk F Γ σ G H → Γ[k]? = some (.own W) → P.p G v → D.rt v H) ∧ (P = pN → ∀ σ G H Γ, EOk F Γ σ G H → Γ[k]? = some (.own W) → D.nx σ H)
  | .rw W => ∀ v L G H, Gr F.G F.H G H → (∀ a ∈ L, F.H a = none ∧ G a = none ∧ H a ≠ none) → W.p G H v L → D.rt v H
  | .gn g => g F D
def StS (ts : TS) (Γ : Ctx) (o : Out) : Prop := ∀ (F : Fm) (σ : St) (G H : Hp) (D : Ends), EOk F Γ σ G H → Goal F D o → ts D σ H
section
variable {K : PySem.W.Frag} {Γ Γ1 Γ2 : Ctx} {te ta tb ti tl : TE} {t : TT} {P P1 P2 : Pr} {Ps Qs : List Pr} {W : Ow} {ts us ws : TS} {o : Out} {i j : Nat}
theorem s_seq (h1 : StS ts Γ (.nx Γ1)) (h2 : StS us Γ1 o) : StS (tSeq ts us) Γ o := fun F σ G H D e g =>
  h1 F σ G H { D with nx := us D } e fun σ' G' H' e' => h2 F σ' G' H' D e' g
theorem s_seqR (h1 : StS ts Γ (.rt P)) : StS (tSeq ts us) Γ (.rt P) := fun F σ G H D e g => h1 F σ G H { D with nx := us D } e g
theorem s_seqB (h1 : StS ts Γ (.bk Γ1)) : StS (tSeq ts us) Γ (.bk Γ1) := fun F σ G H D e g => h1 F σ G H { D with nx := us D } e g
theorem s_seqC (h1 : StS ts Γ (.ct Γ1)) : StS (tSeq ts us) Γ (.ct Γ1) := fun F σ G H D e g => h1 F σ G H { D with nx := us D } e g
theorem s_nx : StS tNext Γ (.nx Γ) := fun F σ G H D e g => g σ G H e
theorem s_bk : StS tBreak Γ (.bk Γ) := fun F σ G H D e g => g σ G H e
theorem s_ct : StS tCont Γ (.ct Γ) := fun F σ G H D e g => g σ G H e
theorem s_ncN (h : StS ts Γ (.nx Γ1)) : StS ts Γ (.nc Γ1) := fun F σ G H D e g => h F σ G H D e fun σ' G' H' e' => (g σ' G' H' e').1
theorem s_ncC (h : StS ts Γ (.ct Γ1)) : StS ts Γ (.nc Γ1) := fun F σ G H D e g => h F σ G H D e fun σ' G' H' e' => (g σ' G' H' e').2
theorem s_asg (h : EvE te Γ P) (hi : i < Γ.length) : StS (tAsg te (gName i)) Γ (.nx (Γ.set i (.val P))) := fun F σ G H D e g =>
  h F σ G H e _ fun v G' H' gr p => g _ G' H' ((e.grow gr).set p hi)
theorem s_asgW (h : EvW te Γ W) (hi : i < Γ.length) : StS (tAsg te (gName i)) Γ (.nx (Γ.set i (.own W))) := fun F σ G H D e g =>
  h F σ G H e _ fun v L G' H' gr hL hw => g _ G' H' (e.setOwn gr hL hw hi)
theorem s_ret (h : EvE te Γ P) : StS (tRet te) Γ (.rt P) := fun F σ G H D e g =>
  h F σ G H e _ fun v G' H' gr p => g v G' H' (let ⟨_, e'⟩ := e.grow gr; e'.gr) p
theorem s_retN : StS tRetN Γ (.rt pN) := fun F σ G H D e g => g _ G H (let ⟨_, e'⟩ := e; e'.gr) rfl
theorem s_if {b : Bool} (h : EvT t Γ b) (h1 : b = true → StS us Γ o) (h2 : b = false → StS ws Γ o) : StS (tIfS t us ws) Γ o := fun F σ G H D e g =>
  h F σ G H e _ fun G' H' gr => by
    cases b with
    | true => exact h1 rfl F σ G' H' D (e.grow gr) g
    | false => exact h2 rfl F σ G' H' D (e.grow gr) g
theorem s_expr (h : EvE te Γ P) : StS (tDrop te) Γ (.nx Γ) := fun F σ G H D e g => h F σ G H e _ fun v G' H' gr p => g σ G' H' (e.grow gr)
theorem s_frz (hi : Γ[i]? = some (.own W)) (f : Frz W P) (h : StS ts (Γ.set i (.val P)) o) : StS ts Γ o := fun F σ G H D e g => by
  obtain ⟨G', _, e'⟩ := e.frz f hi
  exact h F σ G' H D e' g
theorem s_drop (i : Nat) (h : StS ts (Γ.set i .any) o) : StS ts Γ o := fun F σ G H D e g => h F σ G H D (e.drop i) g
/-- behind a statement some slots are forgotten -/
def mask : List Nat → Ctx → Ctx
  | [], Γ => Γ
  | i :: is, Γ => mask is (Γ.set i .any)
theorem EOk.mask {F : Fm} {σ : St} {G H : Hp} : ∀ {is : List Nat} {Γ : Ctx}, EOk F Γ σ G H → EOk F (mask is Γ) σ G H
  | [], _, e => e
  | i :: is, _, e => EOk.mask (is := is) (e.drop i)
theorem s_mask (is : List Nat) (h : StS ts Γ (.nx Γ1)) : StS ts Γ (.nx (mask is Γ1)) := fun F σ G H D e g => h F σ G H D e fun σ' G' H' e' => g σ' G' H' e'.mask
theorem s_maskC (is : List Nat) (h : StS ts Γ (.ct Γ1)) : StS ts Γ (.ct (mask is Γ1)) := fun F σ G H D e g => h F σ G H D e fun σ' G' H' e' => g σ' G' H' e'.mask
theorem s_maskB (is : List Nat) (h : StS ts Γ (.bk Γ1)) : StS ts Γ (.bk (mask is Γ1)) := fun F σ G H D e g => h F σ G H D e fun σ' G' H' e' => g σ' G' H' e'.mask
/-- behind a statement a slot is frozen -/
theorem s_frzN (h : StS ts Γ (.nx Γ1)) (hi : Γ1[i]? = some (.own W)) (f : Frz W P) : StS ts Γ (.nx (Γ1.set i (.val P))) := fun F σ G H D e g => h F σ G H D e fun σ' G' H' e' => by
  obtain ⟨G2, _, e2⟩ := e'.frz f hi
  exact g σ' G2 H' e2
theorem s_to {o' : Out} (h : StS ts Γ o) (e : o = o') : StS ts Γ o' := e ▸ h
theorem s_from {Γ' : Ctx} (h : StS ts Γ' o) (e : Γ = Γ') : StS ts Γ o := e ▸ h
/-- x += e, ints -/
theorem s_aug {f : Int → Int → Int} {a b : Int} (hx : Γ[i]? = some (.val (pI a))) (h : EvE te Γ (pI b)) : StS (tAug i te (ipI f)) Γ (.nx (Γ.set i (.val (pI (f a b))))) := fun F σ G H D e g => by
  obtain ⟨v, h1, h2⟩ := e.val hx
  refine ⟨v, h1, h F σ G H e _ fun w G' H' gr p => ⟨a, b, h2, p, g _ G' H' ((e.grow gr).set (P := pI (f a b)) rfl (lt_of_get hx))⟩⟩
/-- what a list of one's own becomes -/
theorem own_list {F : Fm} {σ : St} {G H : Hp} (e : EOk F Γ σ G H) (hi : Γ[i]? = some (.own (oL Ps))) : ∃ a vs, σ[i]? = some (some (.ref a)) ∧ H a = some (.lst vs) ∧ Sat G vs Ps ∧ vs.length ≤ sizeLine ∧
    ∀ ws Qs, Sat G ws Qs → ws.length ≤ sizeLine → EOk F (Γ.set i (.own (oL Qs))) σ G (upd H a (.lst ws)) := by
  obtain ⟨Ls, e1⟩ := e
  obtain ⟨v, h1, a, ob, h2, h3, h4, vs, h5, h6, h7⟩ := (e1.at_ i _ hi).own_
  subst h2 h5
  refine ⟨a, vs, h1, h4, h6, h7, fun ws Qs s l => ?_⟩
  refine e1.mut (L := [a]) hi h1 (fun b hb _ => upd_ne fun z => hb (by rw [h3, z]; exact List.mem_singleton.mpr rfl)) ⟨a, .lst ws, rfl, rfl, upd_same, ws, rfl, s, l⟩ (fun b hb => .inl (h3 ▸ hb)) (fun b hb => ?_)
  rw [List.mem_singleton.mp hb, upd_same]
  exact fun z => nomatch z
/-- xs.append(e) -/
theorem s_app (hi : Γ[i]? = some (.own (oL Ps))) (h : EvE te Γ P) (hz : Ps.length < sizeLine) : StS (tDrop (tBM K "list" rAppend (tVar i) (tCons te tNil))) Γ (.nx (Γ.set i (.own (oL (Ps ++ [P]))))) := fun F σ G H D e g => by
  obtain ⟨a, vs, h1, h2, h3, h4, _⟩ := own_list e hi
  refine ⟨.ref a, h1, .inl ⟨rfl, vs, SqL.of h2⟩, h F σ G H e _ fun v G' H' gr p => ?_⟩
  obtain ⟨b, ws, k1, k2, k3, k4, k5⟩ := own_list (e.grow gr) hi
  rw [h1] at k1
  cases k1
  refine ⟨a, ws, v, rfl, rfl, k2, by rw [k3.len]; exact hz, g σ G' _ (k5 _ _ (k3.snoc p) ?_)⟩
  rw [List.length_append, k3.len]
  exact hz
/-- xs[k] = e -/
theorem s_setL {k : Int} {j : Nat} (hi : Γ[i]? = some (.own (oL Ps))) (h : EvE te Γ P) (hk : EvE ti Γ (pI k)) (hj : ixN Ps.length k = some j) : StS (tAsg te (gSub (tVar i) ti rSetL)) Γ (.nx (Γ.set i (.own (oL (Ps.set j P))))) := fun F σ G H D e g =>
  h F σ G H e _ fun v G1 H1 g1 p1 => by
    obtain ⟨a, vs, h1, _⟩ := own_list (e.grow g1) hi
    refine ⟨.ref a, h1, hk F σ G1 H1 (e.grow g1) _ fun y G2 H2 g2 p2 => ?_⟩
    obtain ⟨b, ws, k1, k2, k3, k4, k5⟩ := own_list ((e.grow g1).grow g2) hi
    rw [h1] at k1
    cases k1
    refine ⟨a, ws, k, j, rfl, p2, k2, by rw [k3.len]; exact hj, g σ G2 _ (k5 _ _ (Sat.set (P.m g2.g p1) j k3) ?_)⟩
    rw [List.length_set]
    exact k4
/-- xs[k] op= e, ints -/
theorem s_augL {f : Int → Int → Int} {k a b : Int} {j : Nat} (hi : Γ[i]? = some (.own (oL Ps))) (hk : EvE ti Γ (pI k)) (hj : ixN Ps.length k = some j) (ha : Ps[j]? = some (pI a)) (h : EvE te Γ (pI b)) :
    StS (tAugS (tVar i) ti te (rIxL K) (ipI f) rSetL) Γ (.nx (Γ.set i (.own (oL (Ps.set j (pI (f a b))))))) := fun F σ G H D e g => by
  obtain ⟨p, vs, h1, h2, h3, h4, _⟩ := own_list e hi
  refine ⟨.ref p, h1, hk F σ G H e _ fun y G1 H1 g1 p1 => ?_⟩
  obtain ⟨q, us, k1, k2, k3, k4, _⟩ := own_list (e.grow g1) hi
  rw [h1] at k1
  cases k1
  have hat : atI Ps k = some (pI a) := by
    unfold atI
    rw [hj]
    exact ha
  obtain ⟨x, x1, x2⟩ := sat_atI k3 hat
  refine ⟨p, us, k, x, rfl, p1, SqL.of k2, x1, h F σ G1 H1 (e.grow g1) _ fun z G2 H2 g2 p2 => ⟨a, b, x2, p2, ?_⟩⟩
  obtain ⟨q, ws, k1, l2, l3, l4, l5⟩ := own_list ((e.grow g1).grow g2) hi
  rw [h1] at k1
  cases k1
  refine ⟨p, ws, k, j, rfl, p1, l2, by rw [l3.len]; exact hj, g σ G2 _ (l5 _ _ (Sat.set (P := pI (f a b)) rfl j l3) ?_)⟩
  rw [List.length_set]
  exact l4
/-- xs.pop(0) .., the value kept in a slot -/
theorem s_popAt {k : Int} {n : Nat} (hi : Γ[i]? = some (.own (oL Ps))) (hk : EvE ti Γ (pI k)) (hb : -(2 ^ 63) ≤ k ∧ k < 2 ^ 63) (hn : seqIndex? k Ps.length = some n) (hP : Ps[n]? = some P) (hij : i ≠ j) (hj : j < Γ.length) :
    StS (tAsg (tBM K "list" rPopAt (tVar i) (tCons ti tNil)) (gName j)) Γ (.nx ((Γ.set i (.own (oL (Ps.eraseIdx n)))).set j (.val P))) := fun F σ G H D e g => by
  obtain ⟨a, vs, h1, h2, h3, h4, _⟩ := own_list e hi
  refine ⟨.ref a, h1, .inl ⟨rfl, vs, SqL.of h2⟩, hk F σ G H e _ fun v G' H' gr p => ?_⟩
  obtain ⟨b, ws, k1, k2, k3, k4, k5⟩ := own_list (e.grow gr) hi
  rw [h1] at k1
  cases k1
  obtain ⟨x, x1, x2⟩ := k3.get hP
  refine ⟨a, ws, k, n, x, rfl, by rw [show v = .int k from p], k2, hb.1, hb.2, by rw [k3.len]; exact hn, x1, g _ G' _ ?_⟩
  exact (k5 _ _ (k3.erase n) (Nat.le_trans (List.length_eraseIdx_le _ _) k4)).set x2 (by rw [List.length_set]; exact hj)

/-! ### loops -/
inductive Fl (S ρ : Type) where
  | go (s : S)
  | br (s : S)
  | rt (r : ρ)
def loopM {S ρ α : Type} (f : S → α → Option (Fl S ρ)) : S → List α → Option (Sum S ρ)
  | s, [] => some (.inl s)
  | s, x :: xs => match f s x with
    | none => none
    | some (.go s') => loopM f s' xs
    | some (.br s') => some (.inl s')
    | some (.rt r) => some (.inr r)
def outF {S ρ : Type} (Γs : S → Ctx) (R : ρ → Pr) : Fl S ρ → Out
  | .go s => .nc (Γs s)
  | .br s => .bk (Γs s)
  | .rt r => .rt (R r)
def outL {S ρ : Type} (Γs : S → Ctx) (R : ρ → Pr) : Sum S ρ → Out
  | .inl s => .nx (Γs s)
  | .inr r => .rt (R r)
/-- the loop's word, by what is still to come -/
theorem loop_step {S ρ α : Type} {f : S → α → Option (Fl S ρ)} {Γs : S → Ctx} {R : ρ → Pr} {out : Sum S ρ} {F' : Fm} {σ : St} {G H : Hp} {D : Ends} {x : α} {xs : List α} {s : S} {N : St → Hp → Prop} {Γx : Ctx}
    (hb : ∀ fl, f s x = some fl → StS ts Γx (outF Γs R fl)) (hm : loopM f s (x :: xs) = some out)
    (hN : ∀ s' σ' G' H', loopM f s' xs = some out → EOk F' (Γs s') σ' G' H' → N σ' H') (hD : ∀ s' σ' G' H', out = .inl s' → EOk F' (Γs s') σ' G' H' → D.nx σ' H') (hR : ∀ r v G' H', out = .inr r → Gr F'.G F'.H G' H' → (R r).p G' v → D.rt v H')
    (e : EOk F' Γx σ G H) : ts { D with nx := N, ct := N, bk := D.nx } σ H := by
  unfold loopM at hm
  cases hf : f s x with
  | none =>
    rw [hf] at hm
    cases hm
  | some fl =>
    rw [hf] at hm
    refine hb fl hf F' σ G H _ e ?_
    cases fl with
    | go s' => exact fun σ' G' H' e' => ⟨hN s' σ' G' H' hm e', hN s' σ' G' H' hm e'⟩
    | br s' => exact fun σ' G' H' e' => hD s' σ' G' H' (Option.some.inj hm).symm e'
    | rt r => exact fun v G' H' g p => hR r v G' H' (Option.some.inj hm).symm g p
theorem goal_inl {S ρ : Type} {Γs : S → Ctx} {R : ρ → Pr} {out : Sum S ρ} {F : Fm} {D : Ends} (g : Goal F D (outL Γs R out)) {s : S} (h : out = .inl s) {σ : St} {G H : Hp} (e : EOk F (Γs s) σ G H) : D.nx σ H := by
  subst h
  exact g σ G H e
theorem goal_inr {S ρ : Type} {Γs : S → Ctx} {R : ρ → Pr} {out : Sum S ρ} {F : Fm} {D : Ends} (g : Goal F D (outL Γs R out)) {r : ρ} (h : out = .inr r) {v : V} {G H : Hp} (gr : Gr F.G F.H G H) (p : (R r).p G v) : D.rt v H := by
  subst h
  exact g v G H gr p
/-- what is known of a list that stands through a loop -/
abbrev withL (F : Fm) (a : Addr) (vs : List V) (Ps : List Pr) : Fm := ⟨F.G, F.H, fun H => F.X H ∧ (H a = some (.lst vs) ∧ Sat H vs Ps), fun g q => ⟨F.m g q.1, g _ _ q.2.1, q.2.2.m g⟩⟩
theorem EOk.withL {F : Fm} {σ : St} {G H : Hp} {a : Addr} {vs : List V} (e : EOk F Γ σ G H) (h1 : G a = some (.lst vs)) (h2 : Sat G vs Ps) : EOk (withL F a vs Ps) Γ σ G H := by
  obtain ⟨Ls, e⟩ := e
  exact ⟨Ls, e.gr, ⟨e.x, h1, h2⟩, e.len, e.at_, e.fr, e.dis⟩
theorem EOk.noL {F : Fm} {σ : St} {G H : Hp} {a : Addr} {vs : List V} (e : EOk (Y.withL F a vs Ps) Γ σ G H) : EOk F Γ σ G H ∧ G a = some (.lst vs) ∧ Sat G vs Ps ∧ H a = some (.lst vs) := by
  obtain ⟨Ls, e⟩ := e
  exact ⟨⟨Ls, e.gr, e.x.1, e.len, e.at_, e.fr, e.dis⟩, e.x.2.1, e.x.2.2, e.gr.s _ _ e.x.2.1⟩
theorem drop_cons {α : Type} {xs : List α} {i : Nat} {x : α} (h : xs[i]? = some x) : xs.drop i = x :: xs.drop (i + 1) := by
  have hi := lt_of_get h
  rw [List.drop_eq_getElem_cons hi]
  congr 1
  rw [List.getElem?_eq_getElem hi] at h
  exact Option.some.inj h
theorem sat_map_get {α : Type} {H : Hp} {vs : List V} {r : α → Pr} {xs : List α} (s : Sat H vs (xs.map r)) {i : Nat} {v : V} (h : vs[i]? = some v) : ∃ x, xs[i]? = some x ∧ (r x).p H v := by
  obtain ⟨P, h1, h2⟩ := s.getv h
  rw [List.getElem?_map] at h1
  cases z : xs[i]? with
  | none =>
    rw [z] at h1
    cases h1
  | some x =>
    rw [z] at h1
    cases h1
    exact ⟨x, rfl, h2⟩
/-- for x in xs -/
theorem s_for {S ρ α : Type} {r : α → Pr} {xs : List α} (Γs : S → Ctx) (R : ρ → Pr) (f : S → α → Option (Fl S ρ)) (s0 : S) {out : Sum S ρ} (h : EvE tl (Γs s0) (pL (xs.map r))) (hj : ∀ s, j < (Γs s).length)
    (hb : ∀ s x fl, x ∈ xs → f s x = some fl → StS ts ((Γs s).set j (.val (r x))) (outF Γs R fl)) (hm : loopM f s0 xs = some out) : StS (tFor (iList K tl) (gName j) ts) (Γs s0) (outL Γs R out) := fun F σ G H D e g =>
  h F σ G H e _ fun v G1 H1 g1 ⟨a, ob, h1, h2, vs, h3, h4, h5⟩ => by
    subst h1 h3
    have lv : vs.length = xs.length := by rw [h4.len, List.length_map]
    refine ⟨a, rfl, ⟨vs, SqL.of (g1.s _ _ h2)⟩, for_list (K := K) (a := a) (xs := vs) (fun i σ' H' => ∃ s G', loopM f s (xs.drop i) = some out ∧ EOk (withL F a vs (xs.map r)) (Γs s) σ' G' H') ⟨s0, G1, hm, (e.grow g1).withL h2 h4⟩ ?_ ?_ ?_⟩
    · rintro i σ' H' _ ⟨s, G', _, e'⟩
      exact SqL.of e'.noL.2.2.2
    · rintro i x σ' H' hx ⟨s, G', hs, e'⟩
      obtain ⟨e1, k1, k2, k3⟩ := e'.noL
      obtain ⟨y, y1, y2⟩ := sat_map_get k2 hx
      rw [drop_cons y1] at hs
      exact loop_step (F' := withL F a vs (xs.map r)) (hb := fun fl hf => hb s y fl (List.mem_of_getElem? y1) hf) hs (fun s' σ2 G2 H2 m2 e2 => ⟨s', G2, m2, e2⟩) (fun s' σ2 G2 H2 eo e2 => goal_inl g eo e2.noL.1) (fun r' w G2 H2 eo gr p => goal_inr g eo gr p) (e'.set y2 (hj s))
    · rintro σ' H' ⟨s, G', hs, e'⟩
      rw [lv, List.drop_length] at hs
      exact goal_inl g (Option.some.inj hs).symm e'.noL.1
/-- the same, nothing leaves it ahead -/
theorem loop_fold {S α : Type} {f : S → α → Option S} : ∀ {xs : List α} {s : S} {out : S}, xs.foldlM f s = some out → loopM (ρ := Unit) (fun s x => (f s x).map Fl.go) s xs = some (.inl out)
  | [], s, out, h => by
    rw [List.foldlM_nil] at h
    cases h
    rfl
  | x :: xs, s, out, h => by
    rw [List.foldlM_cons] at h
    unfold loopM
    cases z : f s x with
    | none =>
      rw [z] at h
      cases h
    | some s' =>
      rw [z] at h
      exact loop_fold h
theorem s_forM {S α : Type} {r : α → Pr} {xs : List α} (Γs : S → Ctx) (f : S → α → Option S) (s0 : S) {out : S} (h : EvE tl (Γs s0) (pL (xs.map r))) (hj : ∀ s, j < (Γs s).length)
    (hb : ∀ s x s', x ∈ xs → f s x = some s' → StS ts ((Γs s).set j (.val (r x))) (.nc (Γs s'))) (hm : xs.foldlM f s0 = some out) : StS (tFor (iList K tl) (gName j) ts) (Γs s0) (.nx (Γs out)) :=
  s_for (ρ := Unit) Γs (fun _ => pN) (fun s x => (f s x).map Fl.go) s0 h hj (fun s x fl hx hf => by
    cases z : f s x with
    | none =>
      have hf' : (f s x).map Fl.go = some fl := hf
      rw [z] at hf'
      cases hf'
    | some s' =>
      have hf' : (f s x).map Fl.go = some fl := hf
      rw [z] at hf'
      cases hf'
      exact hb s x s' hx z) (loop_fold hm)
/-- for k in range(lo, hi) -/
def rangeI (lo : Int) (n : Nat) : List Int := (List.range n).map fun (k : Nat) => lo + (k : Int)
theorem rangeI_get {lo : Int} {n i : Nat} (h : i < n) : (rangeI lo n)[i]? = some (lo + (i : Int)) := by
  unfold rangeI
  rw [List.getElem?_map, List.getElem?_range h]
  rfl
theorem rangeI_len {lo : Int} {n : Nat} : (rangeI lo n).length = n := by
  unfold rangeI
  rw [List.length_map, List.length_range]
theorem for_rng {S ρ : Type} {lo : Int} {n : Nat} {Γs : S → Ctx} {R : ρ → Pr} {f : S → Int → Option (Fl S ρ)} {s0 : S} {out : Sum S ρ} {F : Fm} {σ : St} {G H : Hp} {D : Ends} (e : EOk F (Γs s0) σ G H) (g : Goal F D (outL Γs R out)) (hj : ∀ s, j < (Γs s).length)
    (hb : ∀ s x fl, x ∈ rangeI lo n → f s x = some fl → StS ts ((Γs s).set j (.val (pI x))) (outF Γs R fl)) (hm : loopM f s0 (rangeI lo n) = some out) :
    ∃ W : Nat → Nat → St → Hp → Prop, (∃ m, W 0 m σ H) ∧ ∀ i m σ H, W i m σ H → ((Itr lo n).stop i H ∧ D.nx σ H) ∨ ((Itr lo n).go i H ∧ ∃ N : St → Hp → Prop, (∀ σ' H', N σ' H' → ∃ m', m' < m ∧ W (i + 1) m' σ' H') ∧ ∀ x H', (Itr lo n).yld i H x H' → gName j x σ H' fun σ2 H2 => ts { D with nx := N, ct := N, bk := D.nx } σ2 H2) := by
  refine for_range (fun i σ' H' => ∃ s G', loopM f s ((rangeI lo n).drop i) = some out ∧ EOk F (Γs s) σ' G' H') ⟨s0, G, hm, e⟩ ?_ ?_
  · rintro i σ' H' hx ⟨s, G', hs, e'⟩
    have y1 := rangeI_get (lo := lo) hx
    rw [drop_cons y1] at hs
    exact loop_step (F' := F) (hb := fun fl hf => hb s _ fl (List.mem_of_getElem? y1) hf) hs (fun s' σ2 G2 H2 m2 e2 => ⟨s', G2, m2, e2⟩) (fun s' σ2 G2 H2 eo e2 => goal_inl g eo e2) (fun r' w G2 H2 eo gr p => goal_inr g eo gr p) (e'.set (P := pI _) rfl (hj s))
  · rintro σ' H' ⟨s, G', hs, e'⟩
    have : ((rangeI lo n).drop n) = [] := List.drop_eq_nil_of_le (by rw [rangeI_len]; exact Nat.le_refl _)
    rw [this] at hs
    exact goal_inl g (Option.some.inj hs).symm e'
theorem s_forR1 {S ρ : Type} {tas : TA} {n : Int} (Γs : S → Ctx) (R : ρ → Pr) (f : S → Int → Option (Fl S ρ)) (s0 : S) {out : Sum S ρ} (h : EvA tas (Γs s0) [pI n]) (hn : -(2 ^ 62) ≤ n ∧ n < 2 ^ 62) (hj : ∀ s, j < (Γs s).length)
    (hb : ∀ s x fl, x ∈ rangeI 0 n.toNat → f s x = some fl → StS ts ((Γs s).set j (.val (pI x))) (outF Γs R fl)) (hm : loopM f s0 (rangeI 0 n.toNat) = some out) : StS (tFor (iRng1 tas) (gName j) ts) (Γs s0) (outL Γs R out) := fun F σ G H D e g =>
  h F σ G H e _ fun vs G1 H1 g1 s1 => by
    obtain ⟨v, rfl, h1⟩ := sat1 s1
    cases h1
    exact ⟨n, rfl, hn.1, hn.2, for_rng (e.grow g1) g hj hb hm⟩
theorem s_forR2 {S ρ : Type} {tas : TA} {m n : Int} (Γs : S → Ctx) (R : ρ → Pr) (f : S → Int → Option (Fl S ρ)) (s0 : S) {out : Sum S ρ} (h : EvA tas (Γs s0) [pI m, pI n]) (hn : -(2 ^ 62) ≤ m ∧ m < 2 ^ 62 ∧ -(2 ^ 62) ≤ n ∧ n < 2 ^ 62) (hj : ∀ s, j < (Γs s).length)
    (hb : ∀ s x fl, x ∈ rangeI m (n - m).toNat → f s x = some fl → StS ts ((Γs s).set j (.val (pI x))) (outF Γs R fl)) (hm : loopM f s0 (rangeI m (n - m).toNat) = some out) : StS (tFor (iRng2 tas) (gName j) ts) (Γs s0) (outL Γs R out) := fun F σ G H D e g =>
  h F σ G H e _ fun vs G1 H1 g1 s1 => by
    obtain ⟨v, w, rfl, h1, h2⟩ := sat2 s1
    cases h1
    cases h2
    exact ⟨m, n, rfl, hn, for_rng (e.grow g1) g hj hb hm⟩
theorem fold_body {S α : Type} {f : S → α → Option S} {s : S} {x : α} {Γs : S → Ctx} {fl : Fl S Unit} (hb : ∀ s', f s x = some s' → StS ts Γ (.nc (Γs s'))) (hf : (f s x).map Fl.go = some fl) : StS ts Γ (outF Γs (fun _ => pN) fl) := by
  cases z : f s x with
  | none =>
    rw [z] at hf
    cases hf
  | some s' =>
    rw [z] at hf
    cases hf
    exact hb s' z
theorem s_forR1M {S : Type} {tas : TA} {n : Int} (Γs : S → Ctx) (f : S → Int → Option S) (s0 : S) {out : S} (h : EvA tas (Γs s0) [pI n]) (hn : -(2 ^ 62) ≤ n ∧ n < 2 ^ 62) (hj : ∀ s, j < (Γs s).length)
    (hb : ∀ s x s', x ∈ rangeI 0 n.toNat → f s x = some s' → StS ts ((Γs s).set j (.val (pI x))) (.nc (Γs s'))) (hm : (rangeI 0 n.toNat).foldlM f s0 = some out) : StS (tFor (iRng1 tas) (gName j) ts) (Γs s0) (.nx (Γs out)) :=
  s_forR1 (ρ := Unit) Γs (fun _ => pN) (fun s x => (f s x).map Fl.go) s0 h hn hj (fun s x fl hx hf => fold_body (fun s' h' => hb s x s' hx h') hf) (loop_fold hm)
theorem s_forR2M {S : Type} {tas : TA} {m n : Int} (Γs : S → Ctx) (f : S → Int → Option S) (s0 : S) {out : S} (h : EvA tas (Γs s0) [pI m, pI n]) (hn : -(2 ^ 62) ≤ m ∧ m < 2 ^ 62 ∧ -(2 ^ 62) ≤ n ∧ n < 2 ^ 62) (hj : ∀ s, j < (Γs s).length)
    (hb : ∀ s x s', x ∈ rangeI m (n - m).toNat → f s x = some s' → StS ts ((Γs s).set j (.val (pI x))) (.nc (Γs s'))) (hm : (rangeI m (n - m).toNat).foldlM f s0 = some out) : StS (tFor (iRng2 tas) (gName j) ts) (Γs s0) (.nx (Γs out)) :=
  s_forR2 (ρ := Unit) Γs (fun _ => pN) (fun s x => (f s x).map Fl.go) s0 h hn hj (fun s x fl hx hf => fold_body (fun s' h' => hb s x s' hx h') hf) (loop_fold hm)
end
end Y

set_option Elab.async false
set_option linter.all false
set_option maxRecDepth 100000
namespace Y
open PySem L2
/-! ### the regions held fixed -/
section
variable {F : Fm} {Γ : Ctx} {σ : St} {G H G' H' : Hp} {Ls : Nat → List Addr} {i : Nat} {P : Pr} {W : Ow} {v : V}
theorem EOk1.grow (e : EOk1 F Γ σ G H Ls) (g : Gr G H G' H') : EOk1 F Γ σ G' H' Ls :=
  ⟨e.gr.trans g, F.m g.g e.x, e.len, fun i sl h => (e.at_ i sl h).go g.g (fun W hW a ha => g.h.at (e.fr i W (hW ▸ h) a ha).2.2),
    fun i W h a ha => ⟨g.f a (e.fr i W h a ha).2.2 (e.fr i W h a ha).1, (e.fr i W h a ha).2.1, fun z => (e.fr i W h a ha).2.2 (g.h.free z)⟩, e.dis⟩
theorem EOk1.set (e : EOk1 F Γ σ G H Ls) (h : P.p G v) (hi : i < Γ.length) : EOk1 F (Γ.set i (.val P)) (σ.set i (some v)) G H Ls := by
  have hi2 : i < σ.length := e.len ▸ hi
  have bk : ∀ {j : Nat} {W : Ow}, (Γ.set i (.val P))[j]? = some (.own W) → Γ[j]? = some (.own W) := fun {j W} hj => by
    rcases set_get hj with ⟨_, _, z⟩ | ⟨_, z⟩
    · cases z
    · exact z
  refine ⟨e.gr, e.x, by rw [List.length_set, List.length_set, e.len], fun j sl hj => ?_, fun j W hj => e.fr j W (bk hj), fun j k W W' hj hk => e.dis j k W W' (bk hj) (bk hk)⟩
  rcases set_get hj with ⟨rfl, _, rfl⟩ | ⟨z, hj⟩
  · rw [List.getElem?_set_self hi2]
    exact h
  · rw [List.getElem?_set_ne z]
    exact e.at_ j sl hj
theorem EOk1.drop1 (e : EOk1 F Γ σ G H Ls) (i : Nat) : EOk1 F (Γ.set i .any) σ G H Ls := by
  have bk : ∀ {j : Nat} {W1 : Ow}, (Γ.set i .any)[j]? = some (.own W1) → Γ[j]? = some (.own W1) := fun {j W1} hj => by
    rcases set_get hj with ⟨_, _, z⟩ | ⟨z, h⟩
    · cases z
    · exact h
  refine ⟨e.gr, e.x, by rw [List.length_set, e.len], fun j sl hj => ?_, fun j W1 hj => e.fr j W1 (bk hj), fun j k W1 W2 hj hk => e.dis j k W1 W2 (bk hj) (bk hk)⟩
  rcases set_get hj with ⟨rfl, _, rfl⟩ | ⟨z, hj⟩
  · trivial
  · exact e.at_ j sl hj
theorem EOk1.wipe1 (e : EOk1 F Γ σ G H Ls) (i : Nat) : EOk1 F (Γ.set i .any) (σ.set i none) G H Ls := by
  have e := e.drop1 i
  refine ⟨e.gr, e.x, by rw [List.length_set]; exact e.len, fun j sl hj => ?_, e.fr, e.dis⟩
  have q := e.at_ j sl hj
  rcases set_get hj with ⟨rfl, _, rfl⟩ | ⟨z, _⟩
  · trivial
  · rw [List.getElem?_set_ne z]
    exact q
theorem EOk1.wipe (e : EOk1 F Γ σ G H Ls) : ∀ vs : List Nat, EOk1 F (wipeC Γ vs) (L2.wipe σ vs) G H Ls
  | [] => e
  | v :: vs => (EOk1.wipe e vs).wipe1 v
/-- the regions told only where there is one -/
theorem EOk1.norm (e : EOk1 F Γ σ G H Ls) : ∃ Ls', EOk1 F Γ σ G H Ls' ∧ ∀ i a, a ∈ Ls' i → H a ≠ none := by
  refine ⟨fun i => match Γ[i]? with | some (.own _) => Ls i | _ => [], ⟨e.gr, e.x, e.len, fun i sl h => ?_, fun i W h a ha => ?_, fun i j W W' h h' ne a ha => ?_⟩, fun i a ha => ?_⟩
  · have q := e.at_ i sl h
    cases sl with
    | any => trivial
    | val P =>
      obtain ⟨v, h1, h2⟩ := q.val_
      rw [h1]
      exact h2
    | own W =>
      simp only [h]
      exact q
  · simp only [h] at ha
    exact e.fr i W h a ha
  · simp only [h] at ha
    simp only [h']
    exact e.dis i j W W' h h' ne a ha
  · cases z : Γ[i]? with
    | none =>
      simp only [z] at ha
      cases ha
    | some sl =>
      cases sl with
      | own W =>
        simp only [z] at ha
        exact (e.fr i W z a ha).2.2
      | any =>
        simp only [z] at ha
        cases ha
      | val P =>
        simp only [z] at ha
        cases ha
theorem EOk1.updD {D : Addr} {ob : HO} (e : EOk1 F Γ σ G H Ls) (hL : ∀ i a, a ∈ Ls i → a ≠ D) (hG : G D = none) (h0 : F.H D = none) : EOk1 F Γ σ G (upd H D ob) Ls := by
  refine ⟨⟨e.gr.g, Gw.mut e.gr.h h0, Gw.mut e.gr.s hG, e.gr.f⟩, e.x, e.len, fun i sl h => (e.at_ i sl h).go (Gw.refl G) (fun W hW a ha => upd_ne (hL i a ha)), fun i W h a ha => ?_, e.dis⟩
  have f := e.fr i W h a ha
  exact ⟨f.1, f.2.1, by rw [upd_ne (hL i a ha)]; exact f.2.2⟩
end
/-! ### slots forgotten and set again -/
theorem wipe_set_ne (y : Option V) {j : Nat} : ∀ {vs : List Nat} {σ : St}, j ∉ vs → L2.wipe (σ.set j y) vs = (L2.wipe σ vs).set j y
  | [], _, _ => rfl
  | v :: vs, σ, h => by
    have h1 : j ≠ v := fun z => h (z ▸ List.mem_cons_self)
    have h2 : j ∉ vs := fun z => h (List.mem_cons_of_mem _ z)
    show (L2.wipe (σ.set j y) vs).set v none = ((L2.wipe σ vs).set v none).set j y
    rw [wipe_set_ne y h2, List.set_comm _ _ h1]
theorem wipe_set (y : Option V) {j : Nat} : ∀ {vs : List Nat} {σ : St}, j ∈ vs → L2.wipe (σ.set j y) vs = L2.wipe σ vs
  | v :: vs, σ, h => by
    show (L2.wipe (σ.set j y) vs).set v none = (L2.wipe σ vs).set v none
    by_cases h2 : j ∈ vs
    · rw [wipe_set y h2]
    · have h1 : j = v := by
        rcases List.mem_cons.mp h with z | z
        · exact z
        · exact absurd z h2
      rw [wipe_set_ne y h2, h1, List.set_set]
theorem wipe_wipe (vs : List Nat) : ∀ {ws : List Nat} {σ : St}, (∀ x ∈ ws, x ∈ vs) → L2.wipe (L2.wipe σ ws) vs = L2.wipe σ vs
  | [], _, _ => rfl
  | w :: ws, σ, h => by
    show L2.wipe ((L2.wipe σ ws).set w none) vs = L2.wipe σ vs
    rw [wipe_set none (h w List.mem_cons_self), wipe_wipe vs (fun x hx => h x (List.mem_cons_of_mem _ hx))]
/-! ### targets -/
def EvG (g : TG) (js : List Nat) (Γ : Ctx) (P : Pr) (Γ' : Ctx) : Prop := ∀ (F : Fm) (σ : St) (G H : Hp) (Ls : Nat → List Addr) (v : V), EOk1 F Γ σ G H Ls → P.p G v → ∀ Q : St → Hp → Prop,
  (∀ σ', EOk1 F Γ' σ' G H Ls → (∀ vs : List Nat, (∀ j ∈ js, j ∈ vs) → L2.wipe σ' vs = L2.wipe σ vs) → Q σ' H) → g v σ H Q
section
variable {K : PySem.W.Frag} {Γ Γ1 : Ctx} {P P1 P2 : Pr} {i j k : Nat}
theorem g_name (hi : i < Γ.length) : EvG (gName i) [i] Γ P (Γ.set i (.val P)) := fun F σ G H Ls v e p Q q =>
  q _ (e.set p hi) fun vs h => wipe_set _ (h i (List.mem_singleton.mpr rfl))
theorem g_tup2 (hi : i < Γ.length) (hj : j < Γ.length) : EvG (gTup K 2 (gCons (gName i) (gCons (gName j) gNil))) [i, j] Γ (pT [P1, P2]) ((Γ.set i (.val P1)).set j (.val P2)) := fun F σ G H Ls v e ⟨a, vs, h1, h2, h3⟩ Q q => by
  obtain ⟨x, y, rfl, p1, p2⟩ := sat2 h3
  refine ⟨a, [x, y], h1, SqT.of (e.gr.s _ _ h2), rfl, x, [y], rfl, y, [], rfl, rfl, ?_⟩
  refine q _ ((e.set p1 hi).set p2 (by rw [List.length_set]; exact hj)) fun ws h => ?_
  rw [wipe_set _ (h j (by simp)), wipe_set _ (h i (by simp))]
theorem g_tup3 {P3 : Pr} (hi : i < Γ.length) (hj : j < Γ.length) (hk : k < Γ.length) : EvG (gTup K 3 (gCons (gName i) (gCons (gName j) (gCons (gName k) gNil)))) [i, j, k] Γ (pT [P1, P2, P3]) (((Γ.set i (.val P1)).set j (.val P2)).set k (.val P3)) := fun F σ G H Ls v e ⟨a, vs, h1, h2, h3⟩ Q q => by
  match vs, h3 with
  | [x, y, z], h3 =>
    refine ⟨a, [x, y, z], h1, SqT.of (e.gr.s _ _ h2), rfl, x, [y, z], rfl, y, [z], rfl, z, [], rfl, rfl, ?_⟩
    refine q _ (((e.set h3.1 hi).set h3.2.1 (by rw [List.length_set]; exact hj)).set h3.2.2.1 (by rw [List.length_set, List.length_set]; exact hk)) fun ws h => ?_
    rw [wipe_set _ (h k (by simp)), wipe_set _ (h j (by simp)), wipe_set _ (h i (by simp))]
  | [], h3 => exact h3.elim
  | [_], h3 => exact h3.2.elim
  | [_, _], h3 => exact h3.2.2.elim
  | _ :: _ :: _ :: _ :: _, h3 => exact h3.2.2.2.elim
theorem g_to {g : TG} {js : List Nat} {Γ2 : Ctx} (h : EvG g js Γ P Γ1) (e : Γ1 = Γ2) : EvG g js Γ P Γ2 := e ▸ h
end
/-! ### what is walked -/
structure Wk {α : Type} (r : α → Pr) (xs : List α) (J : It) (X : Hp → Prop) : Prop where
  m : ∀ {H H' : Hp}, Gw H H' → X H → X H'
  ex : ∃ (Gc : Hp → Prop) (Y : Nat → Hp → V → Hp → Prop), Walk J xs.length Gc Y ∧ (∀ G H, X G → Gw G H → Gc H) ∧
    ∀ i G H v H', X G → Gw G H → i < xs.length → Y i H v H' → ∃ G' x, Gr G H G' H' ∧ xs[i]? = some x ∧ (r x).p G' v
def EvI {α : Type} (wi : TI) (Γ : Ctx) (r : α → Pr) (xs : List α) : Prop := ∀ (F : Fm) (σ : St) (G H : Hp), EOk F Γ σ G H → ∀ R : It → Hp → Prop, (∀ J X G' H', Gr G H G' H' → Wk r xs J X → X G' → R J H') → wi σ H R
section
variable {K : PySem.W.Frag} {Γ : Ctx} {α β : Type} {r : α → Pr} {rb : β → Pr} {xs : List α} {ys : List β} {tl : TE} {tas : TA}
theorem i_list (h : EvE tl Γ (pL (xs.map r))) : EvI (iList K tl) Γ r xs := fun F σ G H e R q =>
  h F σ G H e _ fun v G1 H1 g1 ⟨a, ob, h1, h2, vs, h3, h4, h5⟩ => by
    subst h1 h3
    have lv : vs.length = xs.length := by rw [h4.len, List.length_map]
    refine ⟨a, rfl, ⟨vs, SqL.of (g1.s _ _ h2)⟩, q _ (fun H => H a = some (.lst vs) ∧ Sat H vs (xs.map r)) G1 H1 g1 ⟨fun g q => ⟨g _ _ q.1, q.2.m g⟩, fun H => SqL K H a vs, YAt vs, lv ▸ walk_list, fun G H x s => SqL.of (s _ _ x.1), fun i G H v H' x s hi y => ?_⟩ ⟨h2, h4⟩⟩
    obtain ⟨rfl, y2⟩ := y
    obtain ⟨z, z1, z2⟩ := sat_map_get x.2 y2
    exact ⟨G, z, Gr.refl s, z1, z2⟩
theorem i_rng (lo : Int) (n : Nat) {r' : Int → Pr} (hr : ∀ i, r' i = pI i) : Wk r' (rangeI lo n) (Itr lo n) (fun _ => True) :=
  ⟨fun _ _ => trivial, fun _ => True, YFn fun i => .int (lo + i), by rw [rangeI_len]; exact walk_range, fun _ _ _ _ => trivial, fun i G H v H' _ s hi y => by
    obtain ⟨rfl, rfl⟩ := y
    rw [rangeI_len] at hi
    exact ⟨G, lo + i, Gr.refl s, rangeI_get hi, by rw [hr] <;> rfl⟩⟩
theorem i_rng1 {n : Int} (h : EvA tas Γ [pI n]) (hn : -(2 ^ 62) ≤ n ∧ n < 2 ^ 62) : EvI (iRng1 tas) Γ pI (rangeI 0 n.toNat) := fun F σ G H e R q =>
  h F σ G H e _ fun vs G1 H1 g1 s1 => by
    obtain ⟨v, rfl, h1⟩ := sat1 s1
    cases h1
    exact ⟨n, rfl, hn.1, hn.2, q _ _ G1 H1 g1 (i_rng 0 n.toNat fun _ => rfl) trivial⟩
theorem i_rng2 {m n : Int} (h : EvA tas Γ [pI m, pI n]) (hn : -(2 ^ 62) ≤ m ∧ m < 2 ^ 62 ∧ -(2 ^ 62) ≤ n ∧ n < 2 ^ 62) : EvI (iRng2 tas) Γ pI (rangeI m (n - m).toNat) := fun F σ G H e R q =>
  h F σ G H e _ fun vs G1 H1 g1 s1 => by
    obtain ⟨v, w, rfl, h1, h2⟩ := sat2 s1
    cases h1
    cases h2
    exact ⟨m, n, rfl, hn, q _ _ G1 H1 g1 (i_rng m (n - m).toNat fun _ => rfl) trivial⟩
/-- enumerate -/
def enumI (lo : Int) : List α → List (Int × α)
  | [] => []
  | x :: xs => (lo, x) :: enumI (lo + 1) xs
theorem enumI_len : ∀ {xs : List α} {lo : Int}, (enumI lo xs).length = xs.length
  | [], _ => rfl
  | _ :: xs, lo => congrArg Nat.succ (enumI_len (xs := xs))
theorem enumI_get : ∀ {xs : List α} {lo : Int} {i : Nat} {x : α}, xs[i]? = some x → (enumI lo xs)[i]? = some (lo + (i : Int), x)
  | [], _, _, _, h => by simp at h
  | y :: xs, lo, 0, x, h => by
    simp at h
    subst h
    simp [enumI]
  | y :: xs, lo, i + 1, x, h => by
    have := enumI_get (lo := lo + 1) (i := i) (x := x) (xs := xs) (by simpa using h)
    show (enumI (lo + 1) xs)[i]? = _
    rw [this]
    congr 2
    omega
abbrev r2 (r : α → Pr) (s : β → Pr) : α × β → Pr := fun p => pT [r p.1, s p.2]
theorem i_enum (h : EvA tas Γ [pL (xs.map r)]) : EvI (iEnum K tas) Γ (r2 pI r) (enumI 0 xs) := fun F σ G H e R q =>
  h F σ G H e _ fun vs G1 H1 g1 s1 => by
    obtain ⟨v, rfl, a, ob, h1, h2, vs, h3, h4, h5⟩ := sat1 s1
    subst h1 h3
    have lv : vs.length = xs.length := by rw [h4.len, List.length_map]
    refine ⟨a, vs, rfl, SqL.of (g1.s _ _ h2), q _ (fun H => H a = some (.lst vs) ∧ Sat H vs (xs.map r)) G1 H1 g1 ⟨fun g q => ⟨g _ _ q.1, q.2.m g⟩, fun H => SqL K H a vs, YPair (fun i => some (.int (i : Nat))) (fun i => vs[i]?), ?_, fun G H x s => SqL.of (s _ _ x.1), fun i G H v H' x s hi y => ?_⟩ ⟨h2, h4⟩⟩
    · rw [enumI_len, ← lv]
      exact walk_enum
    · obtain ⟨T, y1, y2, rfl, hT, rfl, k1, k2⟩ := y
      cases k1
      obtain ⟨z, z1, z2⟩ := sat_map_get x.2 k2
      refine ⟨upd G T (.tup [.int (i : Nat), y2]), ((0 : Int) + (i : Int), z), Gr.new s hT, enumI_get z1, T, _, rfl, upd_same, ?_⟩
      have g := (Gr.new (o := .tup [.int (i : Nat), y2]) s hT).g
      refine ⟨?_, (r z).m g z2, trivial⟩
      show V.int _ = V.int _
      rw [Int.zero_add]
theorem zip_get {xs : List α} {ys : List β} {i : Nat} {x : α} {y : β} (h1 : xs[i]? = some x) (h2 : ys[i]? = some y) : (xs.zip ys)[i]? = some (x, y) := List.getElem?_zip_eq_some.mpr ⟨h1, h2⟩
theorem i_zip (h : EvA tas Γ [pL (xs.map r), pL (ys.map rb)]) : EvI (iZip K tas) Γ (r2 r rb) (xs.zip ys) := fun F σ G H e R q =>
  h F σ G H e _ fun vs G1 H1 g1 s1 => by
    obtain ⟨v, w, rfl, ⟨a, ob, h1, h2, vs, h3, h4, h5⟩, ⟨b, ob', k1, k2, ws, k3, k4, k5⟩⟩ := sat2 s1
    subst h1 h3 k1 k3
    have lv : vs.length = xs.length := by rw [h4.len, List.length_map]
    have lw : ws.length = ys.length := by rw [k4.len, List.length_map]
    refine ⟨a, b, vs, ws, rfl, SqL.of (g1.s _ _ h2), SqL.of (g1.s _ _ k2), q _ (fun H => (H a = some (.lst vs) ∧ Sat H vs (xs.map r)) ∧ (H b = some (.lst ws) ∧ Sat H ws (ys.map rb))) G1 H1 g1
      ⟨fun g q => ⟨⟨g _ _ q.1.1, q.1.2.m g⟩, g _ _ q.2.1, q.2.2.m g⟩, fun H => SqL K H a vs ∧ SqL K H b ws, YPair (fun i => vs[i]?) (fun i => ws[i]?), ?_, fun G H x s => ⟨SqL.of (s _ _ x.1.1), SqL.of (s _ _ x.2.1)⟩, fun i G H v H' x s hi y => ?_⟩ ⟨⟨h2, h4⟩, k2, k4⟩⟩
    · refine walk_zip ?_
      rw [List.length_zip, lv, lw]
    · obtain ⟨T, y1, y2, rfl, hT, rfl, j1, j2⟩ := y
      obtain ⟨z, z1, z2⟩ := sat_map_get x.1.2 j1
      obtain ⟨z', z1', z2'⟩ := sat_map_get x.2.2 j2
      have g := (Gr.new (o := .tup [y1, y2]) s hT).g
      exact ⟨upd G T (.tup [y1, y2]), (z, z'), Gr.new s hT, zip_get z1 z1', T, _, rfl, upd_same, (r z).m g z2, (rb z').m g z2', trivial⟩
end
/-! ### for over what is walked -/
abbrev withX (F : Fm) (X : Hp → Prop) (m : ∀ {H H' : Hp}, Gw H H' → X H → X H') : Fm := ⟨F.G, F.H, fun H => F.X H ∧ X H, fun g q => ⟨F.m g q.1, m g q.2⟩⟩
section
variable {F : Fm} {Γ : Ctx} {σ : St} {G H : Hp} {Ls : Nat → List Addr} {X : Hp → Prop} {m : ∀ {H H' : Hp}, Gw H H' → X H → X H'}
theorem EOk1.withX (e : EOk1 F Γ σ G H Ls) (h : X G) : EOk1 (withX F X m) Γ σ G H Ls := ⟨e.gr, ⟨e.x, h⟩, e.len, e.at_, e.fr, e.dis⟩
theorem EOk1.noX (e : EOk1 (Y.withX F X m) Γ σ G H Ls) : EOk1 F Γ σ G H Ls := ⟨e.gr, e.x.1, e.len, e.at_, e.fr, e.dis⟩
end
section
variable {K : PySem.W.Frag} {Γ : Ctx} {α : Type} {r : α → Pr} {xs : List α} {wi : TI} {g : TG} {js : List Nat} {ts : TS}
theorem s_forI {S ρ : Type} (Γs : S → Ctx) (Γx : S → α → Ctx) (R : ρ → Pr) (f : S → α → Option (Fl S ρ)) (s0 : S) {out : Sum S ρ} (h : EvI wi (Γs s0) r xs) (hg : ∀ s x, EvG g js (Γs s) (r x) (Γx s x))
    (hb : ∀ s x fl, x ∈ xs → f s x = some fl → StS ts (Γx s x) (outF Γs R fl)) (hm : loopM f s0 xs = some out) : StS (tFor wi g ts) (Γs s0) (outL Γs R out) := fun F σ G H D e gl =>
  h F σ G H e _ fun J X G1 H1 g1 w x1 => by
    obtain ⟨Gc, Y, wk, k1, k2⟩ := w.ex
    obtain ⟨Ls, e1⟩ := e.grow g1
    refine for_it wk (fun i σ' H' => ∃ s G', loopM f s (xs.drop i) = some out ∧ EOk (withX F X w.m) (Γs s) σ' G' H') ⟨s0, G1, hm, Ls, e1.withX x1⟩ ?_ ?_ ?_
    · rintro i σ' H' _ ⟨s, G', _, Ls, e'⟩
      exact k1 G' H' e'.x.2 e'.gr.s
    · rintro i v σ' H' H2 hi ⟨s, G', hs, Ls, e'⟩ hy
      obtain ⟨G2, x, g2, xi, px⟩ := k2 i G' H' v H2 e'.x.2 e'.gr.s hi hy
      rw [drop_cons xi] at hs
      refine hg s x (withX F X w.m) σ' G2 H2 Ls v (e'.grow g2) px _ fun σ3 e3 _ => ?_
      exact loop_step (F' := withX F X w.m) (hb := fun fl hf => hb s x fl (List.mem_of_getElem? xi) hf) hs (fun s' σ2 G2 H2 m2 e2 => ⟨s', G2, m2, e2⟩) (fun s' σ2 G2 H2 eo ⟨Ls, e2⟩ => goal_inl gl eo ⟨Ls, e2.noX⟩) (fun r' w G2 H2 eo gr p => goal_inr gl eo gr p) ⟨Ls, e3⟩
    · rintro σ' H' ⟨s, G', hs, Ls, e'⟩
      rw [List.drop_length] at hs
      exact goal_inl gl (Option.some.inj hs).symm ⟨Ls, e'.noX⟩
theorem s_forIM {S : Type} (Γs : S → Ctx) (Γx : S → α → Ctx) (f : S → α → Option S) (s0 : S) {out : S} (h : EvI wi (Γs s0) r xs) (hg : ∀ s x, EvG g js (Γs s) (r x) (Γx s x))
    (hb : ∀ s x s', x ∈ xs → f s x = some s' → StS ts (Γx s x) (.nc (Γs s'))) (hm : xs.foldlM f s0 = some out) : StS (tFor wi g ts) (Γs s0) (.nx (Γs out)) :=
  s_forI (ρ := Unit) Γs Γx (fun _ => pN) (fun s x => (f s x).map Fl.go) s0 h hg (fun s x fl hx hf => fold_body (fun s' h' => hb s x s' hx h') hf) (loop_fold hm)
end
/-! ### comprehensions -/
def lcM {α β : Type} (fb : α → Option Bool) (fe : α → Option β) : List α → Option (List β)
  | [] => some []
  | x :: xs => match fb x with
    | none => none
    | some false => lcM fb fe xs
    | some true => match fe x with
      | none => none
      | some y => (lcM fb fe xs).map (y :: ·)
def mapO {α β : Type} (fe : α → Option β) : List α → Option (List β)
  | [] => some []
  | x :: xs => match fe x with
    | none => none
    | some y => (mapO fe xs).map (y :: ·)
theorem mapO_lc {α β : Type} {fe : α → Option β} : ∀ {xs : List α}, lcM (fun _ => some true) fe xs = mapO fe xs
  | [] => rfl
  | x :: xs => by
    unfold lcM mapO
    cases fe x with
    | none => rfl
    | some y =>
      show (lcM _ fe xs).map _ = _
      rw [mapO_lc]
theorem t_yes {Γ : Ctx} : EvT tYes Γ true := fun F σ G H e Q q => q G H (Gr.refl e.s)
section
variable {K : PySem.W.Frag} {Γ : Ctx} {α β : Type} {r : α → Pr} {rb : β → Pr} {xs : List α} {ys : List β} {wi : TI} {g : TG} {js vs : List Nat} {tt : TT} {te : TE}
theorem w_lc (Γx : α → Ctx) (fb : α → Option Bool) (fe : α → Option β) (h : EvI wi Γ r xs) (hz : xs.length ≤ sizeLine) (hg : ∀ x, EvG g js (wipeC Γ vs) (r x) (Γx x)) (hj : ∀ j ∈ js, j ∈ vs)
    (ht : ∀ x b, x ∈ xs → fb x = some b → EvT tt (Γx x) b) (he : ∀ x y, x ∈ xs → fb x = some true → fe x = some y → EvE te (Γx x) (rb y)) (hm : lcM fb fe xs = some ys) : EvW (tLc wi g tt te vs) Γ (oL (ys.map rb)) := fun F σ G H e Q q =>
  h F σ G H e _ fun J X G1 H1 g1 w x1 => fun D hD => by
    obtain ⟨Gc, Y, wk, k1, k2⟩ := w.ex
    obtain ⟨Ls0, e0⟩ := e.grow g1
    obtain ⟨Ls, e1, hLs⟩ := e0.norm
    have hLD : ∀ i a, a ∈ Ls i → a ≠ D := fun i a ha z => hLs i a ha (z ▸ hD)
    have hGD : G1 D = none := e1.gr.s.free hD
    have hFD : F.H D = none := e1.gr.h.free hD
    refine lc_it wk (fun i H' => ∃ G' acc zs, EOk1 (withX F X w.m) (wipeC Γ vs) (L2.wipe σ vs) G' H' Ls ∧ Gr G1 H1 G' H' ∧ G' D = none ∧ H' D = some (.lst acc) ∧ Sat G' acc (zs.map rb) ∧ acc.length ≤ i ∧ (lcM fb fe (xs.drop i)).map (zs ++ ·) = some ys)
      ⟨G1, [], [], ((e1.withX x1).wipe vs).updD hLD hGD hFD, Gr.lay g1.s hD, hGD, upd_same, (by show Sat G1 [] ([] : List Pr); trivial), Nat.le_refl _, by rw [List.drop_zero, hm] <;> rfl⟩ ?_ ?_ ?_
    · rintro i H' _ ⟨G', acc, zs, e', _⟩
      exact k1 G' H' e'.x.2 e'.gr.s
    · rintro i v H' H2 hi ⟨G', acc, zs, e', gr', hGD', hHD', hsat, hlen, hrem⟩ hy
      obtain ⟨G2, x, g2, xi, px⟩ := k2 i G' H' v H2 e'.x.2 e'.gr.s hi hy
      have hx : x ∈ xs := List.mem_of_getElem? xi
      rw [drop_cons xi] at hrem
      have hnn : H' D ≠ none := by rw [hHD']; exact fun z => nomatch z
      refine hg x (withX F X w.m) (L2.wipe σ vs) G2 H2 Ls v (e'.grow g2) px _ fun σ3 e3 hw => ⟨(hw vs hj).trans (wipe_wipe vs fun _ h => h), ?_⟩
      unfold lcM at hrem
      cases hfb : fb x with
      | none =>
        rw [hfb] at hrem
        cases hrem
      | some b =>
        refine ht x b hx hfb (withX F X w.m) σ3 G2 H2 ⟨Ls, e3⟩ _ fun G3 H3 g3 => ?_
        rw [hfb] at hrem
        have g23 := g2.trans g3
        cases b with
        | false =>
          show ∃ G' acc zs, _
          exact ⟨G3, acc, zs, e'.grow g23, gr'.trans g23, g23.f D hnn hGD', g23.h _ _ hHD', hsat.m g23.g, Nat.le_succ_of_le hlen, hrem⟩
        | true =>
          show te σ3 H3 _
          cases hfe : fe x with
          | none =>
            simp only [hfe] at hrem
            cases hrem
          | some y =>
            simp only [hfe] at hrem
            refine he x y hx hfb hfe (withX F X w.m) σ3 G3 H3 ⟨Ls, e3.grow g3⟩ _ fun z G4 H4 g4 pz => ?_
            have g24 := g23.trans g4
            have hG4 : G4 D = none := g24.f D hnn hGD'
            refine ⟨acc, g24.h _ _ hHD', Nat.lt_of_le_of_lt hlen (Nat.lt_of_lt_of_le hi hz), G4, acc ++ [z], zs ++ [y], (e'.grow g24).updD hLD hG4 hFD, ?_, hG4, upd_same, ?_, ?_, ?_⟩
            · have q1 := gr'.trans g24
              exact ⟨q1.g, Gw.mut q1.h hD, Gw.mut q1.s hG4, q1.f⟩
            · rw [List.map_append]
              exact (hsat.m g24.g).snoc pz
            · rw [List.length_append]
              exact Nat.succ_le_succ hlen
            · cases hrest : lcM fb fe (xs.drop (i + 1)) with
              | none =>
                rw [hrest] at hrem
                cases hrem
              | some zr =>
                rw [hrest] at hrem
                rw [← hrem]
                show some (zs ++ [y] ++ zr) = some (zs ++ (y :: zr))
                rw [List.append_assoc] <;> rfl
    · rintro H' ⟨G', acc, zs, e', gr', hGD', hHD', hsat, hlen, hrem⟩
      rw [List.drop_length] at hrem
      have ez : zs = ys := by
        have : some (zs ++ []) = some ys := hrem
        rw [List.append_nil] at this
        exact Option.some.inj this
      subst ez
      refine q (.ref D) [D] G' H' (g1.trans gr') (fun a ha => ?_) ⟨D, .lst acc, rfl, rfl, hHD', acc, rfl, hsat, Nat.le_trans hlen hz⟩
      rw [List.mem_singleton.mp ha]
      exact ⟨g1.h.free hD, hGD', by rw [hHD']; exact fun z => nomatch z⟩
theorem w_lcY (Γx : α → Ctx) (fe : α → Option β) (h : EvI wi Γ r xs) (hz : xs.length ≤ sizeLine) (hg : ∀ x, EvG g js (wipeC Γ vs) (r x) (Γx x)) (hj : ∀ j ∈ js, j ∈ vs)
    (he : ∀ x y, x ∈ xs → fe x = some y → EvE te (Γx x) (rb y)) (hm : mapO fe xs = some ys) : EvW (tLc wi g tYes te vs) Γ (oL (ys.map rb)) :=
  w_lc Γx (fun _ => some true) fe h hz hg hj (fun x b _ hb => by cases hb; exact t_yes) (fun x y hx _ hy => he x y hx hy) (by rw [mapO_lc]; exact hm)
end
end Y

set_option Elab.async false
set_option linter.all false
set_option maxRecDepth 100000
namespace Y
open PySem L2
/-! ### dicts -/
section
variable {ρ τ : Type}
def putT (kvs : List (Key × ρ)) (k : Key) (v : ρ) : List (Key × ρ) :=
  if (kvs.any fun kv => decide (kv.1 = k)) = true then kvs.map (fun kv => if kv.1 = k then (kv.1, v) else kv) else kvs ++ [(k, v)]
def valT (kvs : List (Key × ρ)) (k : Key) : Option ρ := (kvs.find? fun kv => decide (kv.1 = k)).map (·.2)
abbrev rK (r : ρ → Pr) : Key × ρ → Key × Pr := fun kv => (kv.1, r kv.2)
theorem valT_map (r : ρ → τ) (k : Key) : ∀ kvs : List (Key × ρ), valT (kvs.map fun kv => (kv.1, r kv.2)) k = (valT kvs k).map r
  | [] => rfl
  | p :: q => by
    unfold valT
    rw [List.map_cons, List.find?_cons, List.find?_cons]
    by_cases h : p.1 = k
    · rw [decide_eq_true h] <;> rfl
    · rw [decide_eq_false h]
      exact valT_map r k q
theorem any_map (r : ρ → τ) (k : Key) (kvs : List (Key × ρ)) : ((kvs.map fun kv => (kv.1, r kv.2)).any fun kv => decide (kv.1 = k)) = kvs.any fun kv => decide (kv.1 = k) := by
  rw [List.any_map] <;> rfl
theorem putT_map (r : ρ → τ) (kvs : List (Key × ρ)) (k : Key) (v : ρ) : (putT kvs k v).map (fun kv => (kv.1, r kv.2)) = putT (kvs.map fun kv => (kv.1, r kv.2)) k (r v) := by
  unfold putT
  rw [any_map]
  by_cases h : (kvs.any fun kv => decide (kv.1 = k)) = true
  · rw [if_pos h, if_pos h, List.map_map, List.map_map]
    refine List.map_congr_left fun p _ => ?_
    show _ = if p.1 = k then _ else _
    by_cases z : p.1 = k
    · rw [if_pos z]
      show (fun kv : Key × ρ => (kv.1, r kv.2)) (if p.1 = k then (p.1, v) else p) = _
      rw [if_pos z]
    · rw [if_neg z]
      show (fun kv : Key × ρ => (kv.1, r kv.2)) (if p.1 = k then (p.1, v) else p) = _
      rw [if_neg z]
  · rw [if_neg h, if_neg h, List.map_append] <;> rfl
end
section
variable {H : Hp}
theorem SatK.any {k : Key} : ∀ {vs : List (Key × V)} {Ps : List (Key × Pr)}, SatK H vs Ps → (vs.any fun kv => decide (kv.1 = k)) = Ps.any fun kv => decide (kv.1 = k)
  | [], [], _ => rfl
  | _ :: _, _ :: _, h => by
    rw [List.any_cons, List.any_cons, h.1, SatK.any h.2.2]
  | [], _ :: _, h => h.elim
  | _ :: _, [], h => h.elim
theorem SatK.rep {k : Key} {v : V} {P : Pr} (p : P.p H v) : ∀ {vs : List (Key × V)} {Ps : List (Key × Pr)}, SatK H vs Ps → SatK H (vs.map fun kv => if kv.1 = k then (kv.1, v) else kv) (Ps.map fun kv => if kv.1 = k then (kv.1, P) else kv)
  | [], [], h => h
  | x :: _, y :: _, h => by
    refine ⟨?_, ?_, SatK.rep p h.2.2⟩
    · show (if x.1 = k then (x.1, v) else x).1 = (if y.1 = k then (y.1, P) else y).1
      rw [h.1]
      by_cases z : y.1 = k
      · rw [if_pos z, if_pos z]
      · rw [if_neg z, if_neg z]
        exact h.1
    · show (if y.1 = k then (y.1, P) else y).2.p H (if x.1 = k then (x.1, v) else x).2
      rw [h.1]
      by_cases z : y.1 = k
      · rw [if_pos z, if_pos z]
        exact p
      · rw [if_neg z, if_neg z]
        exact h.2.1
  | [], _ :: _, h => h.elim
  | _ :: _, [], h => h.elim
theorem SatK.snoc {k : Key} {v : V} {P : Pr} (p : P.p H v) : ∀ {vs : List (Key × V)} {Ps : List (Key × Pr)}, SatK H vs Ps → SatK H (vs ++ [(k, v)]) (Ps ++ [(k, P)])
  | [], [], _ => ⟨rfl, p, trivial⟩
  | _ :: _, _ :: _, h => ⟨h.1, h.2.1, SatK.snoc p h.2.2⟩
  | [], _ :: _, h => h.elim
  | _ :: _, [], h => h.elim
theorem SatK.put {k : Key} {v : V} {P : Pr} {vs : List (Key × V)} {Ps : List (Key × Pr)} (h : SatK H vs Ps) (p : P.p H v) : SatK H (putK vs k v) (putT Ps k P) := by
  unfold putK putT
  rw [h.any]
  by_cases z : (Ps.any fun kv => decide (kv.1 = k)) = true
  · rw [if_pos z, if_pos z]
    exact h.rep p
  · rw [if_neg z, if_neg z]
    exact h.snoc p
theorem SatK.val {k : Key} : ∀ {vs : List (Key × V)} {Ps : List (Key × Pr)}, SatK H vs Ps → (valT Ps k = none → valV vs k = none) ∧ ∀ P, valT Ps k = some P → ∃ v, valV vs k = some v ∧ P.p H v
  | [], [], _ => ⟨fun _ => rfl, fun P h => (by cases h)⟩
  | x :: vs, y :: Ps, h => by
    have ih := SatK.val (k := k) h.2.2
    unfold valT valV at ih ⊢
    rw [List.find?_cons, List.find?_cons, h.1]
    by_cases z : y.1 = k
    · rw [decide_eq_true z]
      refine ⟨fun q => (by cases q), fun P q => ⟨x.2, rfl, ?_⟩⟩
      cases q
      exact h.2.1
    · rw [decide_eq_false z]
      exact ih
  | [], _ :: _, h => h.elim
  | _ :: _, [], h => h.elim
theorem SatK.len : ∀ {vs : List (Key × V)} {Ps : List (Key × Pr)}, SatK H vs Ps → vs.length = Ps.length
  | [], [], _ => rfl
  | _ :: _, _ :: _, h => congrArg Nat.succ (SatK.len h.2.2)
  | [], _ :: _, h => h.elim
  | _ :: _, [], h => h.elim
end
section
variable {K : PySem.W.Frag} {Γ : Ctx} {te td ta tb tk tv : TE} {P : Pr} {Ps : List (Key × Pr)} {k : Key}
/-- what a key is -/
def pK (k : Key) : Pr := ⟨fun _ v => v = kV k, fun _ h => h⟩
theorem k_I {i : Int} (h : EvE te Γ (pI i)) : EvE te Γ (pK (.inl i)) := h
theorem k_S {s : Str} (h : EvE te Γ (pS s)) : EvE te Γ (pK (.inr s)) := h
theorem e_dIn (hk : EvE te Γ (pK k)) (hd : EvE td Γ (pD Ps)) : EvE (tDIn te td) Γ (pB (valT Ps k).isSome) := fun F σ G H e Q q =>
  hk F σ G H e _ fun v G1 H1 g1 p1 => hd F σ G1 H1 (e.grow g1) _ fun x G2 H2 g2 ⟨a, ob, h1, h2, vs, h3, h4⟩ => by
    subst h1 h3
    have p1' : v = kV k := p1
    subst p1'
    refine ⟨a, _, rfl, DGet.k (g2.s _ _ h2), q _ G2 H2 (g1.trans g2) (congrArg V.bl ?_)⟩
    have q := h4.val (k := k)
    cases z : valT Ps k with
    | none => rw [q.1 z] <;> rfl
    | some P =>
      obtain ⟨v, h, _⟩ := q.2 P z
      rw [h] <;> rfl
theorem e_dNotIn (hk : EvE te Γ (pK k)) (hd : EvE td Γ (pD Ps)) : EvE (tDNotIn te td) Γ (pB (!(valT Ps k).isSome)) := fun F σ G H e Q q =>
  hk F σ G H e _ fun v G1 H1 g1 p1 => hd F σ G1 H1 (e.grow g1) _ fun x G2 H2 g2 ⟨a, ob, h1, h2, vs, h3, h4⟩ => by
    subst h1 h3
    have p1' : v = kV k := p1
    subst p1'
    refine ⟨a, _, rfl, DGet.k (g2.s _ _ h2), q _ G2 H2 (g1.trans g2) (congrArg V.bl ?_)⟩
    have q := h4.val (k := k)
    cases z : valT Ps k with
    | none => rw [q.1 z] <;> rfl
    | some P =>
      obtain ⟨v, h, _⟩ := q.2 P z
      rw [h] <;> rfl
theorem e_dGet (hd : EvE td Γ (pD Ps)) (hk : EvE te Γ (pK k)) (h : valT Ps k = some P) : EvE (tDGet td te) Γ P := fun F σ G H e Q q =>
  hd F σ G H e _ fun x G1 H1 g1 ⟨a, ob, h1, h2, vs, h3, h4⟩ => hk F σ G1 H1 (e.grow g1) _ fun v G2 H2 g2 p2 => by
    subst h1 h3
    have p2' : v = kV k := p2
    subst p2'
    obtain ⟨w, h5, h6⟩ := ((h4.m g2.g).val (k := k)).2 P h
    refine ⟨a, w, rfl, ?_, q w G2 H2 (g1.trans g2) h6⟩
    rw [← h5]
    exact DGet.k (g2.s _ _ (g2.g _ _ h2))
/-- {k: v for x in xs} -/
def dcM {α β : Type} (fb : α → Option Bool) (fk : α → Option Key) (fv : α → Option β) : List (Key × β) → List α → Option (List (Key × β))
  | acc, [] => some acc
  | acc, x :: xs => match fb x with
    | none => none
    | some false => dcM fb fk fv acc xs
    | some true => match fk x, fv x with
      | some k, some v => dcM fb fk fv (putT acc k v) xs
      | _, _ => none
theorem e_dc {α β : Type} {r : α → Pr} {rb : β → Pr} {xs : List α} {kvs : List (Key × β)} {wi : TI} {g : TG} {js vs : List Nat} {tt : TT} (Γx : α → Ctx) (fb : α → Option Bool) (fk : α → Option Key) (fv : α → Option β) (h : EvI wi Γ r xs) (hz : xs.length ≤ sizeLine) (hg : ∀ x, EvG g js (wipeC Γ vs) (r x) (Γx x)) (hj : ∀ j ∈ js, j ∈ vs)
    (ht : ∀ x b, x ∈ xs → fb x = some b → EvT tt (Γx x) b) (hk : ∀ x k, x ∈ xs → fb x = some true → fk x = some k → EvE tk (Γx x) (pK k)) (hv : ∀ x y, x ∈ xs → fb x = some true → fv x = some y → EvE tv (Γx x) (rb y)) (hm : dcM fb fk fv [] xs = some kvs) :
    EvW (tDc wi g tt tk tv vs) Γ (oD (kvs.map (rK rb))) := fun F σ G H e Q q =>
  h F σ G H e _ fun J X G1 H1 g1 w x1 => fun D hD => by
    obtain ⟨Gc, Y, wk, k1, k2⟩ := w.ex
    obtain ⟨Ls0, e0⟩ := e.grow g1
    obtain ⟨Ls, e1, hLs⟩ := e0.norm
    have hLD : ∀ i a, a ∈ Ls i → a ≠ D := fun i a ha z => hLs i a ha (z ▸ hD)
    have hGD : G1 D = none := e1.gr.s.free hD
    have hFD : F.H D = none := e1.gr.h.free hD
    have main : ∃ W : Nat → Nat → Hp → Prop, (∃ m, W 0 m (upd H1 D (.dK []))) ∧ ∀ i m H, W i m H → (J.stop i H ∧ Q (.ref D) H) ∨ (J.go i H ∧ ∃ Nx : Hp → Prop, (∀ H', Nx H' → ∃ m', m' < m ∧ W (i + 1) m' H') ∧ ∀ x H', J.yld i H x H' → g x (L2.wipe σ vs) H' fun σ2 H2 => L2.wipe σ2 vs = L2.wipe σ vs ∧ tt σ2 H2 fun b H3 =>
      if b = true then tk σ2 H3 fun y H4 => tv σ2 H4 fun z H5 => ∃ kvs k, y = kV k ∧ H5 D = some (.dK kvs) ∧ kvs.length < sizeLine ∧ Nx (upd H5 D (.dK (putK kvs k z))) else Nx H3) := by
      refine ⟨fun i m H' => m = xs.length - i ∧ i ≤ xs.length ∧ ∃ G' acc zs, EOk1 (withX F X w.m) (wipeC Γ vs) (L2.wipe σ vs) G' H' Ls ∧ Gr G1 H1 G' H' ∧ G' D = none ∧ H' D = some (.dK acc) ∧ SatK G' acc (zs.map (rK rb)) ∧ acc.length ≤ i ∧ dcM fb fk fv zs (xs.drop i) = some kvs,
        ⟨xs.length, by simp, Nat.zero_le _, G1, [], [], ((e1.withX x1).wipe vs).updD hLD hGD hFD, Gr.lay g1.s hD, hGD, upd_same, (by show SatK G1 [] ([] : List (Key × Pr)); trivial), Nat.le_refl _, by rw [List.drop_zero]; exact hm⟩, ?_⟩
      rintro i m H' ⟨rfl, hi, G', acc, zs, e', gr', hGD', hHD', hsat, hlen, hrem⟩
      have gc := k1 G' H' e'.x.2 e'.gr.s
      by_cases hlt : i < xs.length
      · refine .inr ⟨wk.goes i H' hlt gc, fun H2 => i + 1 ≤ xs.length ∧ ∃ G' acc zs, EOk1 (withX F X w.m) (wipeC Γ vs) (L2.wipe σ vs) G' H2 Ls ∧ Gr G1 H1 G' H2 ∧ G' D = none ∧ H2 D = some (.dK acc) ∧ SatK G' acc (zs.map (rK rb)) ∧ acc.length ≤ i + 1 ∧ dcM fb fk fv zs (xs.drop (i + 1)) = some kvs,
          fun H2 h2 => ⟨xs.length - (i + 1), by omega, rfl, h2.1, h2.2⟩, fun v H2 hy => ?_⟩
        obtain ⟨G2, x, g2, xi, px⟩ := k2 i G' H' v H2 e'.x.2 e'.gr.s hlt (wk.yields i H' v H2 hlt gc hy)
        have hx : x ∈ xs := List.mem_of_getElem? xi
        rw [drop_cons xi] at hrem
        have hnn : H' D ≠ none := by rw [hHD']; exact fun z => nomatch z
        refine hg x (withX F X w.m) (L2.wipe σ vs) G2 H2 Ls v (e'.grow g2) px _ fun σ3 e3 hw => ⟨(hw vs hj).trans (wipe_wipe vs fun _ h => h), ?_⟩
        unfold dcM at hrem
        cases hfb : fb x with
        | none =>
          rw [hfb] at hrem
          cases hrem
        | some b =>
          refine ht x b hx hfb (withX F X w.m) σ3 G2 H2 ⟨Ls, e3⟩ _ fun G3 H3 g3 => ?_
          rw [hfb] at hrem
          have g23 := g2.trans g3
          cases b with
          | false =>
            show i + 1 ≤ xs.length ∧ ∃ G' acc zs, _
            exact ⟨hlt, G3, acc, zs, e'.grow g23, gr'.trans g23, g23.f D hnn hGD', g23.h _ _ hHD', hsat.m g23.g, Nat.le_succ_of_le hlen, hrem⟩
          | true =>
            show tk σ3 H3 _
            cases hfk : fk x with
            | none =>
              simp only [hfk] at hrem
              cases hrem
            | some k =>
              cases hfv : fv x with
              | none =>
                simp only [hfk, hfv] at hrem
                cases hrem
              | some y =>
                simp only [hfk, hfv] at hrem
                refine hk x k hx hfb hfk (withX F X w.m) σ3 G3 H3 ⟨Ls, e3.grow g3⟩ _ fun z G4 H4 g4 pz => ?_
                refine hv x y hx hfb hfv (withX F X w.m) σ3 G4 H4 ⟨Ls, (e3.grow g3).grow g4⟩ _ fun u G5 H5 g5 pu => ?_
                have g25 := (g23.trans g4).trans g5
                have hG5 : G5 D = none := g25.f D hnn hGD'
                refine ⟨acc, k, pz, g25.h _ _ hHD', Nat.lt_of_le_of_lt hlen (Nat.lt_of_lt_of_le hlt hz), hlt, G5, putK acc k u, putT zs k y, (e'.grow g25).updD hLD hG5 hFD, ?_, hG5, upd_same, ?_, ?_, hrem⟩
                · have q1 := gr'.trans g25
                  exact ⟨q1.g, Gw.mut q1.h hD, Gw.mut q1.s hG5, q1.f⟩
                · rw [show (putT zs k y).map (rK rb) = putT (zs.map (rK rb)) k (rb y) from putT_map rb zs k y]
                  exact (hsat.m g25.g).put pu
                · have := length_putK acc k u
                  omega
      · have ei : i = xs.length := by omega
        subst ei
        refine .inl ⟨wk.stops H' gc, ?_⟩
        rw [List.drop_length] at hrem
        have ez : zs = kvs := Option.some.inj hrem
        subst ez
        refine q (.ref D) [D] G' H' (g1.trans gr') (fun a ha => ?_) ⟨D, .dK acc, rfl, rfl, hHD', acc, rfl, hsat⟩
        rw [List.mem_singleton.mp ha]
        exact ⟨g1.h.free hD, hGD', by rw [hHD']; exact fun z => nomatch z⟩
    exact main
end
/-! ### defs -/
/-- a promise that changes nothing: R tells what the arguments are and what is handed back -/
def spR (R : List Pr → Pr → Prop) : Sp := fun vs H Q _ => ∃ Ps P G, R Ps P ∧ Gw G H ∧ Sat G vs Ps ∧ ∀ v G' H', Gr G H G' H' → P.p G' v → Q v H'
def ctx0 (n : Nat) (Ps : List Pr) : Ctx := Ps.map Slot.val ++ List.replicate (n - Ps.length) Slot.any
theorem sat_start {H : Hp} {vs : List V} {Ps : List Pr} (s : Sat H vs Ps) {i : Nat} {P : Pr} (h : Ps[i]? = some P) : ∃ v, vs[i]? = some v ∧ P.p H v := s.get h
theorem eok_start {G H : Hp} {vs : List V} {Ps : List Pr} {N : List Str} (s : Gw G H) (st : Sat G vs Ps) (hn : Ps.length ≤ N.length) : EOk ⟨G, H, fun _ => True, fun _ h => h⟩ (ctx0 N.length Ps) (L2.start N vs) G H := by
  have lv := st.len
  have nown : ∀ {i : Nat} {W : Ow}, (ctx0 N.length Ps)[i]? = some (.own W) → False := fun {i W} h => by
    unfold ctx0 at h
    have m := List.mem_of_getElem? h
    rcases List.mem_append.mp m with m | m
    · obtain ⟨_, _, z⟩ := List.mem_map.mp m
      cases z
    · cases List.eq_of_mem_replicate m
  refine ⟨fun _ => [], Gr.refl s, trivial, ?_, fun i sl h => ?_, fun i W h => (nown h).elim, fun i j W W' h => (nown h).elim⟩
  · unfold L2.start ctx0
    rw [List.length_append, List.length_append, List.length_map, List.length_map, List.length_replicate, List.length_replicate, lv]
  · unfold ctx0 at h
    by_cases hi : i < Ps.length
    · rw [List.getElem?_append_left (by rw [List.length_map]; exact hi), List.getElem?_map, List.getElem?_eq_getElem hi] at h
      cases h
      obtain ⟨v, h1, h2⟩ := st.get (List.getElem?_eq_getElem hi)
      have e : (L2.start N vs)[i]? = some (some v) := by
        unfold L2.start
        rw [List.getElem?_append_left (by rw [List.length_map, lv]; exact hi), List.getElem?_map, h1]
        rfl
      rw [e]
      exact h2
    · rw [List.getElem?_append_right (by rw [List.length_map]; omega)] at h
      have := List.eq_of_mem_replicate (List.mem_of_getElem? h)
      subst this
      trivial
section
variable {P : Program} {w : World} {K : PySem.W.Frag} {mg : Str → Option Value} {base : Heap} {x qual : Str} {params : Arguments} {body : List Stmt} {scope : Scope} {dvs : List V} {kws : List (Str × V)} {f : Addr} {fd : FuncData}
theorem fn_R {N ps : List Str} {k : Nat} {R : List Pr → Pr → Prop} (F : FunD K x qual params body scope dvs kws f fd) (S : FnScope N ps scope) (hl : ∀ Ps Q, R Ps Q → Ps.length = ps.length) (hn : ps.length ≤ N.length)
    (hb : ∀ (cdv : Value) (A : Around) (outer : List Env) (s : Shared) (H : Hp) (E : XK), Room k (A.deeper (PyProof.Rows.envOfC qual scope s.heap.objs.size f cdv)) →
      ∃ t, PSs (cxOf CX0 P w K mg base N qual scope f cdv A outer s H E).nox body t ∧ ∀ Ps Q, R Ps Q → StS t (ctx0 N.length Ps) (.rt Q)) : FnOk P w K mg base CX0 (k + 1) f fd ps (spR R) := by
  refine F.ok S (fun vs H Q E ⟨Ps, Pq, G, h1, h2, h3, _⟩ => h3.len.trans (hl Ps Pq h1)) fun cdv A outer s H vs Q E hr ⟨Ps, Pq, G, h1, h2, h3, h4⟩ => ?_
  obtain ⟨t, ht, hs⟩ := hb cdv A outer s H E hr
  refine ⟨t, ht.nox, hs Ps Pq h1 _ (L2.start N vs) G H _ (eok_start h2 h3 (by rw [hl Ps Pq h1]; exact hn)) fun v G' H' g p => h4 v G' H' g p⟩
end
section
variable {X : Cx} {K : PySem.W.Frag} {Γ : Ctx} {ta : TE} {tas tk : TA} {Ps Ds Os Zs : List Pr} {P : Pr} {R : List Pr → Pr → Prop} {dvs : List V} {E : XK} {C : Addr} {m : Str} {ns : List Str}
/-- what the defaults are, whatever the heap -/
def Dfl (dvs : List V) (Ds : List Pr) : Prop := ∀ H, Sat H dvs Ds
theorem e_call (h : EvA tas Γ Ps) (hd : Dfl dvs Ds) (hR : R (Ps ++ Ds) P) : EvE (tCall (spR R) dvs E tas) Γ P := fun F σ G H e Q q =>
  h F σ G H e _ fun vs G1 H1 g1 s1 => ⟨_, P, G1, hR, g1.s, s1.app (hd G1), fun v G2 H2 g2 p2 => q v G2 H2 (g1.trans g2) p2⟩
theorem e_call0 (h : EvA tas Γ Ps) (hR : R Ps P) : EvE (tCall (spR R) [] E tas) Γ P := e_call (Ds := []) h (fun _ => trivial) (by rw [List.append_nil]; exact hR)
theorem lookup_none {f : Str} : ∀ {ns : List Str} {vs : List V}, f ∉ ns → (ns.zip vs).lookup f = none
  | [], _, _ => rfl
  | _ :: _, [], _ => rfl
  | n :: ns, v :: vs, h => by
    have ne : (f == n) = false := beq_eq_false_iff_ne.mpr fun z => h (z ▸ List.mem_cons_self)
    rw [List.zip_cons_cons, List.lookup_cons, ne]
    exact lookup_none fun z => h (List.mem_cons_of_mem _ z)
theorem e_meth (ho : EvE ta Γ (pO C ns Os)) (hm : m ∉ ns) (h : EvA tas Γ Ps) (hd : Dfl dvs Ds) (hR : R (pO C ns Os :: (Ps ++ Ds)) P) : EvE (tMeth C m (spR R) dvs E ta tas) Γ P := fun F σ G H e Q q =>
  ho F σ G H e _ fun x G1 H1 g1 p1 => by
    obtain ⟨a, ob, h1, h2, dx, vs, h3, h4⟩ := id p1
    subst h1 h3
    exact ⟨a, dx, _, rfl, g1.s _ _ h2, lookup_none hm, h F σ G1 H1 (e.grow g1) _ fun vs G2 H2 g2 s2 => ⟨_, P, G2, hR, g2.s, ⟨(pO C ns Os).m g2.g p1, s2.app (hd G2)⟩, fun v G3 H3 g3 p3 => q v G3 H3 ((g1.trans g2).trans g3) p3⟩⟩
theorem e_meth0 (ho : EvE ta Γ (pO C ns Os)) (hm : m ∉ ns) (h : EvA tas Γ Ps) (hR : R (pO C ns Os :: Ps) P) : EvE (tMeth C m (spR R) [] E ta tas) Γ P := e_meth (Ds := []) ho hm h (fun _ => trivial) (by rw [List.append_nil]; exact hR)
/-! ### new objects -/
def delH (H : Hp) (x : Addr) : Hp := fun a => if a = x then none else H a
theorem delH_ne {H : Hp} {x a : Addr} (h : a ≠ x) : delH H x a = H a := if_neg h
theorem delH_same {H : Hp} {x : Addr} : delH H x x = none := if_pos rfl
/-- what an __init__ promises: R tells the arguments and the fields -/
def spI (C : Addr) (ns : List Str) (R : List Pr → List Pr → Prop) : Sp := fun vs H Q _ => ∃ x dx ws Ps Qs G, vs = .ref x :: ws ∧ H x = some (.ins C dx []) ∧ G x = none ∧ Gw G H ∧ R Ps Qs ∧ Sat G ws Ps ∧
  ∀ us dx' G' H', Gr G (delH H x) G' H' → G' x = none → H' x = some (.ins C dx' (ns.zip us)) → Sat G' us Qs → Q .non H'
theorem make_end {G H G1 H1 G' H' : Hp} {x dx dx' : Addr} {us : List V} {Qs : List Pr} (g1 : Gr G H G1 H1) (hx : H1 x = none) (hd : H1 dx = none) (g : Gr G1 (delH (upd (upd H1 dx (.own x)) x (.ins C dx [])) x) G' H') (h1 : G' x = none) (h2 : H' x = some (.ins C dx' (ns.zip us))) (h3 : Sat G' us Qs) :
    Gr G H (upd G' x (.ins C dx' (ns.zip us))) H' ∧ (pO C ns Qs).p (upd G' x (.ins C dx' (ns.zip us))) (.ref x) := by
  have gn : Gw G' (upd G' x (.ins C dx' (ns.zip us))) := Gw.new h1
  refine ⟨g1.trans ⟨g.g.trans gn, fun a o e => ?_, fun a o e => ?_, fun a ha ga => ?_⟩, x, _, rfl, upd_same, dx', us, rfl, h3.m gn⟩
  · refine g.h a o ?_
    have n1 : a ≠ x := ne_of_none e hx
    have n2 : a ≠ dx := ne_of_none e hd
    rw [delH_ne n1, upd_ne n1, upd_ne n2]
    exact e
  · by_cases z : a = x
    · subst z
      rw [upd_same] at e
      cases e
      exact h2
    · rw [upd_ne z] at e
      exact g.s a o e
  · have n1 : a ≠ x := fun z => ha (z ▸ hx)
    have n2 : a ≠ dx := fun z => ha (z ▸ hd)
    rw [upd_ne n1]
    refine g.f a ?_ ga
    rw [delH_ne n1, upd_ne n1, upd_ne n2]
    exact ha
theorem gw_made {G H : Hp} {x dx : Addr} (s : Gw G H) (hx : H x = none) (hd : H dx = none) : Gw G (upd (upd H dx (.own x)) x (.ins C dx [])) := fun a o e => by
  have e1 := s a o e
  rw [upd_ne (ne_of_none e1 hx), upd_ne (ne_of_none e1 hd)]
  exact e1
theorem e_make {Qs : List Pr} {RI : List Pr → List Pr → Prop} (h : EvA tas Γ Ps) (hd : Dfl dvs Ds) (hR : RI (Ps ++ Ds) Qs) : EvE (tMake C (spI C ns RI) dvs E tas) Γ (pO C ns Qs) := fun F σ G H e Q q =>
  h F σ G H e _ fun vs G1 H1 g1 s1 => fun x dx hx hdx ne => by
    refine ⟨x, dx, vs ++ dvs, Ps ++ Ds, Qs, G1, rfl, upd_same, g1.s.free hx, gw_made g1.s hx hdx, hR, s1.app (hd G1), fun us dx' G' H' g h1 h2 h3 => ⟨rfl, ?_⟩⟩
    obtain ⟨k1, k2⟩ := make_end g1 hx hdx g h1 h2 h3
    exact q _ _ H' k1 k2
theorem e_make0 {Qs : List Pr} {RI : List Pr → List Pr → Prop} (h : EvA tas Γ Ps) (hR : RI Ps Qs) : EvE (tMake C (spI C ns RI) [] E tas) Γ (pO C ns Qs) := e_make (Ds := []) h (fun _ => trivial) (by rw [List.append_nil]; exact hR)
/-- with keywords: gV puts the values in the parameters' order -/
theorem e_makeK {Qs Ws : List Pr} {RI : List Pr → List Pr → Prop} {n m : Nat} {gV : List V → List V → List V} (h : EvA tas Γ Ps) (hk : EvA tk Γ Zs) (hn : Ps.length = n) (hm : Zs.length = m)
    (hg : ∀ x vs zs G, Sat G vs Ps → Sat G zs Zs → ∃ ws, gV (.ref x :: vs) zs = .ref x :: ws ∧ Sat G ws Ws) (hR : RI Ws Qs) : EvE (tMakeK C n m (spI C ns RI) gV E tas tk) Γ (pO C ns Qs) := fun F σ G H e Q q =>
  h F σ G H e _ fun vs G1 H1 g1 s1 => hk F σ G1 H1 (e.grow g1) _ fun zs G2 H2 g2 s2 => by
    refine ⟨s1.len.trans hn, s2.len.trans hm, fun x dx hx hdx ne => ?_⟩
    obtain ⟨ws, e1, e2⟩ := hg x vs zs G2 (s1.m g2.g) s2
    refine ⟨x, dx, ws, Ws, Qs, G2, e1, upd_same, g2.s.free hx, gw_made g2.s hx hdx, hR, e2, fun us dx' G' H' g h1 h2 h3 => ⟨rfl, ?_⟩⟩
    obtain ⟨k1, k2⟩ := make_end (g1.trans g2) hx hdx g h1 h2 h3
    exact q _ _ H' k1 k2
end
/-! ### the body of an __init__ -/
theorem zip_snoc {f : Str} {y : V} : ∀ {ns : List Str} {vs : List V}, f ∉ ns → ns.length = vs.length → putF f y (ns.zip vs) = (ns ++ [f]).zip (vs ++ [y])
  | [], [], _, _ => rfl
  | n :: ns, v :: vs, h, l => by
    have ne : ¬ n = f := fun z => h (z ▸ List.mem_cons_self)
    have ih := zip_snoc (y := y) (fun z => h (List.mem_cons_of_mem _ z)) (Nat.succ.inj l)
    show putF f y ((n, v) :: ns.zip vs) = (n, v) :: (ns ++ [f]).zip (vs ++ [y])
    unfold putF
    rw [if_neg ne, ih]
  | [], _ :: _, _, l => nomatch l
  | _ :: _, [], _, l => nomatch l
end Y

set_option Elab.async false
set_option linter.all false
set_option maxRecDepth 100000
namespace Y
open PySem L2
/-! ### an object at a known place, being filled -/
def oX (x : Addr) (W : Hp → HO → Prop) (m : ∀ {G G' : Hp} {o : HO}, Gw G G' → W G o → W G' o) : Ow :=
  ⟨fun G H v L => v = .ref x ∧ L = [x] ∧ ∃ o, H x = some o ∧ W G o, fun e k ⟨h1, h2, o, h3, h4⟩ => ⟨h1, h2, o, by rw [k x (by rw [h2]; exact List.mem_singleton.mpr rfl)]; exact h3, m e h4⟩⟩
def oS (x C : Addr) (ns : List Str) (Ps : List Pr) : Ow := oX x (wO C ns Ps) wO.m
section
variable {K : PySem.W.Frag} {Γ : Ctx} {te : TE} {P : Pr} {Ps : List Pr} {C x : Addr} {ns : List Str} {f : Str} {i : Nat}
theorem zip_len {vs : List V} (l : ns.length = vs.length) : (ns.zip vs).length = ns.length := by
  rw [List.length_zip, l, Nat.min_self]
/-- self.f = e, a new field -/
theorem s_setF (c : Cls K C) (n : NoAttr K C f) (hi : Γ[i]? = some (.own (oS x C ns Ps))) (hf : f ∉ ns) (hl : ns.length = Ps.length ∧ ns.length < 1000) (h : EvE te Γ P) : StS (sFld K (tVar i) te f) Γ (.nx (Γ.set i (.own (oS x C (ns ++ [f]) (Ps ++ [P]))))) := fun F σ G H D e g =>
  h F σ G H e _ fun v G1 H1 g1 p1 => by
    obtain ⟨Ls, e1⟩ := e.grow g1
    obtain ⟨w, h1, h2, h3, ob, h4, dx, vs, h5, h6⟩ := (e1.at_ i _ hi).own_
    subst h2 h5
    have lv : ns.length = vs.length := hl.1.trans h6.len.symm
    refine ⟨_, h1, x, C, dx, _, rfl, h4, c, n, by rw [zip_len lv]; exact hl.2, g σ G1 _ ?_⟩
    refine e1.mut (L := [x]) hi h1 (fun b hb _ => upd_ne fun z => hb (by rw [h3, z]; exact List.mem_singleton.mpr rfl)) ⟨rfl, rfl, _, upd_same, dx, vs ++ [v], ?_, h6.snoc p1⟩ (fun b hb => .inl (h3 ▸ hb)) (fun b hb => ?_)
    · rw [zip_snoc hf lv]
    · rw [List.mem_singleton.mp hb, upd_same]
      exact fun z => nomatch z
theorem zip_set {y : V} : ∀ {ns : List Str} {vs : List V} {j : Nat}, ns.Nodup → ns[j]? = some f → ns.length = vs.length → putF f y (ns.zip vs) = ns.zip (vs.set j y)
  | [], _, _, _, h, _ => by simp at h
  | n :: ns, v :: vs, 0, _, h, _ => by
    simp at h
    subst h
    show putF n y ((n, v) :: ns.zip vs) = (n, y) :: ns.zip vs
    unfold putF
    rw [if_pos rfl]
  | n :: ns, v :: vs, j + 1, nd, h, l => by
    have h' : ns[j]? = some f := by simpa using h
    have ne : ¬ n = f := fun z => (List.nodup_cons.mp nd).1 (z ▸ List.mem_of_getElem? h')
    show putF f y ((n, v) :: ns.zip vs) = (n, v) :: ns.zip (vs.set j y)
    unfold putF
    rw [if_neg ne, zip_set (List.nodup_cons.mp nd).2 h' (Nat.succ.inj l)]
  | _ :: _, [], _, _, _, l => nomatch l
/-- self.f = e, a field that stands -/
theorem s_setF2 {j : Nat} (c : Cls K C) (n : NoAttr K C f) (hi : Γ[i]? = some (.own (oS x C ns Ps))) (nd : ns.Nodup) (hf : ns[j]? = some f) (hl : ns.length = Ps.length ∧ ns.length < 1000) (h : EvE te Γ P) : StS (sFld K (tVar i) te f) Γ (.nx (Γ.set i (.own (oS x C ns (Ps.set j P))))) := fun F σ G H D e g =>
  h F σ G H e _ fun v G1 H1 g1 p1 => by
    obtain ⟨Ls, e1⟩ := e.grow g1
    obtain ⟨w, h1, h2, h3, ob, h4, dx, vs, h5, h6⟩ := (e1.at_ i _ hi).own_
    subst h2 h5
    have lv : ns.length = vs.length := hl.1.trans h6.len.symm
    refine ⟨_, h1, x, C, dx, _, rfl, h4, c, n, by rw [zip_len lv]; exact hl.2, g σ G1 _ ?_⟩
    refine e1.mut (L := [x]) hi h1 (fun b hb _ => upd_ne fun z => hb (by rw [h3, z]; exact List.mem_singleton.mpr rfl)) ⟨rfl, rfl, _, upd_same, dx, vs.set j v, ?_, Sat.set p1 j h6⟩ (fun b hb => .inl (h3 ▸ hb)) (fun b hb => ?_)
    · rw [zip_set nd hf lv]
    · rw [List.mem_singleton.mp hb, upd_same]
      exact fun z => nomatch z
/-- self.f -/
theorem e_fldS {j : Nat} (c : Cls K C) (n : NoAttr K C f) (nd : ns.Nodup) (hj : ns[j]? = some f) (hP : Ps[j]? = some P) (hi : Γ[i]? = some (.own (oS x C ns Ps))) : EvE (tFld K (tVar i) f) Γ P := fun F σ G H e Q q => by
  obtain ⟨Ls, e1⟩ := e
  obtain ⟨w, h1, h2, h3, ob, h4, dx, vs, h5, h6⟩ := (e1.at_ i _ hi).own_
  subst h2 h5
  obtain ⟨u, k1, k2⟩ := h6.get hP
  exact ⟨_, h1, x, C, dx, _, u, rfl, h4, c, n, lookup_zip nd hj k1, q u G H (Gr.refl e1.gr.s) k2⟩
end
def ctxI (n : Nat) (x C : Addr) (Ps : List Pr) : Ctx := .own (oS x C [] []) :: ctx0 n Ps
theorem eok_startI {G H : Hp} {x C dx : Addr} {vs : List V} {Ps : List Pr} {N : List Str} {y : Str} (s : Gw G H) (hx : H x = some (.ins C dx [])) (gx : G x = none) (st : Sat G vs Ps) (hn : Ps.length ≤ N.length) :
    EOk ⟨G, delH H x, fun _ => True, fun _ h => h⟩ (ctxI N.length x C Ps) (L2.start (y :: N) (.ref x :: vs)) G H := by
  have sd : Gw G (delH H x) := fun a o e => by
    rw [delH_ne (ne_of_none e gx)]
    exact s a o e
  obtain ⟨Ls, e⟩ := eok_start (N := N) sd st hn
  have es : L2.start (y :: N) (.ref x :: vs) = some (.ref x) :: L2.start N vs := by
    unfold L2.start
    rw [List.map_cons, List.length_cons, List.length_cons, Nat.add_sub_add_right] <;> rfl
  have nown : ∀ {i : Nat} {W : Ow}, (ctx0 N.length Ps)[i]? = some (.own W) → False := fun {i W} h => by
    unfold ctx0 at h
    have m := List.mem_of_getElem? h
    rcases List.mem_append.mp m with m | m
    · obtain ⟨_, _, z⟩ := List.mem_map.mp m
      cases z
    · cases List.eq_of_mem_replicate m
  rw [es]
  refine ⟨fun _ => [x], ⟨Gw.refl G, fun a o e => ?_, s, fun _ _ h => h⟩, trivial, congrArg Nat.succ e.len, fun i sl h => ?_, fun i W h a ha => ?_, fun i j W W' h h' ne => ?_⟩
  · have e : delH H x a = some o := e
    by_cases z : a = x
    · rw [z, delH_same] at e
      cases e
    · rw [delH_ne z] at e
      exact e
  · cases i with
    | zero =>
      cases h
      exact ⟨rfl, rfl, _, hx, dx, [], rfl, trivial⟩
    | succ i =>
      have h' : (ctx0 N.length Ps)[i]? = some sl := by simpa [ctxI] using h
      have q := e.at_ i sl h'
      cases sl with
      | any => trivial
      | val P =>
        obtain ⟨v, q1, q2⟩ := q.val_
        show SlotOk G H [x] (.val P) (some (V.ref x) :: L2.start N vs)[i + 1]?
        rw [List.getElem?_cons_succ, q1]
        exact q2
      | own W => exact (nown h').elim
  · rw [List.mem_singleton.mp ha]
    exact ⟨gx, delH_same, by rw [hx]; exact fun z => nomatch z⟩
  · cases i with
    | succ i => exact (nown (by simpa [ctxI] using h)).elim
    | zero =>
      cases j with
      | zero => exact absurd rfl ne
      | succ j => exact (nown (by simpa [ctxI] using h')).elim
section
variable {P : Program} {w : World} {K : PySem.W.Frag} {mg : Str → Option Value} {base : Heap} {x qual : Str} {params : Arguments} {body : List Stmt} {scope : Scope} {dvs : List V} {kws : List (Str × V)} {f : Addr} {fd : FuncData}
theorem fn_I {N ps : List Str} {y : Str} {k : Nat} {C : Addr} {ns : List Str} {R : List Pr → List Pr → Prop} (F : FunD K x qual params body scope dvs kws f fd) (S : FnScope (y :: N) ps scope) (hl : ∀ Ps Q, R Ps Q → Ps.length + 1 = ps.length) (hn : ps.length ≤ N.length + 1)
    (hb : ∀ (cdv : Value) (A : Around) (outer : List Env) (s : Shared) (H : Hp) (E : XK), Room k (A.deeper (PyProof.Rows.envOfC qual scope s.heap.objs.size f cdv)) →
      ∃ t, PSs (cxOf CX0 P w K mg base (y :: N) qual scope f cdv A outer s H E).nox body t ∧ ∀ z Ps Qs, R Ps Qs → ∃ Γ', StS t (ctxI N.length z C Ps) (.nx Γ') ∧ Γ'[0]? = some (.own (oS z C ns Qs))) : FnOk P w K mg base CX0 (k + 1) f fd ps (spI C ns R) := by
  refine F.ok S (fun vs H Q E ⟨z, dx, ws, Ps, Qs, G, h1, _, _, _, h5, h6, _⟩ => ?_) fun cdv A outer s H vs Q E hr ⟨z, dx, ws, Ps, Qs, G, h1, h2, h3, h4, h5, h6, h7⟩ => ?_
  · subst h1
    show ws.length + 1 = _
    rw [h6.len]
    exact hl _ _ h5
  · subst h1
    obtain ⟨t, ht, hs⟩ := hb cdv A outer s H E hr
    obtain ⟨Γ', hs, h0⟩ := hs z Ps Qs h5
    refine ⟨t, ht.nox, hs _ _ G H _ (eok_startI h4 h2 h3 h6 ?_) ?_⟩
    · have := hl _ _ h5
      omega
    · rintro σ' G' H' ⟨Ls, e⟩
      obtain ⟨v, k1, k2, k3, ob, k4, dx', us, k5, k6⟩ := (e.at_ 0 _ h0).own_
      subst k5
      exact h7 us dx' G' H' e.gr (e.fr 0 _ h0 z (by rw [k3]; exact List.mem_singleton.mpr rfl)).1 k4 k6
end
/-! ### operations that may fail, for the mirrors -/
def fdivM (i j : Int) : Option Int := if 0 < j ∧ j < 1073741824 then some (i / j) else none
def modM (i j : Int) : Option Int := if 0 < j then some (i % j) else none
def mulM (i j : Int) : Option Int := if (-(2 ^ 64) < i ∧ i < 2 ^ 64) ∨ (-(2 ^ 64) < j ∧ j < 2 ^ 64) then some (i * j) else none
def shlM (i j : Int) : Option Int := if 0 ≤ j ∧ j ≤ 1000000 ∧ i.natAbs < 2 ^ 64 then some (i * 2 ^ j.toNat) else none
def shrM (i j : Int) : Option Int := if 0 ≤ j then some (i / 2 ^ j.toNat) else none
def rngM (n : Int) : Option (List Int) := if -(2 ^ 62) ≤ n ∧ n < 2 ^ 62 then some (rangeI 0 n.toNat) else none
def rng2M (m n : Int) : Option (List Int) := if -(2 ^ 62) ≤ m ∧ m < 2 ^ 62 ∧ -(2 ^ 62) ≤ n ∧ n < 2 ^ 62 then some (rangeI m (n - m).toNat) else none
def appM {α : Type} (xs : List α) (x : α) : Option (List α) := if xs.length < sizeLine then some (xs ++ [x]) else none
def catM {α : Type} (xs ys : List α) : Option (List α) := if xs.length + ys.length ≤ sizeLine then some (xs ++ ys) else none
def repM {α : Type} (xs : List α) (k : Int) : Option (List α) := if (-(2 ^ 63) ≤ k ∧ k < 2 ^ 63) ∧ xs.length * k.toNat ≤ sizeLine then some (List.replicate k.toNat xs).flatten else none
def setM {α : Type} (xs : List α) (k : Int) (x : α) : Option (List α) := (ixN xs.length k).map fun j => xs.set j x
def szM {α : Type} (xs : List α) : Option (List α) := if xs.length ≤ sizeLine then some xs else none
section
variable {i j x : Int} {K : PySem.W.Frag} {Γ : Ctx} {ta tb te ti : TE} {tas : TA}
theorem if_some {α : Type} {c : Prop} [Decidable c] {a b : α} (h : (if c then some a else none) = some b) : c ∧ a = b := by
  by_cases z : c
  · rw [if_pos z] at h
    exact ⟨z, Option.some.inj h⟩
  · rw [if_neg z] at h
    cases h
theorem rr_fdivM (h : fdivM i j = some x) : RR (rI CDiv fun i j => .int (i / j)) (pI i) (pI j) (pI x) := by
  obtain ⟨a, rfl⟩ := if_some h
  exact rr_I a
theorem rr_modM (h : modM i j = some x) : RR (rI (fun _ j => 0 < j) fun i j => .int (i % j)) (pI i) (pI j) (pI x) := by
  obtain ⟨a, rfl⟩ := if_some h
  exact rr_I a
theorem rr_mulM (h : mulM i j = some x) : RR (rI CMul fun i j => .int (i * j)) (pI i) (pI j) (pI x) := by
  obtain ⟨a, rfl⟩ := if_some h
  exact rr_I a
theorem rr_shlM (h : shlM i j = some x) : RR (rI CPow fun i j => .int (i * 2 ^ j.toNat)) (pI i) (pI j) (pI x) := by
  obtain ⟨a, rfl⟩ := if_some h
  exact rr_I (g := fun i j => i * 2 ^ j.toNat) a
theorem rr_shrM (h : shrM i j = some x) : RR (rI (fun _ j => 0 ≤ j) fun i j => .int (i / 2 ^ j.toNat)) (pI i) (pI j) (pI x) := by
  obtain ⟨a, rfl⟩ := if_some h
  exact rr_I (g := fun i j => i / 2 ^ j.toNat) a
theorem i_rngM {n : Int} {xs : List Int} (h : EvA tas Γ [pI n]) (hn : rngM n = some xs) : EvI (iRng1 tas) Γ pI xs := by
  obtain ⟨a, rfl⟩ := if_some hn
  exact i_rng1 h a
theorem i_rng2M {m n : Int} {xs : List Int} (h : EvA tas Γ [pI m, pI n]) (hn : rng2M m n = some xs) : EvI (iRng2 tas) Γ pI xs := by
  obtain ⟨a, rfl⟩ := if_some hn
  exact i_rng2 h a
variable {α : Type} {r : α → Pr} {xs ys zs : List α}
theorem atI_map {k : Int} {a : α} (h : atI xs k = some a) : atI (xs.map r) k = some (r a) := by
  unfold atI at h ⊢
  rw [List.length_map]
  cases z : ixN xs.length k with
  | none =>
    rw [z] at h
    cases h
  | some j =>
    rw [z] at h
    have h' : xs[j]? = some a := h
    show (xs.map r)[j]? = _
    rw [List.getElem?_map, h'] <;> rfl
theorem e_ixLM {k : Int} {a : α} (hl : EvR K ta Γ (xs.map r)) (hi : EvE tb Γ (pI k)) (h : atI xs k = some a) : EvE (tOp (rIxL K) ta tb) Γ (r a) := e_ixL hl hi (atI_map h)
theorem e_lenM (hl : EvR K ta Γ (xs.map r)) : EvE (tCB (rLenS K) (tCons ta tNil)) Γ (pI (xs.length : Int)) := e_to (e_len hl) (by rw [List.length_map])
theorem cut_map {lo hi : Option Int} : cutP (xs.map r) lo hi = (cutP xs lo hi).map r := by
  unfold cutP
  rw [List.length_map, ← List.map_drop, ← List.map_take]
theorem w_sliceM {tl th : TO} {lo hi : Option Int} (hx : EvR K ta Γ (xs.map r)) (hl : EvO tl Γ lo) (hh : EvO th Γ hi) : EvW (tSl (rSlL K) ta tl th) Γ (oL ((cutP xs lo hi).map r)) := by
  rw [← cut_map]
  exact w_slice hx hl hh
theorem w_catM (ha : EvS ta Γ (xs.map r)) (hb : EvS tb Γ (ys.map r)) (h : catM xs ys = some zs) : EvW (tOp rCat ta tb) Γ (oL (zs.map r)) := by
  obtain ⟨a, rfl⟩ := if_some h
  rw [List.map_append]
  exact w_cat ha hb (by rw [List.length_map, List.length_map]; exact a)
theorem flat_map {n : Nat} : (List.replicate n (xs.map r)).flatten = ((List.replicate n xs).flatten).map r := by
  rw [List.map_flatten, List.map_replicate]
theorem w_repM {k : Int} (ha : EvS ta Γ (xs.map r)) (hb : EvE tb Γ (pI k)) (h : repM xs k = some zs) : EvW (tOp rRep ta tb) Γ (oL (zs.map r)) := by
  obtain ⟨a, rfl⟩ := if_some h
  rw [← flat_map]
  exact w_rep ha hb a.1 (by rw [List.length_map]; exact a.2)
theorem s_appM {i : Nat} {a : α} (hi : Γ[i]? = some (.own (oL (xs.map r)))) (h : EvE te Γ (r a)) (hz : appM xs a = some zs) : StS (tDrop (tBM K "list" rAppend (tVar i) (tCons te tNil))) Γ (.nx (Γ.set i (.own (oL (zs.map r))))) := by
  obtain ⟨q, rfl⟩ := if_some hz
  rw [List.map_append]
  exact s_app hi h (by rw [List.length_map]; exact q)
theorem set_map {j : Nat} {a : α} : (xs.map r).set j (r a) = (xs.set j a).map r := by rw [List.map_set]
theorem s_setLM {i : Nat} {k : Int} {a : α} (hi : Γ[i]? = some (.own (oL (xs.map r)))) (h : EvE te Γ (r a)) (hk : EvE ti Γ (pI k)) (hz : setM xs k a = some zs) : StS (tAsg te (gSub (tVar i) ti rSetL)) Γ (.nx (Γ.set i (.own (oL (zs.map r))))) := by
  unfold setM at hz
  cases q : ixN xs.length k with
  | none =>
    rw [q] at hz
    cases hz
  | some j =>
    rw [q] at hz
    cases hz
    rw [← set_map]
    exact s_setL hi h hk (by rw [List.length_map]; exact q)
theorem s_augLM {f : Int → Int → Int} {i : Nat} {k a b : Int} {xs zs : List Int} (hi : Γ[i]? = some (.own (oL (xs.map pI)))) (hk : EvE ti Γ (pI k)) (ha : atI xs k = some a) (h : EvE te Γ (pI b)) (hz : setM xs k (f a b) = some zs) :
    StS (tAugS (tVar i) ti te (rIxL K) (ipI f) rSetL) Γ (.nx (Γ.set i (.own (oL (zs.map pI))))) := by
  unfold setM at hz
  cases q : ixN xs.length k with
  | none =>
    rw [q] at hz
    cases hz
  | some j =>
    rw [q] at hz
    cases hz
    have hj : xs[j]? = some a := by
      unfold atI at ha
      rw [q] at ha
      exact ha
    rw [← set_map]
    exact s_augL hi hk (by rw [List.length_map]; exact q) (by rw [List.getElem?_map, hj] <;> rfl) h
theorem w_lcM {β γ : Type} {r : β → Pr} {rb : γ → Pr} {xs : List β} {ys : List γ} {wi : TI} {g : TG} {js vs : List Nat} {tt : TT} (Γx : β → Ctx) (fb : β → Option Bool) (fe : β → Option γ) (h : EvI wi Γ r xs) (hz : szM xs = some xs) (hg : ∀ x, EvG g js (wipeC Γ vs) (r x) (Γx x)) (hj : ∀ j ∈ js, j ∈ vs)
    (ht : ∀ x b, x ∈ xs → fb x = some b → EvT tt (Γx x) b) (he : ∀ x y, x ∈ xs → fb x = some true → fe x = some y → EvE te (Γx x) (rb y)) (hm : lcM fb fe xs = some ys) : EvW (tLc wi g tt te vs) Γ (oL (ys.map rb)) := w_lc Γx fb fe h (if_some hz).1 hg hj ht he hm
end
/-! ### comparisons in a chain -/
section
variable {Γ : Ctx} {ta tb tc : TE} {P1 P2 P3 : Pr} {r r' : R2}
theorem e_chain {a b c : Bool} (hr : RR r P1 P2 (pB a)) (hr' : a = true → RR r' P2 P3 (pB b)) (ha : EvE ta Γ P1) (hb : EvE tb Γ P2) (hc : a = true → EvE tc Γ P3) (h : c = (a && b)) : EvE (tChain r r' ta tb tc) Γ (pB c) := fun F σ G H e Q q =>
  ha F σ G H e _ fun x G1 H1 g1 p1 => hb F σ G1 H1 (e.grow g1) _ fun y G2 H2 g2 p2 => hr G2 H2 x y _ g2.s (P1.m g2.g p1) p2 fun z G3 H3 g3 p3 => ⟨a, p3, by
    subst h
    have e3 := ((e.grow g1).grow g2).grow g3
    cases a with
    | true => exact hc rfl F σ G3 H3 e3 _ fun u G4 H4 g4 p4 => hr' rfl G4 H4 y u Q g4.s (P2.m (g3.g.trans g4.g) p2) p4 fun v G5 H5 g5 p5 => q v G5 H5 ((((g1.trans g2).trans g3).trans g4).trans g5) p5
    | false => exact q _ G3 H3 ((g1.trans g2).trans g3) rfl⟩
end
end Y

set_option Elab.async false
set_option linter.all false
set_option maxRecDepth 100000
namespace Y
open PySem L2
/-! ### what type a value has -/
def TyP (K : PySem.W.Frag) (P : Pr) (t : Value) : Prop := ∀ (H : Hp) (v : V), P.p H v → TyX K H v t
/-- the class at C as isinstance wants it -/
structure ClsI (K : PySem.W.Frag) (C : Addr) : Prop where
  ha : PySem.W.findIn K (.ref C) "__class__" = some (some (.builtin "object.__class__"))
  hn : PySem.W.specialIn K (.builtin "object.__class__") "__get__" = some (some (.builtin "getset_descriptor.__get__"))
  htk : PySem.W.takesIn K (.builtin "object.__class__") = some true
  hm : PySem.W.mroIn K C (.type "object") = some true
section
variable {K : PySem.W.Frag} {Γ : Ctx} {ta tb te : TE} {P P1 P2 : Pr} {Ps : List Pr} {C : Addr} {ns : List Str} {t u : Value}
theorem ty_I {i : Int} : TyP K (pI i) (.type "int") := fun H v h => by
  cases (show v = V.int i from h)
  exact .base (.int i)
theorem ty_B {b : Bool} : TyP K (pB b) (.type "bool") := fun H v h => by
  cases (show v = V.bl b from h)
  exact .base (.bl b)
theorem ty_S {s : Str} : TyP K (pS s) (.type "str") := fun H v h => by
  cases (show v = V.str s from h)
  exact .base (.str s)
theorem ty_N : TyP K pN (.type "NoneType") := fun H v h => by
  cases (show v = V.non from h)
  exact .base .non
theorem ty_L : TyP K (pL Ps) (.type "list") := fun H v ⟨a, o, h1, h2, vs, h3, _⟩ => by
  subst h1 h3
  exact .base (.lst h2)
theorem ty_T : TyP K (pT Ps) (.type "tuple") := fun H v ⟨a, vs, h1, h2, _⟩ => by
  subst h1
  exact .base (.tup h2)
theorem ty_O (c : Cls K C) (i : ClsI K C) : TyP K (pO C ns Ps) (.ref C) := fun H v ⟨a, o, h1, h2, dx, vs, h3, _⟩ => by
  subst h1 h3
  exact .base (.ins h2 c i.ha i.hn i.htk i.hm)
/-- a class as a value -/
def pCl (c : V) : Pr := ⟨fun _ v => v = c, fun _ h => h⟩
theorem e_cls {c : V} : EvE (tC c) Γ (pCl c) := fun F σ G H e Q q => q _ G H (Gr.refl e.s) rfl
theorem e_isi {c : V} {b : Bool} (h : EvE ta Γ P) (ht : TyP K P t) (hc : ClsV c u) (hk : PySem.W.kitOne K t u = some b) : EvE (tCB (rIsi K) (tCons ta (tCons (tC c) tNil))) Γ (pB b) := fun F σ G H e Q q =>
  h F σ G H e _ fun v G1 H1 g1 p1 => ⟨v, c, t, u, b, rfl, hc, ht H1 v (P.m g1.s p1), hk, q _ G1 H1 g1 rfl⟩
end
/-! ### == by an own __eq__ -/
inductive TyQ (H : Hp) : V → Value → Prop where
  | non : TyQ H .non (.type "NoneType")
  | bl (b : Bool) : TyQ H (.bl b) (.type "bool")
  | int (i : Int) : TyQ H (.int i) (.type "int")
  | str (s : Str) : TyQ H (.str s) (.type "str")
  | lst {a : Addr} {xs : List V} (e : H a = some (.lst xs)) : TyQ H (.ref a) (.type "list")
  | tup {a : Addr} {xs : List V} (e : H a = some (.tup xs)) : TyQ H (.ref a) (.type "tuple")
  | ins {a C dx : Addr} {fs : List (Str × V)} (e : H a = some (.ins C dx fs)) : TyQ H (.ref a) (.ref C)
theorem looks_cls {M : Model} {h : Heap} {a : Addr} {o : Obj} (e : h.get? a = some o) : PySem.W.Looks M h (typeOf (.ref a)) o.cls := (PySem.W.Looks.ld e).andThen .now
section
variable {X : Cx} {pins : List (Addr × Obj)} {σ : St} {H : Hp} {s : Shared}
theorem looks_ty {x : V} {u t : Value} (I : Inv X pins σ H s) (rx : RelV x u) (ty : TyQ H x t) : PySem.W.Looks (model X.prog X.w) s.heap (typeOf u) t := by
  cases ty with
  | non => cases (show u = Value.none from rx); exact .of_pure rfl
  | bl b => cases (show u = Value.bool b from rx); exact .of_pure rfl
  | int i => obtain ⟨t, rfl⟩ := (show ∃ t, u = Value.int i t from rx); exact .of_pure rfl
  | str y => obtain ⟨t, rfl⟩ := (show ∃ t, u = Value.str y t from rx); exact .of_pure rfl
  | @lst a xs ea =>
    cases (show u = Value.ref a from rx)
    obtain ⟨_, _, n, _, h1⟩ := (show ObjOk X.prog X.w H s.heap a (.lst xs) from I.hok a _ ea)
    exact looks_cls h1
  | @tup a xs ea =>
    cases (show u = Value.ref a from rx)
    obtain ⟨_, _, _, o, h1, h2, _⟩ := (show ObjOk X.prog X.w H s.heap a (.tup xs) from I.hok a _ ea)
    rw [← h2]
    exact looks_cls h1
  | @ins a C dx fs ea =>
    cases (show u = Value.ref a from rx)
    obtain ⟨mA, O, _⟩ := ins_get I.hok ea
    obtain ⟨od, J, _⟩ := O.look
    exact J.type
end
def rOwnEq (K : PySem.W.Frag) (C : Addr) (R : List Pr → Pr → Prop) : R2 := fun x y H Q => ∃ a dx fs t, x = .ref a ∧ H a = some (.ins C dx fs) ∧ TyQ H y t ∧ PySem.W.notFirst K C t = true ∧ spR R [x, y] H (fun v H' => ∃ b, v = .bl b ∧ Q (.bl b) H') E0
theorem op_ownEq {X : Cx} {n : Nat} {f C : Addr} {fd : FuncData} {ps : List Str} {R : List Pr → Pr → Prop} (F : FnOk X.prog X.w X.K X.mg X.base CX0 n f fd ps (spR R)) (hs : PySem.W.findIn X.K (.ref C) "__eq__" = some (some (.ref f))) (hf : PySem.W.isFn X.K (.ref f) = true)
    (hb : Binds X.K fd ps []) (hr : Room n X.A) : OpR X (compareOp .Eq) (rOwnEq X.K C R) := by
  intro pins s σ H x y v u Q I rx ry ⟨a, dx, fs, t, ex, ea, ty, nf, hsp⟩
  subst ex
  cases rx
  show wpAny (model X.prog X.w) X.A (richCompare .Eq (.ref a) u) (EP X pins σ Q) X.xe s
  obtain ⟨mA, O, _⟩ := ins_get I.hok ea
  obtain ⟨od, J, _⟩ := O.look
  obtain ⟨m, hF⟩ := I.fr
  refine PySem.W.cmp_K (op := .Eq) hr.units0 hF I.ok.mod.kin J (looks_ty I ry ty) nf hs hf ?_
  have r2 : Vals [V.ref a, y] [Value.ref a, u] := .cons rfl (.cons ry .nil)
  refine wpAny_mono (run_fn (Q := fun v H' => ∃ b, v = .bl b ∧ Q (.bl b) H') F hr hb .nil pass0 I r2 (by rw [List.append_nil]; exact hsp)) (fun r s' hz => ?_) fun _ _ e => e
  obtain ⟨z, H', I', rz, b, ez, q⟩ := hz
  subst ez
  cases rz
  exact ⟨.bl b, H', I', rfl, q⟩
section
variable {K : PySem.W.Frag} {Γ : Ctx} {ta tb : TE} {P : Pr} {Ps : List Pr} {C : Addr} {ns : List Str} {t : Value} {R : List Pr → Pr → Prop}
def TyW (P : Pr) (t : Value) : Prop := ∀ (H : Hp) (v : V), P.p H v → TyQ H v t
theorem tw_I {i : Int} : TyW (pI i) (.type "int") := fun H v h => by
  cases (show v = V.int i from h)
  exact .int i
theorem tw_L {Ps : List Pr} : TyW (pL Ps) (.type "list") := fun H v ⟨a, o, h1, h2, vs, h3, _⟩ => by
  subst h1 h3
  exact .lst h2
theorem tw_T {Ps : List Pr} : TyW (pT Ps) (.type "tuple") := fun H v ⟨a, vs, h1, h2, _⟩ => by
  subst h1
  exact .tup h2
theorem tw_N : TyW pN (.type "NoneType") := fun H v h => by
  cases (show v = V.non from h)
  exact .non
theorem tw_O {Ps : List Pr} : TyW (pO C ns Ps) (.ref C) := fun H v ⟨a, o, h1, h2, dx, vs, h3, _⟩ => by
  subst h1 h3
  exact .ins h2
theorem e_ownEq {b : Bool} (ha : EvE ta Γ (pO C ns Ps)) (hb : EvE tb Γ P) (ht : TyW P t) (hn : PySem.W.notFirst K C t = true) (hR : R [pO C ns Ps, P] (pB b)) : EvE (tOp (rOwnEq K C R) ta tb) Γ (pB b) := fun F σ G H e Q q =>
  ha F σ G H e _ fun x G1 H1 g1 p1 => hb F σ G1 H1 (e.grow g1) _ fun y G2 H2 g2 p2 => by
    have p1' := (pO C ns Ps).m g2.g p1
    obtain ⟨a, o, h1, h2, dx, vs, h3, _⟩ := id p1'
    subst h1 h3
    exact ⟨a, dx, _, t, rfl, g2.s _ _ h2, ht H2 y (P.m g2.s p2), hn, [_, _], pB b, G2, hR, g2.s, ⟨p1', p2, trivial⟩, fun v G3 H3 g3 p3 => ⟨b, p3, q _ G3 H3 ((g1.trans g2).trans g3) rfl⟩⟩
end
theorem notFirst_self {K : PySem.W.Frag} {C : Addr} : PySem.W.notFirst K C (.ref C) = true := by simp [PySem.W.notFirst]
/-! ### == of data -/
def DpP (K : PySem.W.Frag) (P : Pr) (d : PyData) : Prop := ∀ (H : Hp) (v : V), P.p H v → Dp K H v d
def dpAll (K : PySem.W.Frag) : List Pr → List PyData → Prop
  | [], [] => True
  | P :: Ps, d :: ds => DpP K P d ∧ dpAll K Ps ds
  | _, _ => False
section
variable {K : PySem.W.Frag} {Γ : Ctx} {ta tb : TE} {P P1 P2 : Pr} {Ps : List Pr} {d1 d2 : PyData} {ds : List PyData}
theorem dp_I {i : Int} : DpP K (pI i) (.int i) := fun H v h => by
  cases (show v = V.int i from h)
  exact .int i
theorem dp_B {b : Bool} : DpP K (pB b) (.bool b) := fun H v h => by
  cases (show v = V.bl b from h)
  exact .bl b
theorem dp_S {s : Str} : DpP K (pS s) (.str s) := fun H v h => by
  cases (show v = V.str s from h)
  exact .str s
theorem dp_N : DpP K pN .none := fun H v h => by
  cases (show v = V.non from h)
  exact .non
theorem dp_all {H : Hp} : ∀ {vs : List V} {Ps : List Pr} {ds : List PyData}, Sat H vs Ps → dpAll K Ps ds → DpAll K H vs ds
  | [], [], [], _, _ => .nil
  | _ :: _, _ :: _, _ :: _, h, q => .cons (q.1 H _ h.1) (dp_all h.2 q.2)
  | [], [], _ :: _, _, q => q.elim
  | _ :: _, _ :: _, [], _, q => q.elim
  | [], _ :: _, _, h, _ => h.elim
  | _ :: _, [], _, h, _ => h.elim
theorem dp_L (h : dpAll K Ps ds) : DpP K (pL Ps) (.list ds) := fun H v ⟨a, o, h1, h2, vs, h3, h4, _⟩ => by
  subst h1 h3
  exact .lst (SqL.of h2) (dp_all h4 h)
theorem dp_T (h : dpAll K Ps ds) : DpP K (pT Ps) (.tuple ds) := fun H v ⟨a, vs, h1, h2, h3⟩ => by
  subst h1
  exact .tup (SqT.of h2) (dp_all h3 h)
theorem e_eqD {b : Bool} (ha : EvE ta Γ P1) (hb : EvE tb Γ P2) (h1 : DpP K P1 d1) (h2 : DpP K P2 d2) (s1 : SeqAt.shaped d1 = true) (s2 : SeqAt.shaped d2 = true) (h : PyData.eqv d1 d2 = b) : EvE (tOp (rEqD K) ta tb) Γ (pB b) := fun F σ G H e Q q =>
  ha F σ G H e _ fun x G1 H1 g1 p1 => hb F σ G1 H1 (e.grow g1) _ fun y G2 H2 g2 p2 => ⟨d1, d2, h1 H2 x (P1.m (g2.g.trans g2.s) p1), h2 H2 y (P2.m g2.s p2), s1, s2, q _ G2 H2 (g1.trans g2) (by rw [h] <;> rfl)⟩
theorem e_neD {b : Bool} (ha : EvE ta Γ P1) (hb : EvE tb Γ P2) (h1 : DpP K P1 d1) (h2 : DpP K P2 d2) (s1 : SeqAt.shaped d1 = true) (s2 : SeqAt.shaped d2 = true) (h : PyData.eqv d1 d2 = b) : EvE (tOp (rNeD K) ta tb) Γ (pB (!b)) := fun F σ G H e Q q =>
  ha F σ G H e _ fun x G1 H1 g1 p1 => hb F σ G1 H1 (e.grow g1) _ fun y G2 H2 g2 p2 => ⟨d1, d2, h1 H2 x (P1.m (g2.g.trans g2.s) p1), h2 H2 y (P2.m g2.s p2), s1, s2, q _ G2 H2 (g1.trans g2) (by rw [h] <;> rfl)⟩
end
/-- data in Lean, as Python's data: what it is, its depth, when it is equal -/
structure En {α : Type} (K : PySem.W.Frag) [DecidableEq α] (r : α → Pr) where
  d : α → PyData
  ok : ∀ a, DpP K (r a) (d a)
  n : Nat
  dep : ∀ a, (d a).depth ≤ n
  lay : ∀ a, (d a).canLay0 = true
  eq : ∀ a b, PyData.eqv (d a) (d b) = decide (a = b)
section
variable {K : PySem.W.Frag} {Γ : Ctx} {ta tb : TE} {α β : Type} [DecidableEq α] [DecidableEq β] {r : α → Pr} {s : β → Pr}
theorem En.sh (E : En K r) (h : E.n ≤ 64) (a : α) : SeqAt.shaped (E.d a) = true := by
  unfold SeqAt.shaped
  rw [E.lay a, decide_eq_true (Nat.le_trans (E.dep a) h)] <;> rfl
theorem e_eqEn (E : En K r) (h : E.n ≤ 64) {a b : α} (ha : EvE ta Γ (r a)) (hb : EvE tb Γ (r b)) : EvE (tOp (rEqD K) ta tb) Γ (pB (decide (a = b))) := e_eqD ha hb (E.ok a) (E.ok b) (E.sh h a) (E.sh h b) (E.eq a b)
theorem e_neEn (E : En K r) (h : E.n ≤ 64) {a b : α} (ha : EvE ta Γ (r a)) (hb : EvE tb Γ (r b)) : EvE (tOp (rNeD K) ta tb) Γ (pB (!decide (a = b))) := e_neD ha hb (E.ok a) (E.ok b) (E.sh h a) (E.sh h b) (E.eq a b)
end
end Y

set_option Elab.async false
set_option linter.all false
set_option maxRecDepth 100000
namespace Y
open PySem L2
section
variable {K : PySem.W.Frag}
theorem dep_le {n : Nat} : ∀ {ds : List PyData}, (∀ d ∈ ds, d.depth ≤ n) → PyData.depthAll ds ≤ n
  | [], _ => Nat.zero_le _
  | d :: ds, h => by
    unfold PyData.depthAll
    exact Nat.max_le.mpr ⟨h d List.mem_cons_self, dep_le fun e he => h e (List.mem_cons_of_mem _ he)⟩
theorem lay_all : ∀ {ds : List PyData}, (∀ d ∈ ds, d.canLay0 = true) → PyData.canLayAll0 ds = true
  | [], _ => rfl
  | d :: ds, h => by
    unfold PyData.canLayAll0
    rw [h d List.mem_cons_self, lay_all fun e he => h e (List.mem_cons_of_mem _ he)] <;> rfl
def enI : En K pI := ⟨.int, fun _ => dp_I, 1, fun _ => by unfold PyData.depth; omega, fun _ => by unfold PyData.canLay0; rfl, fun a b => by
  show (a == b) = _
  by_cases h : a = b
  · subst h; simp
  · simp [h]⟩
def enB : En K pB := ⟨.bool, fun _ => dp_B, 1, fun _ => by unfold PyData.depth; omega, fun _ => by unfold PyData.canLay0; rfl, fun a b => by
  show (a == b) = _
  cases a <;> cases b <;> rfl⟩
def enOI : En K (pOpt pI) := ⟨fun o => match o with | none => .none | some i => .int i, fun o => (match o with | none => dp_N | some i => dp_I), 1, fun o => (by cases o <;> (unfold PyData.depth; omega)), fun o => (by cases o <;> (unfold PyData.canLay0; rfl)), fun a b => (by
  cases a with
  | none => cases b <;> (unfold PyData.eqv; simp)
  | some a => cases b with
    | none => unfold PyData.eqv; simp
    | some b =>
      unfold PyData.eqv
      show (a == b) = _
      by_cases h : a = b
      · subst h; simp
      · simp [h])⟩
variable {α β γ δ : Type} [DecidableEq α] [DecidableEq β] [DecidableEq γ] {r : α → Pr} {s : β → Pr} {q : γ → Pr}
theorem dpAll_map (E : En K r) : ∀ xs : List α, dpAll K (xs.map r) (xs.map E.d)
  | [] => trivial
  | x :: xs => ⟨E.ok x, dpAll_map E xs⟩
theorem eqvAll_map (E : En K r) : ∀ xs ys : List α, PyData.eqvAll (xs.map E.d) (ys.map E.d) = decide (xs = ys)
  | [], [] => by simp [PyData.eqvAll]
  | [], _ :: _ => by simp [PyData.eqvAll]
  | _ :: _, [] => by simp [PyData.eqvAll]
  | x :: xs, y :: ys => by
    rw [List.map_cons, List.map_cons]
    unfold PyData.eqvAll
    rw [E.eq, eqvAll_map E xs ys]
    by_cases h : x = y
    · subst h
      simp
    · simp [h]
abbrev rL (r : α → Pr) (xs : List α) : Pr := pL (xs.map r)
def enL (E : En K r) : En K (fun xs : List α => pL (xs.map r)) := ⟨fun xs => .list (xs.map E.d), fun xs => dp_L (dpAll_map E xs), E.n + 1, fun xs => by
    unfold PyData.depth
    have := dep_le (n := E.n) (ds := xs.map E.d) (fun d hd => by
      obtain ⟨a, _, rfl⟩ := List.mem_map.mp hd
      exact E.dep a)
    omega, fun xs => by
    unfold PyData.canLay0
    exact lay_all fun d hd => by
      obtain ⟨a, _, rfl⟩ := List.mem_map.mp hd
      exact E.lay a, fun xs ys => by
    unfold PyData.eqv
    exact eqvAll_map E xs ys⟩
abbrev r3 (r : α → Pr) (s : β → Pr) (q : γ → Pr) : α × β × γ → Pr := fun p => pT [r p.1, s p.2.1, q p.2.2]
def en2 (E : En K r) (E' : En K s) : En K (r2 r s) := ⟨fun p => .tuple [E.d p.1, E'.d p.2], fun p => dp_T ⟨E.ok _, E'.ok _, trivial⟩, max E.n E'.n + 1, fun p => by
    unfold PyData.depth
    have h1 := E.dep p.1
    have h2 := E'.dep p.2
    have := dep_le (n := max E.n E'.n) (ds := [E.d p.1, E'.d p.2]) (fun d hd => by
      rcases List.mem_cons.mp hd with z | hd
      · rw [z]; omega
      · rw [List.mem_singleton.mp hd]; omega)
    omega, fun p => by
    unfold PyData.canLay0
    exact lay_all fun d hd => by
      rcases List.mem_cons.mp hd with z | hd
      · rw [z]; exact E.lay _
      · rw [List.mem_singleton.mp hd]; exact E'.lay _, fun a b => by
    unfold PyData.eqv PyData.eqvAll
    rw [E.eq]
    unfold PyData.eqvAll
    rw [E'.eq]
    unfold PyData.eqvAll
    obtain ⟨a1, a2⟩ := a
    obtain ⟨b1, b2⟩ := b
    show (decide (a1 = b1) && (decide (a2 = b2) && true)) = _
    by_cases h : a1 = b1
    · by_cases h' : a2 = b2
      · subst h h'; simp
      · simp [h']
    · simp [h]⟩
def en3 (E : En K r) (E' : En K s) (E'' : En K q) : En K (r3 r s q) := ⟨fun p => .tuple [E.d p.1, E'.d p.2.1, E''.d p.2.2], fun p => dp_T ⟨E.ok _, E'.ok _, E''.ok _, trivial⟩, max E.n (max E'.n E''.n) + 1, fun p => by
    unfold PyData.depth
    have h1 := E.dep p.1
    have h2 := E'.dep p.2.1
    have h3 := E''.dep p.2.2
    have := dep_le (n := max E.n (max E'.n E''.n)) (ds := [E.d p.1, E'.d p.2.1, E''.d p.2.2]) (fun d hd => by
      rcases List.mem_cons.mp hd with z | hd
      · rw [z]; omega
      · rcases List.mem_cons.mp hd with z | hd
        · rw [z]; omega
        · rw [List.mem_singleton.mp hd]; omega)
    omega, fun p => by
    unfold PyData.canLay0
    exact lay_all fun d hd => by
      rcases List.mem_cons.mp hd with z | hd
      · rw [z]; exact E.lay _
      · rcases List.mem_cons.mp hd with z | hd
        · rw [z]; exact E'.lay _
        · rw [List.mem_singleton.mp hd]; exact E''.lay _, fun a b => by
    unfold PyData.eqv PyData.eqvAll
    rw [E.eq]
    unfold PyData.eqvAll
    rw [E'.eq]
    unfold PyData.eqvAll
    rw [E''.eq]
    unfold PyData.eqvAll
    obtain ⟨a1, a2, a3⟩ := a
    obtain ⟨b1, b2, b3⟩ := b
    show (decide (a1 = b1) && (decide (a2 = b2) && (decide (a3 = b3) && true))) = _
    by_cases h : a1 = b1
    · by_cases h' : a2 = b2
      · by_cases h'' : a3 = b3
        · subst h h' h''; simp
        · simp [h'']
      · simp [h']
    · simp [h]⟩
end
/-! ### for the generated proofs -/
def bndv {α β : Type} (a : α) (k : α → Option β) : Option β := k a
theorem bndv_some {α β : Type} {a : α} {k : α → Option β} {b : β} (h : bndv a k = some b) : ∃ x, x = a ∧ k x = some b := ⟨a, rfl, h⟩
theorem bs {α β : Type} {o : Option α} {k : α → Option β} {b : β} (h : o.bind k = some b) : ∃ x, o = some x ∧ k x = some b := Option.bind_eq_some_iff.mp h
section
variable {K : PySem.W.Frag} {Γ Γ1 : Ctx} {te : TE} {ts us ws rest : TS} {t : TT} {o : Out} {P : Pr}
theorem e_as {α : Type} {r : α → Pr} {a x : α} (h : EvE te Γ (r a)) (e : x = a) : EvE te Γ (r x) := e ▸ h
theorem w_as {α : Type} {r : α → Pr} {a x : List α} (h : EvW te Γ (oL (a.map r))) (e : x = a) : EvW te Γ (oL (x.map r)) := e ▸ h
theorem t_as {a x : Bool} (h : EvT t Γ a) (e : x = a) : EvT t Γ x := e ▸ h
theorem s_ifK {b : Bool} (h : EvT t Γ b) (h1 : b = true → StS (tSeq us rest) Γ o) (h2 : b = false → StS (tSeq ws rest) Γ o) : StS (tSeq (tIfS t us ws) rest) Γ o := fun F σ G H D e g =>
  h F σ G H e _ fun G' H' gr => by
    cases b with
    | true => exact h1 rfl F σ G' H' D (e.grow gr) g
    | false => exact h2 rfl F σ G' H' D (e.grow gr) g
theorem s_assoc (h : StS (tSeq ts (tSeq us rest)) Γ o) : StS (tSeq (tSeq ts us) rest) Γ o := h
theorem s_nxK (h : StS rest Γ o) : StS (tSeq tNext rest) Γ o := h
theorem if_t {α : Type} {c : Bool} {a b : Option α} {r : α} (hc : c = true) (h : (if c then a else b) = some r) : a = some r := by
  subst hc
  rwa [if_pos rfl] at h
theorem if_f {α : Type} {c : Bool} {a b : Option α} {r : α} (hc : c = false) (h : (if c then a else b) = some r) : b = some r := by
  subst hc
  rwa [if_neg Bool.false_ne_true] at h
theorem s_seqL {S ρ : Type} {Γs : S → Ctx} {R : ρ → Pr} {out : Sum S ρ} (h : StS ts Γ (outL Γs R out)) (h1 : ∀ s, out = .inl s → StS us (Γs s) o) (h2 : ∀ r, out = .inr r → o = .rt (R r)) : StS (tSeq ts us) Γ o := by
  cases out with
  | inl s => exact s_seq h (h1 s rfl)
  | inr r =>
    rw [h2 r rfl]
    exact s_seqR h
end
end Y

set_option Elab.async false
set_option linter.all false
set_option maxRecDepth 100000
namespace Y
open PySem L2
section
variable {K : PySem.W.Frag} {Γ Γ1 : Ctx} {te : TE} {ts us rest : TS} {o : Out} {P : Pr} {g : TG} {js : List Nat}
theorem s_at (Γ1 : Ctx) (h : StS ts Γ (.nx Γ1)) : StS ts Γ (.nx Γ1) := h
theorem sz_ok {α : Type} {xs ys : List α} (h : szM xs = some ys) : xs.length ≤ sizeLine := (if_some h).1
theorem atT {Ps : List Pr} (k : Nat) (h : Ps[k]? = some P) : atI Ps (k : Int) = some P := atI_nat h
theorem w_to {α : Type} {r : α → Pr} {xs : List α} {Ps : List Pr} (h : EvW te Γ (oL Ps)) (e : Ps = xs.map r) : EvW te Γ (oL (xs.map r)) := e ▸ h
theorem s_augV {f : Int → Int → Int} {a b x : Int} {i : Nat} (hx : Γ[i]? = some (.val (pI a))) (h : EvE te Γ (pI b)) (e : x = f a b) : StS (tAug i te (ipI f)) Γ (.nx (Γ.set i (.val (pI x)))) := e ▸ s_aug hx h
theorem s_asgT {Γ2 : Ctx} (h : EvE te Γ P) (hg : EvG g js Γ P Γ2) : StS (tAsg te g) Γ (.nx Γ2) := fun F σ G H D e gl =>
  h F σ G H e _ fun v G' H' gr p => by
    obtain ⟨Ls, e'⟩ := e.grow gr
    exact hg F σ G' H' Ls v e' p _ fun σ' e2 _ => gl σ' G' H' ⟨Ls, e2⟩
theorem s_L {S ρ : Type} {Γs : S → Ctx} {R : ρ → Pr} {out : Sum S ρ} (h : StS ts Γ (outL Γs R out)) (h1 : ∀ s, out = .inl s → StS ts Γ (.nx (Γs s)) → StS ts Γ o) (h2 : ∀ r, out = .inr r → o = .rt (R r)) : StS ts Γ o := by
  cases out with
  | inl s => exact h1 s rfl h
  | inr r =>
    rw [h2 r rfl]
    exact h
theorem vals_opt {vs : List V} {us : List Value} {i : Nat} (r : Vals vs us) : Vals vs[i]?.toList us[i]?.toList := by
  cases h : vs[i]? with
  | none =>
    rw [r.none_of h]
    exact .nil
  | some x =>
    obtain ⟨u, h1, h2⟩ := r.get h
    rw [h1]
    exact .cons h2 .nil
theorem binds_all {fd : FuncData} {ps : List Str} (h : ∃ ds, Vals [] ds ∧ Binds K fd ps ds) : Binds K fd ps [] := by
  obtain ⟨ds, h1, h2⟩ := h
  cases h1
  exact h2
abbrev rD {α : Type} (r : α → Pr) (kvs : List (Key × α)) : Pr := pD (kvs.map (rK r))
theorem pget_list {X : Cx} : PGet X (rIxL X.K) := by
  intro pins s σ H o i ov iv Q I ro ri ⟨p, xs, k, v, e1, e2, hq, he, q⟩
  subst e1 e2
  cases ro
  obtain ⟨t, rfl⟩ := ri
  obtain ⟨its, r, pl, hz⟩ := I.list hq
  obtain ⟨j, h1, h2, h3, h4, h5⟩ := atI_get he
  obtain ⟨w, ew, rw'⟩ := r.get h2
  have hl := r.length
  have hn := line63
  have fin : EP X pins σ Q w s := ⟨v, H, I, rw', q⟩
  by_cases h0 : 0 ≤ k
  · have hj : k.toNat = j := by
      rw [seqIndex_of h0 h5] at h1
      exact Option.some.inj h1
    exact wpAny_getItem_list pl.isList h0 (by omega) (by rw [hj]; simpa using ew) fin
  · have hj : (k + (its.toArray.size : Int)).toNat = j := by
      rw [seqIndex_neg (by omega) h4] at h1
      rw [List.size_toArray, ← hl]
      exact Option.some.inj h1
    exact wpAny_getItem_list_neg pl.isList (by omega) (by rw [List.size_toArray] <;> omega) (by omega) (by rw [hj]; simpa using ew) fin
end

/-! ### an int or a truth value -/
abbrev IB : Type := Sum Int Bool
def rIB : IB → Pr
  | .inl i => pI i
  | .inr b => pB b
def asI : IB → Option Int
  | .inl i => some i
  | .inr _ => none
def asB : IB → Option Bool
  | .inl _ => none
  | .inr b => some b
section
variable {K : PySem.W.Frag} {Γ : Ctx} {te : TE} {x : IB} {i : Int} {b : Bool} {P : Pr}
theorem e_asI (h : asI x = some i) (p : EvE te Γ (rIB x)) : EvE te Γ (pI i) := by
  cases x with
  | inl j => cases h; exact p
  | inr c => cases h
theorem e_asB (h : asB x = some b) (p : EvE te Γ (rIB x)) : EvE te Γ (pB b) := by
  cases x with
  | inl j => cases h
  | inr c => cases h; exact p
/-- a list taken apart into names -/
def setEach (Γ : Ctx) : List Nat → List Pr → Ctx
  | i :: is, P :: Ps => setEach (Γ.set i (.val P)) is Ps
  | _, _ => Γ
def gNames : List Nat → TGs
  | [] => gNil
  | i :: is => gCons (gName i) (gNames is)
theorem setEach_len : ∀ (is : List Nat) (Ps : List Pr) (Γ : Ctx), (setEach Γ is Ps).length = Γ.length
  | [], _, _ => rfl
  | _ :: _, [], _ => rfl
  | i :: is, P :: Ps, Γ => by
    show (setEach (Γ.set i (.val P)) is Ps).length = _
    rw [setEach_len is Ps, List.length_set]
theorem g_names : ∀ {is : List Nat} {Ps : List Pr} {Γ : Ctx} {F : Fm} {σ : St} {G H : Hp} {Ls : Nat → List Addr} {vs : List V}, EOk1 F Γ σ G H Ls → Sat G vs Ps → is.length = Ps.length → (∀ i ∈ is, i < Γ.length) → ∀ Q : St → Hp → Prop,
    (∀ σ', EOk1 F (setEach Γ is Ps) σ' G H Ls → (∀ ws : List Nat, (∀ j ∈ is, j ∈ ws) → L2.wipe σ' ws = L2.wipe σ ws) → Q σ' H) → gNames is vs σ H Q
  | [], [], _, _, _, _, _, _, [], e, _, _, _, Q, q => ⟨rfl, q _ e fun _ _ => rfl⟩
  | i :: is, P :: Ps, Γ, F, σ, G, H, Ls, v :: vs, e, s, l, hi, Q, q => by
    refine ⟨v, vs, rfl, ?_⟩
    refine g_names (e.set (P := P) (v := v) s.1 (hi i List.mem_cons_self)) s.2 (Nat.succ.inj l) (fun j hj => by rw [List.length_set]; exact hi j (List.mem_cons_of_mem _ hj)) Q fun σ' e' hw => ?_
    refine q σ' e' fun ws h => ?_
    rw [hw ws fun j hj => h j (List.mem_cons_of_mem _ hj), wipe_set _ (h i List.mem_cons_self)]
  | [], [], _, _, _, _, _, _, _ :: _, _, s, _, _, _, _ => s.elim
  | _ :: _, _ :: _, _, _, _, _, _, _, [], _, s, _, _, _, _ => s.elim
  | [], _ :: _, _, _, _, _, _, _, _, _, _, l, _, _, _ => nomatch l
  | _ :: _, [], _, _, _, _, _, _, _, _, _, l, _, _, _ => nomatch l
theorem s_setFc {C x : Addr} {ns : List Str} {Ps : List Pr} {f : Str} {i : Nat} {te : TE} {P : Pr} {Γ' : Ctx} (c : Cls K C) (n : NoAttr K C f) (hi : Γ[i]? = some (.own (oS x C ns Ps))) (hf : f ∉ ns) (hl : ns.length = Ps.length) (hm : ns.length < 1000) (h : EvE te Γ P) (hc : Γ.set i (.own (oS x C (ns ++ [f]) (Ps ++ [P]))) = Γ') : StS (sFld K (tVar i) te f) Γ (.nx Γ') := hc ▸ s_setF c n hi hf ⟨hl, hm⟩ h
theorem g_unl {is : List Nat} {Ps : List Pr} {n : Nat} (hn : is.length = n) (hp : Ps.length = n) (hi : ∀ i ∈ is, i < Γ.length) : EvG (gUnl K n (gNames is)) is Γ (pL Ps) (setEach Γ is Ps) := fun F σ G H Ls v e ⟨a, o, h1, h2, vs, h3, h4, h5⟩ Q q => by
  subst h1 h3
  exact ⟨a, vs, rfl, SqL.of (e.gr.s _ _ h2), h4.len.trans hp, g_names e h4 (hn.trans hp.symm) hi Q q⟩
end
end Y

set_option Elab.async false
set_option linter.all false
set_option maxRecDepth 100000
namespace Y
open PySem L2
/-! ### regions in regions -/
def oV (P : Pr) : Ow := ⟨fun G _ v L => L = [] ∧ P.p G v, fun e _ ⟨h1, h2⟩ => ⟨h1, P.m e h2⟩⟩
def SW (G H : Hp) : List V → List Ow → List (List Addr) → Prop
  | [], [], [] => True
  | v :: vs, W :: Ws, L :: Ls => W.p G H v L ∧ (∀ a ∈ L, a ∉ Ls.flatten) ∧ SW G H vs Ws Ls
  | _, _, _ => False
theorem mem_fl {a : Addr} {L : List Addr} {Ls : List (List Addr)} : a ∈ (L :: Ls).flatten ↔ a ∈ L ∨ a ∈ Ls.flatten := by
  rw [List.flatten_cons, List.mem_append]
theorem SW.m {G H G' H' : Hp} (g : Gw G G') : ∀ {vs : List V} {Ws : List Ow} {Ls : List (List Addr)}, (∀ a ∈ Ls.flatten, H' a = H a) → SW G H vs Ws Ls → SW G' H' vs Ws Ls
  | [], [], [], _, _ => trivial
  | _ :: _, W :: _, L :: Ls, k, h => ⟨W.m g (fun a ha => k a (mem_fl.mpr (.inl ha))) h.1, h.2.1, SW.m g (fun a ha => k a (mem_fl.mpr (.inr ha))) h.2.2⟩
  | [], [], _ :: _, _, h => h.elim
  | [], _ :: _, _, _, h => by cases ‹List (List Addr)› <;> exact h.elim
  | _ :: _, [], _, _, h => by cases ‹List (List Addr)› <;> exact h.elim
  | _ :: _, _ :: _, [], _, h => h.elim
theorem SW.len {G H : Hp} : ∀ {vs : List V} {Ws : List Ow} {Ls : List (List Addr)}, SW G H vs Ws Ls → vs.length = Ws.length ∧ Ls.length = Ws.length
  | [], [], [], _ => ⟨rfl, rfl⟩
  | _ :: _, W :: _, L :: Ls, h => ⟨congrArg Nat.succ (SW.len h.2.2).1, congrArg Nat.succ (SW.len h.2.2).2⟩
  | [], [], _ :: _, h => h.elim
  | [], _ :: _, Ls, h => by cases Ls <;> exact h.elim
  | _ :: _, [], Ls, h => by cases Ls <;> exact h.elim
  | _ :: _, _ :: _, [], h => h.elim
theorem mem_flat {a : Addr} {L : List Addr} : ∀ {Ls : List (List Addr)} {i : Nat}, Ls[i]? = some L → a ∈ L → a ∈ Ls.flatten
  | [], _, h, _ => by simp at h
  | M :: Ls, 0, h, ha => by
    simp at h
    subst h
    exact mem_fl.mpr (.inl ha)
  | M :: Ls, i + 1, h, ha => mem_fl.mpr (.inr (mem_flat (i := i) (by simpa using h) ha))
theorem SW.get {G H : Hp} : ∀ {vs : List V} {Ws : List Ow} {Ls : List (List Addr)} {i : Nat} {W : Ow}, SW G H vs Ws Ls → Ws[i]? = some W → ∃ v L, vs[i]? = some v ∧ Ls[i]? = some L ∧ W.p G H v L
  | [], [], [], _, _, _, e => by simp at e
  | v :: _, W :: _, L :: Ls, 0, _, h, e => by
    simp at e
    subst e
    exact ⟨v, L, rfl, rfl, h.1⟩
  | v :: vs, W :: Ws, L :: Ls, i + 1, _, h, e => by
    obtain ⟨w, M, h1, h2, h3⟩ := SW.get (i := i) h.2.2 (by simpa using e)
    exact ⟨w, M, by simpa using h1, by simpa using h2, h3⟩
  | [], [], _ :: _, _, _, h, _ => h.elim
  | [], _ :: _, Ls, _, _, h, _ => by cases Ls <;> exact h.elim
  | _ :: _, [], Ls, _, _, h, _ => by cases Ls <;> exact h.elim
  | _ :: _, _ :: _, [], _, _, h, _ => h.elim
/-- what is left of the addresses, and what is new -/
def Sub (L' Lo Ln L : List Addr) : Prop := ∀ a ∈ L', (a ∈ L ∧ a ∉ Lo) ∨ a ∈ Ln
theorem SW.set {G H G' H' : Hp} {v' : V} {W' : Ow} {L L' : List Addr} (g : Gw G G') (hw : W'.p G' H' v' L') : ∀ {vs : List V} {Ws : List Ow} {Ls : List (List Addr)} {i : Nat}, SW G H vs Ws Ls → Ls[i]? = some L →
    (∀ a ∈ Ls.flatten, a ∉ L → H' a = H a) → (∀ a ∈ L', a ∈ L ∨ a ∉ Ls.flatten) → SW G' H' (vs.set i v') (Ws.set i W') (Ls.set i L') ∧ Sub (Ls.set i L').flatten L L' Ls.flatten
  | [], [], [], _, _, e, _, _ => by simp at e
  | v :: vs, W :: Ws, M :: Ls, 0, h, e, k, n => by
    simp at e
    subst e
    refine ⟨⟨hw, fun a ha q => ?_, h.2.2.m g fun a ha => k a (mem_fl.mpr (.inr ha)) fun z => h.2.1 a z ha⟩, fun a ha => ?_⟩
    · rcases n a ha with z | z
      · exact h.2.1 a z q
      · exact z (mem_fl.mpr (.inr q))
    · rcases mem_fl.mp ha with z | z
      · exact .inr z
      · exact .inl ⟨mem_fl.mpr (.inr z), fun q => h.2.1 a q z⟩
  | v :: vs, W :: Ws, M :: Ls, i + 1, h, e, k, n => by
    have e' : Ls[i]? = some L := by simpa using e
    have off : ∀ a ∈ M, a ∉ L := fun a ha q => h.2.1 a ha (mem_flat e' q)
    obtain ⟨r1, r2⟩ := SW.set g hw (i := i) h.2.2 e' (fun a ha => k a (mem_fl.mpr (.inr ha))) (fun a ha => (n a ha).imp_right fun z q => z (mem_fl.mpr (.inr q)))
    refine ⟨⟨W.m g (fun a ha => k a (mem_fl.mpr (.inl ha)) (off a ha)) h.1, fun a ha q => ?_, r1⟩, fun a ha => ?_⟩
    · rcases r2 a q with ⟨z, _⟩ | z
      · exact h.2.1 a ha z
      · rcases n a z with z2 | z2
        · exact off a ha z2
        · exact z2 (mem_fl.mpr (.inl ha))
    · rcases mem_fl.mp ha with z | z
      · exact .inl ⟨mem_fl.mpr (.inl z), off a z⟩
      · rcases r2 a z with ⟨z1, z2⟩ | z
        · exact .inl ⟨mem_fl.mpr (.inr z1), z2⟩
        · exact .inr z
  | [], [], _ :: _, _, h, _, _, _ => h.elim
  | [], _ :: _, Ls, _, h, _, _, _ => by cases Ls <;> exact h.elim
  | _ :: _, [], Ls, _, h, _, _, _ => by cases Ls <;> exact h.elim
  | _ :: _, _ :: _, [], _, h, _, _, _ => h.elim
theorem SW.snoc {G H : Hp} {v : V} {W : Ow} {L : List Addr} (hw : W.p G H v L) : ∀ {vs : List V} {Ws : List Ow} {Ls : List (List Addr)}, SW G H vs Ws Ls → (∀ a ∈ L, a ∉ Ls.flatten) → SW G H (vs ++ [v]) (Ws ++ [W]) (Ls ++ [L])
  | [], [], [], _, _ => ⟨hw, fun _ _ z => by simp at z, trivial⟩
  | u :: vs, U :: Ws, M :: Ls, h, n => by
    refine ⟨h.1, fun a ha q => ?_, SW.snoc hw h.2.2 fun a ha q => n a ha (mem_fl.mpr (.inr q))⟩
    have q : a ∈ (Ls ++ [L]).flatten := q
    rw [List.flatten_append, List.mem_append] at q
    rcases q with q | q
    · exact h.2.1 a ha q
    · rw [List.flatten_cons, List.flatten_nil, List.append_nil] at q
      exact n a q (mem_fl.mpr (.inl ha))
  | [], [], _ :: _, h, _ => h.elim
  | [], _ :: _, Ls, h, _ => by cases Ls <;> exact h.elim
  | _ :: _, [], Ls, h, _ => by cases Ls <;> exact h.elim
  | _ :: _, _ :: _, [], h, _ => h.elim
/-- a list of regions; an object of regions; a region with its value -/
def oLs (Ws : List Ow) : Ow := ⟨fun G H v L => ∃ a vs Ls, v = .ref a ∧ H a = some (.lst vs) ∧ SW G H vs Ws Ls ∧ vs.length ≤ sizeLine ∧ a ∉ Ls.flatten ∧ L = a :: Ls.flatten,
  fun g k ⟨a, vs, Ls, h1, h2, h3, h4, h5, h6⟩ => ⟨a, vs, Ls, h1, by rw [k a (by rw [h6]; exact List.mem_cons_self)]; exact h2, h3.m g (fun b hb => k b (by rw [h6]; exact List.mem_cons_of_mem _ hb)), h4, h5, h6⟩⟩
def oOs (C : Addr) (ns : List Str) (Ws : List Ow) : Ow := ⟨fun G H v L => ∃ a dx vs Ls, v = .ref a ∧ H a = some (.ins C dx (ns.zip vs)) ∧ SW G H vs Ws Ls ∧ a ∉ Ls.flatten ∧ L = a :: Ls.flatten,
  fun g k ⟨a, dx, vs, Ls, h1, h2, h3, h5, h6⟩ => ⟨a, dx, vs, Ls, h1, by rw [k a (by rw [h6]; exact List.mem_cons_self)]; exact h2, h3.m g (fun b hb => k b (by rw [h6]; exact List.mem_cons_of_mem _ hb)), h5, h6⟩⟩
def oAt (x : V) (W : Ow) : Ow := ⟨fun G H v L => v = x ∧ W.p G H v L, fun g k ⟨h1, h2⟩ => ⟨h1, W.m g k h2⟩⟩
/-! ### no one changes it any more -/
theorem frz_V {P : Pr} : Frz (oV P) P := fun G H v L s hL ⟨h1, h2⟩ => ⟨G, Gw.refl G, s, fun _ _ => rfl, h2⟩
theorem frz_At {x : V} {W : Ow} {P : Pr} (f : Frz W P) : Frz (oAt x W) P := fun G H v L s hL ⟨_, h2⟩ => f G H v L s hL h2
inductive FrzA : List Ow → List Pr → Prop where
  | nil : FrzA [] []
  | cons {W : Ow} {P : Pr} {Ws : List Ow} {Ps : List Pr} : Frz W P → FrzA Ws Ps → FrzA (W :: Ws) (P :: Ps)
theorem frzA_map {α : Type} {o : α → Ow} {r : α → Pr} (h : ∀ a, Frz (o a) (r a)) : ∀ xs : List α, FrzA (xs.map o) (xs.map r)
  | [] => .nil
  | x :: xs => .cons (h x) (frzA_map h xs)
theorem frz_A {Ws : List Ow} {Ps : List Pr} (f : FrzA Ws Ps) : ∀ {G H : Hp} {vs : List V} {Ls : List (List Addr)}, Gw G H → (∀ a ∈ Ls.flatten, G a = none) → SW G H vs Ws Ls → ∃ G', Gw G G' ∧ Gw G' H ∧ (∀ a, a ∉ Ls.flatten → G' a = G a) ∧ Sat G' vs Ps := by
  induction f with
  | nil =>
    intro G H vs Ls s hL h
    match vs, Ls, h with
    | [], [], _ => exact ⟨G, Gw.refl G, s, fun _ _ => rfl, trivial⟩
  | cons f _ ih =>
    intro G H vs Ls s hL h
    match vs, Ls, h with
    | v :: vs, L :: Ls, h =>
      obtain ⟨G1, g1, s1, o1, p1⟩ := f G H v L s (fun a ha => hL a (mem_fl.mpr (.inl ha))) h.1
      obtain ⟨G2, g2, s2, o2, p2⟩ := ih s1 (fun a ha => by rw [o1 a fun z => h.2.1 a z ha]; exact hL a (mem_fl.mpr (.inr ha))) (h.2.2.m g1 fun _ _ => rfl)
      refine ⟨G2, g1.trans g2, s2, fun a ha => ?_, Pr.m _ g2 p1, p2⟩
      rw [o2 a fun z => ha (mem_fl.mpr (.inr z)), o1 a fun z => ha (mem_fl.mpr (.inl z))]
theorem frz_Ls {Ws : List Ow} {Ps : List Pr} (f : FrzA Ws Ps) : Frz (oLs Ws) (pL Ps) := fun G H v L s hL ⟨a, vs, Ls, h1, h2, h3, h4, h5, h6⟩ => by
  subst h6
  obtain ⟨G1, g1, s1, o1, p1⟩ := frz_A f s (fun b hb => hL b (List.mem_cons_of_mem _ hb)) h3
  have ga : G1 a = none := by rw [o1 a h5]; exact hL a List.mem_cons_self
  refine ⟨upd G1 a (.lst vs), g1.trans (Gw.new ga), fun b u hb => ?_, fun b hb => ?_, a, _, h1, upd_same, vs, rfl, p1.m (Gw.new ga), h4⟩
  · by_cases z : b = a
    · subst z
      rw [upd_same] at hb
      cases hb
      exact h2
    · rw [upd_ne z] at hb
      exact s1 b u hb
  · rw [upd_ne fun z => hb (by rw [z]; exact List.mem_cons_self)]
    exact o1 b fun z => hb (List.mem_cons_of_mem _ z)
theorem frz_Os {C : Addr} {ns : List Str} {Ws : List Ow} {Ps : List Pr} (f : FrzA Ws Ps) : Frz (oOs C ns Ws) (pO C ns Ps) := fun G H v L s hL ⟨a, dx, vs, Ls, h1, h2, h3, h5, h6⟩ => by
  subst h6
  obtain ⟨G1, g1, s1, o1, p1⟩ := frz_A f s (fun b hb => hL b (List.mem_cons_of_mem _ hb)) h3
  have ga : G1 a = none := by rw [o1 a h5]; exact hL a List.mem_cons_self
  refine ⟨upd G1 a (.ins C dx (ns.zip vs)), g1.trans (Gw.new ga), fun b u hb => ?_, fun b hb => ?_, a, _, h1, upd_same, dx, vs, rfl, p1.m (Gw.new ga)⟩
  · by_cases z : b = a
    · subst z
      rw [upd_same] at hb
      cases hb
      exact h2
    · rw [upd_ne z] at hb
      exact s1 b u hb
  · rw [upd_ne fun z => hb (by rw [z]; exact List.mem_cons_self)]
    exact o1 b fun z => hb (List.mem_cons_of_mem _ z)
/-! ### a region read as if no one changed it -/
def Pure (P : Pr) : Prop := ∀ (G G' : Hp) (v : V), P.p G v → P.p G' v
theorem pure_I {i : Int} : Pure (pI i) := fun _ _ _ h => h
theorem pure_B {b : Bool} : Pure (pB b) := fun _ _ _ h => h
theorem pure_S {s : Str} : Pure (pS s) := fun _ _ _ h => h
theorem pure_N : Pure pN := fun _ _ _ h => h
theorem pure_Opt {α : Type} {r : α → Pr} (h : ∀ a, Pure (r a)) : ∀ o : Option α, Pure (pOpt r o)
  | none => pure_N
  | some a => h a
theorem e_lend {te : TE} {Γ : Ctx} {i : Nat} {W : Ow} {P Q : Pr} (hi : Γ[i]? = some (.own W)) (f : Frz W P) (p : Pure Q) (h : EvE te (Γ.set i (.val P)) Q) : EvE te Γ Q := fun F σ G H e R q => by
  obtain ⟨G', g', e'⟩ := e.frz f hi
  exact h F σ G' H e' R fun v G2 H2 g2 p2 => q v G H2 ⟨Gw.refl G, g2.h, e.s.trans g2.h, fun _ _ h => h⟩ (p _ _ v p2)
theorem t_lend {t : TT} {Γ : Ctx} {i : Nat} {W : Ow} {P : Pr} {b : Bool} (hi : Γ[i]? = some (.own W)) (f : Frz W P) (h : EvT t (Γ.set i (.val P)) b) : EvT t Γ b := fun F σ G H e R q => by
  obtain ⟨G', g', e'⟩ := e.frz f hi
  exact h F σ G' H e' R fun G2 H2 g2 => q G H2 ⟨Gw.refl G, g2.h, e.s.trans g2.h, fun _ _ h => h⟩
/-! ### a part of a region -/
structure Foc (F : Fm) (Γ : Ctx) (σ : St) (i : Nat) (U : Ow) (put : Ow → Ow → Prop) (Ls : Nat → List Addr) (v : V) (Lu : List Addr) (G H : Hp) : Prop where
  e : EOk1 F Γ σ G H Ls
  o : ∃ W, Γ[i]? = some (.own W)
  u : U.p G H v Lu
  sub : ∀ a ∈ Lu, a ∈ Ls i
  put : ∀ {G' H' : Hp} {U' W' : Ow} {Lu' : List Addr}, put U' W' → Gw G G' → (∀ a ∈ Ls i, a ∉ Lu → H' a = H a) → U'.p G' H' v Lu' → (∀ a ∈ Lu', a ∈ Lu ∨ a ∉ Ls i) → ∃ v0 L', σ[i]? = some (some v0) ∧ W'.p G' H' v0 L' ∧ Sub L' Lu Lu' (Ls i)
section
variable {F : Fm} {Γ : Ctx} {σ : St} {i : Nat} {U U' W' : Ow} {put : Ow → Ow → Prop} {Ls : Nat → List Addr} {v : V} {Lu Lu' : List Addr} {G H G' H' : Hp}
theorem Foc.eqs (f : Foc F Γ σ i U put Ls v Lu G H) (g : Gr G H G' H') : ∀ a ∈ Ls i, H' a = H a := fun a ha => by
  obtain ⟨W, hW⟩ := f.o
  exact g.h.at (f.e.fr i W hW a ha).2.2
theorem Foc.grow (f : Foc F Γ σ i U put Ls v Lu G H) (g : Gr G H G' H') : Foc F Γ σ i U put Ls v Lu G' H' :=
  ⟨f.e.grow g, f.o, U.m g.g (fun a ha => f.eqs g a (f.sub a ha)) f.u, f.sub, fun {G2 H2 U' W' Lu'} pw g2 k hu hn => f.put pw (g.g.trans g2) (fun a ha hb => (k a ha hb).trans (f.eqs g a ha)) hu hn⟩
theorem Foc.chgN (f : Foc F Γ σ i U put Ls v Lu G H) (pw : put U' W') (gg : Gw G G') (gs : Gw G' H') (ho : ∀ a, a ∉ Lu → H a ≠ none → H' a = H a) (gf : ∀ a, a ∉ Lu → H a ≠ none → G a = none → G' a = none)
    (hu : U'.p G' H' v Lu') (hl : ∀ a ∈ Lu', (a ∈ Lu ∨ ((∀ (j : Nat) (W : Ow), Γ[j]? = some (.own W) → a ∉ Ls j) ∧ F.H a = none)) ∧ G' a = none ∧ H' a ≠ none) : EOk F (Γ.set i (.own W')) σ G' H' := by
  obtain ⟨W, hW⟩ := f.o
  have e := f.e
  have nn : ∀ a ∈ Ls i, H a ≠ none := fun a ha => (e.fr i W hW a ha).2.2
  have nF : ∀ a ∈ Lu, F.H a = none := fun a ha => (e.fr i W hW a (f.sub a ha)).2.1
  obtain ⟨v0, L', hv0, hp, hs⟩ := f.put pw gg (fun a ha hb => ho a hb (nn a ha)) hu (fun a ha => (hl a ha).1.imp_right fun z => z.1 i W hW)
  have hi1 : i < Γ.length := lt_of_get hW
  refine ⟨fun j => if j = i then L' else Ls j, ⟨e.gr.g.trans gg, fun a o h => ?_, gs, fun a ha ga => ?_⟩, F.m gg e.x, by rw [List.length_set, e.len], fun j sl hj => ?_, fun j W1 hj a ha => ?_, fun j k W1 W2 hj hk ne a ha => ?_⟩
  · have h1 := e.gr.h a o h
    rw [ho a (fun q => by rw [nF a q] at h; cases h) (by rw [h1]; exact fun z => nomatch z)]
    exact h1
  · exact gf a (fun q => ha (nF a q)) (fun z => ha (e.gr.h.free z)) (e.gr.f a ha ga)
  · rcases set_get hj with ⟨rfl, _, rfl⟩ | ⟨z, hj⟩
    · rw [hv0, if_pos rfl]
      exact hp
    · rw [if_neg (Ne.symm z)]
      exact (e.at_ j sl hj).go gg fun W2 h2 a ha => ho a (fun q => e.dis j i W2 W (h2 ▸ hj) hW (Ne.symm z) a ha (f.sub a q)) (e.fr j W2 (h2 ▸ hj) a ha).2.2
  · rcases set_get hj with ⟨rfl, _, _⟩ | ⟨z, hj⟩
    · rw [if_pos rfl] at ha
      rcases hs a ha with ⟨q1, q2⟩ | q
      · have r := e.fr _ W hW a q1
        exact ⟨gf a q2 r.2.2 r.1, r.2.1, by rw [ho a q2 r.2.2]; exact r.2.2⟩
      · have r := hl a q
        exact ⟨r.2.1, r.1.elim (nF a) (·.2), r.2.2⟩
    · rw [if_neg (Ne.symm z)] at ha
      have r := e.fr j W1 hj a ha
      have q2 : a ∉ Lu := fun q => e.dis j i W1 W hj hW (Ne.symm z) a ha (f.sub a q)
      exact ⟨gf a q2 r.2.2 r.1, r.2.1, by rw [ho a q2 r.2.2]; exact r.2.2⟩
  · rcases set_get hj with ⟨rfl, _, _⟩ | ⟨z, hj⟩
    · rw [if_pos rfl] at ha
      rw [if_neg (Ne.symm ne)]
      rcases set_get hk with ⟨e1, _, _⟩ | ⟨_, hk⟩
      · exact absurd e1 ne
      · rcases hs a ha with ⟨q1, _⟩ | q
        · exact e.dis _ k W W2 hW hk ne a q1
        · rcases (hl a q).1 with q1 | q1
          · exact e.dis _ k W W2 hW hk ne a (f.sub a q1)
          · exact q1.1 k W2 hk
    · rw [if_neg (Ne.symm z)] at ha
      rcases set_get hk with ⟨rfl, _, _⟩ | ⟨z2, hk⟩
      · rw [if_pos rfl]
        intro q
        rcases hs a q with ⟨q1, _⟩ | q
        · exact e.dis j _ W1 W hj hW ne a ha q1
        · rcases (hl a q).1 with q1 | q1
          · exact e.dis j _ W1 W hj hW ne a ha (f.sub a q1)
          · exact q1.1 j W1 hj ha
      · rw [if_neg (Ne.symm z2)]
        exact e.dis j k W1 W2 hj hk ne a ha
theorem Foc.chg (f : Foc F Γ σ i U put Ls v Lu G H) (pw : put U' W') (gg : Gw G G') (gs : Gw G' H') (ho : ∀ a, a ∉ Lu → H a ≠ none → H' a = H a) (gf : ∀ a, a ∉ Lu → H a ≠ none → G a = none → G' a = none)
    (hu : U'.p G' H' v Lu') (hl : ∀ a ∈ Lu', (a ∈ Lu ∨ H a = none) ∧ G' a = none ∧ H' a ≠ none) : EOk F (Γ.set i (.own W')) σ G' H' :=
  f.chgN pw gg gs ho gf hu fun a ha => ⟨(hl a ha).1.imp_right fun z => ⟨fun j W h q => (f.e.fr j W h a q).2.2 z, f.e.gr.h.free z⟩, (hl a ha).2⟩
end
end Y

set_option Elab.async false
set_option linter.all false
set_option maxRecDepth 100000
namespace Y
open PySem L2
/-- a way into the region of slot i: what stands there, and what the slot is when that is changed -/
def EvF (tp : TE) (Γ : Ctx) (i : Nat) (U : Ow) (put : Ow → Ow → Prop) : Prop := ∀ (F : Fm) (σ : St) (G H : Hp) (Ls : Nat → List Addr), EOk1 F Γ σ G H Ls → ∀ Q : VK, (∀ v Lu G' H', Gr G H G' H' → Foc F Γ σ i U put Ls v Lu G' H' → Q v H') → tp σ H Q
section
variable {K : PySem.W.Frag} {Γ : Ctx} {tp te ti : TE} {i j : Nat} {U U' W : Ow} {Ws : List Ow} {put put' : Ow → Ow → Prop} {W' : Ow} {P : Pr} {Ps : List Pr} {C : Addr} {ns : List Str} {f : Str}
theorem f_var (h : Γ[i]? = some (.own W)) : EvF (tVar i) Γ i W Eq := fun F σ G H Ls e Q q => by
  obtain ⟨v, h1, h2⟩ := (e.at_ i _ h).own_
  exact ⟨v, h1, q v (Ls i) G H (Gr.refl e.gr.s) ⟨e, ⟨W, h⟩, h2, fun _ h => h, fun pw _ _ hu _ => ⟨v, _, h1, pw ▸ hu, fun a ha => .inr ha⟩⟩⟩
theorem set_self {α : Type} : ∀ {l : List α} {j : Nat} {v : α}, l[j]? = some v → l.set j v = l
  | [], _, _, _ => rfl
  | x :: l, 0, _, h => by
    simp at h
    subst h
    rfl
  | x :: l, j + 1, _, h => congrArg (x :: ·) (set_self (by simpa using h))
theorem foc_part {F : Fm} {σ : St} {Ls : Nat → List Addr} {x v : V} {a : Addr} {Lk : List (List Addr)} {L : List Addr} {G H : Hp} {vs : List V} (f : Foc F Γ σ i W put Ls x (a :: Lk.flatten) G H) (h3 : SW G H vs Ws Lk) (h5 : a ∉ Lk.flatten) (hU : U.p G H v L) (hL : Lk[j]? = some L) (hv : vs[j]? = some v)
    (hw : ∀ {U' W' : Ow}, put' U' W' → ∃ M : Ow, put M W' ∧ ∀ {G' H' : Hp} {Lk' : List (List Addr)}, Gw G G' → H' a = H a → SW G' H' vs (Ws.set j U') Lk' → a ∉ Lk'.flatten → M.p G' H' x (a :: Lk'.flatten)) : Foc F Γ σ i U put' Ls v L G H := by
  have fl : ∀ b ∈ L, b ∈ Lk.flatten := fun b hb => mem_flat hL hb
  have na : a ∉ L := fun q => h5 (fl a q)
  refine ⟨f.e, f.o, hU, fun b hb => f.sub b (List.mem_cons_of_mem _ (fl b hb)), fun {G' H' U' W' Lu'} pw gg k hu hn => ?_⟩
  obtain ⟨M, pm, hM⟩ := hw pw
  have sa : a ∈ Ls i := f.sub a List.mem_cons_self
  obtain ⟨n1, n2⟩ := SW.set gg hu h3 hL (fun b hb nb => k b (f.sub b (List.mem_cons_of_mem _ hb)) nb) (fun b hb => (hn b hb).imp_right fun z q => z (f.sub b (List.mem_cons_of_mem _ q)))
  rw [set_self hv] at n1
  have na' : a ∉ (Lk.set j Lu').flatten := fun q => by
    rcases n2 a q with ⟨z, _⟩ | z
    · exact h5 z
    · rcases hn a z with z | z
      · exact na z
      · exact z sa
  obtain ⟨v0, L', hv0, hp, hs⟩ := f.put pm gg (fun b hb nb => k b hb fun q => nb (List.mem_cons_of_mem _ (fl b q))) (hM gg (k a sa na) n1 na') (fun b hb => by
    rcases List.mem_cons.mp hb with z | z
    · exact .inl (by rw [z]; exact List.mem_cons_self)
    · rcases n2 b z with ⟨z, _⟩ | z
      · exact .inl (List.mem_cons_of_mem _ z)
      · exact (hn b z).imp_left fun z => List.mem_cons_of_mem _ (fl b z))
  refine ⟨v0, L', hv0, hp, fun b hb => ?_⟩
  rcases hs b hb with ⟨z1, z2⟩ | z
  · exact .inl ⟨z1, fun q => z2 (List.mem_cons_of_mem _ (fl b q))⟩
  · rcases List.mem_cons.mp z with z | z
    · exact .inl ⟨by rw [z]; exact sa, by rw [z]; exact na⟩
    · rcases n2 b z with ⟨z1, z2⟩ | z
      · exact .inl ⟨f.sub b (List.mem_cons_of_mem _ z1), z2⟩
      · exact .inr z
theorem f_ix {k : Int} (hp : EvF tp Γ i (oLs Ws) put) (hi : EvE ti Γ (pI k)) (hk : ixN Ws.length k = some j) (hU : Ws[j]? = some U) : EvF (tOp (rIxL K) tp ti) Γ i U (fun U' W' => put (oLs (Ws.set j U')) W') := fun F σ G H Ls e Q q =>
  hp F σ G H Ls e _ fun x Lx G1 H1 g1 f1 => hi F σ G1 H1 ⟨Ls, f1.e⟩ _ fun y G2 H2 g2 p2 => by
    have f2 := f1.grow g2
    obtain ⟨a, vs, Lk, h1, h2, h3, h4, h5, h6⟩ := id f2.u
    subst h1 h6
    obtain ⟨v, L, hv, hL, hw⟩ := h3.get hU
    refine ⟨a, vs, k, v, rfl, p2, SqL.of h2, ?_, q v L G2 H2 (g1.trans g2) (foc_part f2 h3 h5 hw hL hv fun {U' W'} pw => ⟨_, pw, fun gg e1 n1 n2 => ⟨a, vs, _, rfl, by rw [e1]; exact h2, n1, h4, n2, rfl⟩⟩)⟩
    unfold atI
    rw [h3.len.1, hk]
    exact hv
theorem f_fld (c : Cls K C) (n : NoAttr K C f) (nd : ns.Nodup) (hj : ns[j]? = some f) (hU : Ws[j]? = some U) (hp : EvF tp Γ i (oOs C ns Ws) put) : EvF (tFld K tp f) Γ i U (fun U' W' => put (oOs C ns (Ws.set j U')) W') := fun F σ G H Ls e Q q =>
  hp F σ G H Ls e _ fun x Lx G1 H1 g1 f1 => by
    obtain ⟨a, dx, vs, Lk, h1, h2, h3, h5, h6⟩ := id f1.u
    subst h1 h6
    obtain ⟨v, L, hv, hL, hw⟩ := h3.get hU
    exact ⟨a, C, dx, _, v, rfl, h2, c, n, lookup_zip nd hj hv, q v L G1 H1 g1 (foc_part f1 h3 h5 hw hL hv fun {U' W'} pw => ⟨_, pw, fun gg e1 n1 n2 => ⟨a, dx, vs, _, rfl, by rw [e1]; exact h2, n1, n2, rfl⟩⟩)⟩
/-- a list that is a part of a region -/
theorem Foc.list {F : Fm} {σ : St} {Ls : Nat → List Addr} {v : V} {Lu : List Addr} {G H : Hp} (f : Foc F Γ σ i (oL Ps) put Ls v Lu G H) : ∃ a vs, v = .ref a ∧ H a = some (.lst vs) ∧ Sat G vs Ps ∧ vs.length ≤ sizeLine ∧
    ∀ ws Qs W', put (oL Qs) W' → Sat G ws Qs → ws.length ≤ sizeLine → EOk F (Γ.set i (.own W')) σ G (upd H a (.lst ws)) := by
  obtain ⟨a, o, h1, h2, h3, vs, h4, h5, h6⟩ := id f.u
  subst h4 h2
  obtain ⟨W, hW⟩ := f.o
  have fr := f.e.fr i W hW a (f.sub a (List.mem_singleton.mpr rfl))
  refine ⟨a, vs, h1, h3, h5, h6, fun ws Qs W' pw s l => f.chg (U' := oL Qs) (Lu' := [a]) pw (Gw.refl G) (Gw.mut f.e.gr.s fr.1) (fun b hb _ => upd_ne fun z => hb (List.mem_singleton.mpr z)) (fun b _ _ h => h) ⟨a, .lst ws, h1, rfl, upd_same, ws, rfl, s, l⟩ fun b hb => ?_⟩
  rw [List.mem_singleton.mp hb, upd_same]
  exact ⟨.inl (List.mem_singleton.mpr rfl), fr.1, fun z => nomatch z⟩
theorem ref_inj {a b : Addr} (h : V.ref a = V.ref b) : a = b := by cases h; rfl
/-- p.append(e) -/
theorem s_appF {Γ' : Ctx} (hp : EvF tp Γ i (oL Ps) put) (h : EvE te Γ P) (hz : Ps.length < sizeLine) (pw : put (oL (Ps ++ [P])) W') (hc : Γ.set i (.own W') = Γ') : StS (tDrop (tBM K "list" rAppend tp (tCons te tNil))) Γ (.nx Γ') := fun F σ G H D ⟨Ls, e⟩ g =>
  hp F σ G H Ls e _ fun x Lx G1 H1 g1 f1 => by
    obtain ⟨a, vs, h1, h2, h3, h4, _⟩ := f1.list
    subst h1 hc
    refine ⟨.inl ⟨rfl, vs, SqL.of h2⟩, h F σ G1 H1 ⟨Ls, f1.e⟩ _ fun v G' H' gr p => ?_⟩
    obtain ⟨b, ws, k1, k2, k3, k4, k5⟩ := (f1.grow gr).list
    cases ref_inj k1
    refine ⟨a, ws, v, rfl, rfl, k2, by rw [k3.len]; exact hz, g σ G' _ (k5 _ _ _ pw (k3.snoc p) ?_)⟩
    rw [List.length_append, k3.len]
    exact hz
/-- p.append(a region) -/
theorem s_appFW {Γ' : Ctx} (hp : EvF tp Γ i (oLs Ws) put) (h : EvW te Γ W) (hz : Ws.length < sizeLine) (pw : put (oLs (Ws ++ [W])) W') (hc : Γ.set i (.own W') = Γ') : StS (tDrop (tBM K "list" rAppend tp (tCons te tNil))) Γ (.nx Γ') := fun F σ G H D ⟨Ls, e⟩ g =>
  hp F σ G H Ls e _ fun x Lx G1 H1 g1 f1 => by
    obtain ⟨a, vs, Lk, h1, h2, h3, h4, h5, h6⟩ := id f1.u
    subst h1 h6 hc
    refine ⟨.inl ⟨rfl, vs, SqL.of h2⟩, h F σ G1 H1 ⟨Ls, f1.e⟩ _ fun v L G' H' gr hL hw => ?_⟩
    have ha : H' a = some (.lst vs) := gr.h _ _ h2
    have n1 : ∀ b ∈ a :: Lk.flatten, H1 b ≠ none := fun b hb => by
      obtain ⟨W, hW⟩ := f1.o
      exact (f1.e.fr i W hW b (f1.sub b hb)).2.2
    have n2 : ∀ b ∈ a :: Lk.flatten, G1 b = none := fun b hb => by
      obtain ⟨W, hW⟩ := f1.o
      exact (f1.e.fr i W hW b (f1.sub b hb)).1
    have na : a ∉ L := fun q => by
      rw [(hL a q).1] at h2
      cases h2
    have ga : G' a = none := gr.f a (n1 a List.mem_cons_self) (n2 a List.mem_cons_self)
    have fe : (Lk ++ [L]).flatten = Lk.flatten ++ L := by rw [List.flatten_append, List.flatten_cons, List.flatten_nil, List.append_nil]
    refine ⟨a, vs, v, rfl, rfl, ha, by rw [h3.len.1]; exact hz, g σ G' _ (f1.chg (U' := oLs (Ws ++ [W])) (Lu' := a :: (Lk ++ [L]).flatten) pw gr.g (Gw.mut gr.s ga) (fun b hb hn => ?_) (fun b _ h1 h2 => gr.f b h1 h2) ⟨a, vs ++ [v], Lk ++ [L], rfl, upd_same, ?_, ?_, ?_, rfl⟩ fun b hb => ?_)⟩
    · rw [upd_ne fun z => hb (by rw [z]; exact List.mem_cons_self)]
      exact gr.h.at hn
    · refine SW.snoc (W.m (Gw.refl _) (fun b hb => upd_ne fun z => na (by rw [← z]; exact hb)) hw) (h3.m gr.g fun b hb => ?_) fun b hb q => n1 b (List.mem_cons_of_mem _ q) (hL b hb).1
      rw [upd_ne fun z => h5 (by rw [← z]; exact hb)]
      exact gr.h.at (n1 b (List.mem_cons_of_mem _ hb))
    · rw [List.length_append, h3.len.1]
      exact hz
    · rw [fe, List.mem_append]
      exact fun z => z.elim h5 na
    · rw [fe] at hb
      rcases List.mem_cons.mp hb with z | z
      · subst z
        exact ⟨.inl List.mem_cons_self, ga, by rw [upd_same]; exact fun z => nomatch z⟩
      · have nb : b ≠ a := fun q => by
          subst q
          exact (List.mem_append.mp z).elim h5 na
        rw [upd_ne nb]
        rcases List.mem_append.mp z with z | z
        · have m := List.mem_cons_of_mem a z
          exact ⟨.inl m, gr.f b (n1 b m) (n2 b m), fun q => n1 b m (gr.h.free q)⟩
        · exact ⟨.inr (hL b z).1, (hL b z).2⟩
/-- p[k] = e -/
theorem s_setLF {Γ' : Ctx} {k : Int} (hp : EvF tp Γ i (oL Ps) put) (h : EvE te Γ P) (hk : EvE ti Γ (pI k)) (hj : ixN Ps.length k = some j) (pw : put (oL (Ps.set j P)) W') (hc : Γ.set i (.own W') = Γ') : StS (tAsg te (gSub tp ti rSetL)) Γ (.nx Γ') := fun F σ G H D e g =>
  h F σ G H e _ fun v G1 H1 g1 p1 => by
    obtain ⟨Ls, e1⟩ := e.grow g1
    subst hc
    refine hp F σ G1 H1 Ls e1 _ fun x Lx G2 H2 g2 f2 => ?_
    obtain ⟨a, vs, h1, _⟩ := f2.list
    refine hk F σ G2 H2 ⟨Ls, f2.e⟩ _ fun y G3 H3 g3 p3 => ?_
    obtain ⟨b, ws, k1, k2, k3, k4, k5⟩ := (f2.grow g3).list
    subst h1
    cases ref_inj k1
    refine ⟨a, ws, k, j, rfl, p3, k2, by rw [k3.len]; exact hj, g σ G3 _ (k5 _ _ _ pw (Sat.set (P.m (g2.g.trans g3.g) p1) j k3) ?_)⟩
    rw [List.length_set]
    exact k4
/-- p[k] op= e, ints -/
theorem s_augLF {Γ' : Ctx} {f : Int → Int → Int} {k a b : Int} (hp : EvF tp Γ i (oL Ps) put) (hk : EvE ti Γ (pI k)) (hj : ixN Ps.length k = some j) (ha : Ps[j]? = some (pI a)) (h : EvE te Γ (pI b)) (pw : put (oL (Ps.set j (pI (f a b)))) W') (hc : Γ.set i (.own W') = Γ') :
    StS (tAugS tp ti te (rIxL K) (ipI f) rSetL) Γ (.nx Γ') := fun F σ G H D ⟨Ls, e⟩ g =>
  hp F σ G H Ls e _ fun x0 Lx G0 H0 g0 f0 => by
    obtain ⟨p, vs, h1, h2, h3, h4, _⟩ := f0.list
    subst h1 hc
    refine hk F σ G0 H0 ⟨Ls, f0.e⟩ _ fun y G1 H1 g1 p1 => ?_
    obtain ⟨q, us, k1, k2, k3, k4, _⟩ := (f0.grow g1).list
    cases ref_inj k1
    have hat : atI Ps k = some (pI a) := by
      unfold atI
      rw [hj]
      exact ha
    obtain ⟨x, x1, x2⟩ := sat_atI k3 hat
    refine ⟨p, us, k, x, rfl, p1, SqL.of k2, x1, h F σ G1 H1 ⟨Ls, (f0.grow g1).e⟩ _ fun z G2 H2 g2 p2 => ⟨a, b, x2, p2, ?_⟩⟩
    obtain ⟨q, ws, k1, l2, l3, l4, l5⟩ := ((f0.grow g1).grow g2).list
    cases ref_inj k1
    refine ⟨p, ws, k, j, rfl, p1, l2, by rw [l3.len]; exact hj, g σ G2 _ (l5 _ _ _ pw (Sat.set (P := pI (f a b)) rfl j l3) ?_)⟩
    rw [List.length_set]
    exact l4
/-- p.pop(k), the value kept in slot n -/
theorem s_popAtF {Γ' : Ctx} {k : Int} {n m : Nat} (hp : EvF tp Γ i (oL Ps) put) (hk : EvE ti Γ (pI k)) (hb : -(2 ^ 63) ≤ k ∧ k < 2 ^ 63) (hn : seqIndex? k Ps.length = some m) (hP : Ps[m]? = some P) (hj : n < Γ.length) (pw : put (oL (Ps.eraseIdx m)) W') (hc : (Γ.set i (.own W')).set n (.val P) = Γ') :
    StS (tAsg (tBM K "list" rPopAt tp (tCons ti tNil)) (gName n)) Γ (.nx Γ') := fun F σ G H D ⟨Ls, e⟩ g =>
  hp F σ G H Ls e _ fun x0 Lx G0 H0 g0 f0 => by
    obtain ⟨a, vs, h1, h2, h3, h4, _⟩ := f0.list
    subst h1 hc
    refine ⟨.inl ⟨rfl, vs, SqL.of h2⟩, hk F σ G0 H0 ⟨Ls, f0.e⟩ _ fun v G' H' gr p => ?_⟩
    obtain ⟨b, ws, k1, k2, k3, k4, k5⟩ := (f0.grow gr).list
    cases ref_inj k1
    obtain ⟨x, x1, x2⟩ := k3.get hP
    refine ⟨a, ws, k, m, x, rfl, by rw [show v = .int k from p], k2, hb.1, hb.2, by rw [k3.len]; exact hn, x1, g _ G' _ ?_⟩
    exact (k5 _ _ _ pw (k3.erase m) (Nat.le_trans (List.length_eraseIdx_le _ _) k4)).set x2 (by rw [List.length_set]; exact hj)
end
end Y

set_option Elab.async false
set_option linter.all false
set_option maxRecDepth 100000
namespace Y
open PySem L2
/-! ### expressions that change a region -/
def EvU (te : TE) (Γ Γ' : Ctx) (P : Pr) : Prop := ∀ (F : Fm) (σ : St) (G H : Hp), EOk F Γ σ G H → ∀ Q : VK, (∀ v G' H', EOk F Γ' σ G' H' → P.p G' v → Q v H') → te σ H Q
def EvTU (t : TT) (Γ Γ' : Ctx) (b : Bool) : Prop := ∀ (F : Fm) (σ : St) (G H : Hp), EOk F Γ σ G H → ∀ Q : Bool → Hp → Prop, (∀ G' H', EOk F Γ' σ G' H' → Q b H') → t σ H Q
section
variable {K : PySem.W.Frag} {Γ Γ1 Γ2 : Ctx} {tp te ti : TE} {t : TT} {ts us ws : TS} {i j : Nat} {U U' W : Ow} {Ws : List Ow} {put : Ow → Ow → Prop} {W' : Ow} {P : Pr} {Ps Ds : List Pr} {C : Addr} {ns : List Str} {f : Str} {o : Out} {g : TG} {js : List Nat}
theorem s_asgU (h : EvU te Γ Γ1 P) (hi : i < Γ1.length) : StS (tAsg te (gName i)) Γ (.nx (Γ1.set i (.val P))) := fun F σ G H D e g =>
  h F σ G H e _ fun v G' H' e' p => g _ G' H' (e'.set p hi)
theorem s_dropU (h : EvU te Γ Γ1 P) : StS (tDrop te) Γ (.nx Γ1) := fun F σ G H D e g => h F σ G H e _ fun v G' H' e' p => g σ G' H' e'
theorem s_retU (h : EvU te Γ Γ1 P) (hk : Γ1[i]? = some (.own W)) : StS (tRet te) Γ (.ru i W P) := fun F σ G H D e g => h F σ G H e _ fun v G' H' e' p => g v σ G' H' Γ1 e' hk p
theorem s_retE (h : EvE te Γ P) (hk : Γ[i]? = some (.own W)) : StS (tRet te) Γ (.ru i W P) := fun F σ G H D e g => h F σ G H e _ fun v G' H' g' p => g v σ G' H' Γ (e.grow g') hk p
theorem s_retNU (hk : Γ[i]? = some (.own W)) : StS tRetN Γ (.ru i W pN) := fun F σ G H D e g => g _ σ G H Γ e hk rfl
theorem s_rnR (h : StS ts Γ (.ru i W P)) : StS ts Γ (.rn i W P) := fun F σ G H D e g => h F σ G H D e g.1
theorem s_rnRS (h : StS ts Γ (.ru i W P)) : StS (tSeq ts us) Γ (.rn i W P) := fun F σ G H D e g => h F σ G H { D with nx := us D } e g.1
theorem s_rnN (h : StS ts Γ (.nx Γ1)) (hk : Γ1[i]? = some (.own W)) : StS ts Γ (.rn i W pN) := fun F σ G H D e g => h F σ G H D e fun σ' G' H' e' => g.2 rfl σ' G' H' Γ1 e' hk
theorem s_retW (h : EvW te Γ W) : StS (tRet te) Γ (.rw W) := fun F σ G H D ⟨Ls, e⟩ g =>
  h F σ G H ⟨Ls, e⟩ _ fun v L G' H' g' hL hw => g v L G' H' (e.gr.trans g') (fun a ha => ⟨e.gr.h.free (hL a ha).1, (hL a ha).2⟩) hw
theorem s_retO (hi : Γ[i]? = some (.own W)) : StS (tRet (tVar i)) Γ (.rw W) := fun F σ G H D ⟨Ls, e⟩ g => by
  obtain ⟨v, h1, h2⟩ := (e.at_ i _ hi).own_
  exact ⟨v, h1, g v (Ls i) G H e.gr (fun a ha => ⟨(e.fr i W hi a ha).2.1, (e.fr i W hi a ha).1, (e.fr i W hi a ha).2.2⟩) h2⟩
theorem s_seqRW (h1 : StS ts Γ (.rw W)) : StS (tSeq ts us) Γ (.rw W) := fun F σ G H D e g => h1 F σ G H { D with nx := us D } e g
theorem t_testU {b : Bool} (h : EvU te Γ Γ1 (pB b)) : EvTU (tTest te) Γ Γ1 b := fun F σ G H e Q q => h F σ G H e _ fun v G' H' e' p => ⟨b, p, q G' H' e'⟩
theorem t_notU {b : Bool} (h : EvTU t Γ Γ1 b) : EvTU (tNot t) Γ Γ1 (!b) := fun F σ G H e Q q => h F σ G H e _ fun G' H' e' => q G' H' e'
theorem s_ifU {b : Bool} (h : EvTU t Γ Γ1 b) (h1 : b = true → StS us Γ1 o) (h2 : b = false → StS ws Γ1 o) : StS (tIfS t us ws) Γ o := fun F σ G H D e g =>
  h F σ G H e _ fun G' H' e' => by
    cases b with
    | true => exact h1 rfl F σ G' H' D e' g
    | false => exact h2 rfl F σ G' H' D e' g
/-! ### a region that is handed to a def -/
def delL (H : Hp) (L : List Addr) : Hp := fun a => if a ∈ L then none else H a
theorem delL_in {H : Hp} {L : List Addr} {a : Addr} (h : a ∈ L) : delL H L a = none := if_pos h
theorem delL_out {H : Hp} {L : List Addr} {a : Addr} (h : a ∉ L) : delL H L a = H a := if_neg h
def spU (k : Nat) (R : Ow → List Pr → Ow → Pr → Prop) : Sp := fun vs H Q _ => ∃ U U' Ps P G L v, R U Ps U' P ∧ vs[k]? = some v ∧ U.p G H v L ∧ Gw G H ∧ (∀ a ∈ L, G a = none ∧ H a ≠ none) ∧ Sat G (vs.eraseIdx k) Ps ∧
  ∀ r G' H' L', Gr G (delL H L) G' H' → (∀ a ∈ L', (a ∈ L ∨ H a = none) ∧ G' a = none ∧ H' a ≠ none) → U'.p G' H' v L' → P.p G' r → Q r H'
/-- a new region is handed back -/
def spW (R : List Pr → Ow → Prop) : Sp := fun vs H Q _ => ∃ Ps W G, R Ps W ∧ Gw G H ∧ Sat G vs Ps ∧ ∀ v L G' H', Gr G H G' H' → (∀ a ∈ L, H a = none ∧ G' a = none ∧ H' a ≠ none) → W.p G' H' v L → Q v H'
def ctxU (n k : Nat) (v : V) (U : Ow) (Ps : List Pr) : Ctx := (Ps.map Slot.val).insertIdx k (.own (oAt v U)) ++ List.replicate (n - (Ps.length + 1)) Slot.any
theorem erase_get {α : Type} {l : List α} {k i : Nat} : (l.eraseIdx k)[i]? = if i < k then l[i]? else l[i + 1]? := List.getElem?_eraseIdx
theorem eok_startU {G H : Hp} {k : Nat} {v : V} {U : Ow} {L : List Addr} {vs : List V} {Ps : List Pr} {N : List Str} (s : Gw G H) (hv : vs[k]? = some v) (hu : U.p G H v L) (hL : ∀ a ∈ L, G a = none ∧ H a ≠ none) (st : Sat G (vs.eraseIdx k) Ps) (hn : Ps.length + 1 ≤ N.length) :
    EOk ⟨G, delL H L, fun _ => True, fun _ h => h⟩ (ctxU N.length k v U Ps) (L2.start N vs) G H := by
  have hk : k < vs.length := lt_of_get hv
  have lv : vs.length = Ps.length + 1 := by
    have := st.len
    rw [List.length_eraseIdx, if_pos hk] at this
    omega
  have kp : k ≤ Ps.length := by omega
  have lA : ((Ps.map Slot.val).insertIdx k (.own (oAt v U))).length = Ps.length + 1 := by
    rw [List.length_insertIdx, List.length_map, if_pos kp]
  have get : ∀ {i : Nat} {sl : Slot}, (ctxU N.length k v U Ps)[i]? = some sl → (i = k ∧ sl = .own (oAt v U)) ∨ (i < vs.length ∧ i ≠ k ∧ ∃ P u, sl = .val P ∧ vs[i]? = some u ∧ P.p G u) ∨ sl = .any := fun {i sl} h => by
    unfold ctxU at h
    by_cases hi : i < Ps.length + 1
    · rw [List.getElem?_append_left (by rw [lA]; exact hi), List.getElem?_insertIdx] at h
      by_cases h1 : i < k
      · rw [if_pos h1, List.getElem?_map] at h
        cases hp : Ps[i]? with
        | none =>
          rw [hp] at h
          cases h
        | some P =>
          rw [hp] at h
          cases h
          obtain ⟨u, q1, q2⟩ := st.get hp
          rw [erase_get, if_pos h1] at q1
          exact .inr (.inl ⟨by omega, by omega, P, u, rfl, q1, q2⟩)
      · rw [if_neg h1] at h
        by_cases h2 : i = k
        · rw [if_pos h2, if_pos (by rw [List.length_map]; omega)] at h
          cases h
          exact .inl ⟨h2, rfl⟩
        · rw [if_neg h2, List.getElem?_map] at h
          cases hp : Ps[i - 1]? with
          | none =>
            rw [hp] at h
            cases h
          | some P =>
            rw [hp] at h
            cases h
            obtain ⟨u, q1, q2⟩ := st.get hp
            rw [erase_get, if_neg (by omega), show i - 1 + 1 = i by omega] at q1
            exact .inr (.inl ⟨by omega, h2, P, u, rfl, q1, q2⟩)
    · rw [List.getElem?_append_right (by rw [lA]; omega)] at h
      exact .inr (.inr (List.eq_of_mem_replicate (List.mem_of_getElem? h)))
  have own : ∀ {i : Nat} {W : Ow}, (ctxU N.length k v U Ps)[i]? = some (.own W) → i = k ∧ W = oAt v U := fun {i W} h => by
    rcases get h with ⟨h1, h2⟩ | ⟨_, _, P, u, h2, _⟩ | h2
    · cases h2
      exact ⟨h1, rfl⟩
    · cases h2
    · cases h2
  have sg : ∀ {i : Nat} {u : V}, vs[i]? = some u → (L2.start N vs)[i]? = some (some u) := fun {i u} h => by
    unfold L2.start
    rw [List.getElem?_append_left (by rw [List.length_map]; exact lt_of_get h), List.getElem?_map, h]
    rfl
  refine ⟨fun _ => L, ⟨Gw.refl G, fun a o e => ?_, s, fun _ _ h => h⟩, trivial, ?_, fun i sl h => ?_, fun i W h a ha => ?_, fun i j W W' h h' ne => ?_⟩
  · have e : delL H L a = some o := e
    by_cases z : a ∈ L
    · rw [delL_in z] at e
      cases e
    · rw [delL_out z] at e
      exact e
  · unfold L2.start ctxU
    rw [List.length_append, List.length_append, List.length_map, List.length_replicate, List.length_replicate, lA]
    omega
  · rcases get h with ⟨h1, h2⟩ | ⟨_, _, P, u, h2, h3, h4⟩ | h2
    · subst h1 h2
      rw [sg hv]
      exact ⟨rfl, hu⟩
    · subst h2
      rw [sg h3]
      exact h4
    · subst h2
      trivial
  · exact ⟨(hL a ha).1, delL_in ha, (hL a ha).2⟩
  · exact absurd ((own h).1.trans (own h').1.symm) ne
end
section
variable {P : Program} {w : World} {K : PySem.W.Frag} {mg : Str → Option Value} {base : Heap} {x qual : Str} {params : Arguments} {body : List Stmt} {scope : Scope} {dvs : List V} {kws : List (Str × V)} {f : Addr} {fd : FuncData}
theorem fn_U {N ps : List Str} {n k : Nat} {R : Ow → List Pr → Ow → Pr → Prop} (F : FunD K x qual params body scope dvs kws f fd) (S : FnScope N ps scope) (hl : ∀ U Ps U' P, R U Ps U' P → Ps.length + 1 = ps.length) (hn : ps.length ≤ N.length)
    (hb : ∀ (cdv : Value) (A : Around) (outer : List Env) (s : Shared) (H : Hp) (E : XK), Room n (A.deeper (PyProof.Rows.envOfC qual scope s.heap.objs.size f cdv)) →
      ∃ t, PSs (cxOf CX0 P w K mg base N qual scope f cdv A outer s H E).nox body t ∧ ∀ v U Ps U' P, R U Ps U' P → StS t (ctxU N.length k v U Ps) (.rn k (oAt v U') P)) : FnOk P w K mg base CX0 (n + 1) f fd ps (spU k R) := by
  refine F.ok S (fun vs H Q E ⟨U, U', Ps, Pq, G, L, v, h1, h2, _, _, _, h6, _⟩ => ?_) fun cdv A outer s H vs Q E hr ⟨U, U', Ps, Pq, G, L, v, h1, h2, h3, h4, h5, h6, h7⟩ => ?_
  · have := h6.len
    rw [List.length_eraseIdx, if_pos (lt_of_get h2)] at this
    have := hl _ _ _ _ h1
    have := lt_of_get h2
    omega
  · obtain ⟨t, ht, hs⟩ := hb cdv A outer s H E hr
    have hs := hs v U Ps U' Pq h1
    have e0 := eok_startU (N := N) h4 h2 h3 h5 h6 (by rw [hl _ _ _ _ h1]; exact hn)
    have fin : ∀ (r : V) (σ' : St) (G' H' : Hp) (Γ' : Ctx), EOk ⟨G, delL H L, fun _ => True, fun _ h => h⟩ Γ' σ' G' H' → Γ'[k]? = some (.own (oAt v U')) → Pq.p G' r → Q r H' := fun r σ' G' H' Γ' ⟨Ls, e⟩ hk p => by
      obtain ⟨v', _, k2, k3⟩ := (e.at_ k _ hk).own_
      subst k2
      refine h7 r G' H' (Ls k) e.gr (fun a ha => ?_) k3 p
      have q := e.fr k _ hk a ha
      refine ⟨?_, q.1, q.2.2⟩
      by_cases z : a ∈ L
      · exact .inl z
      · have q2 : delL H L a = none := q.2.1
        rw [delL_out z] at q2
        exact .inr q2
    exact ⟨t, ht.nox, hs _ _ G H _ e0 ⟨fin, fun ep σ' G' H' Γ' e hk => fin .non σ' G' H' Γ' e hk (by rw [ep]; rfl)⟩⟩
theorem fn_W {N ps : List Str} {k : Nat} {R : List Pr → Ow → Prop} (F : FunD K x qual params body scope dvs kws f fd) (S : FnScope N ps scope) (hl : ∀ Ps W, R Ps W → Ps.length = ps.length) (hn : ps.length ≤ N.length)
    (hb : ∀ (cdv : Value) (A : Around) (outer : List Env) (s : Shared) (H : Hp) (E : XK), Room k (A.deeper (PyProof.Rows.envOfC qual scope s.heap.objs.size f cdv)) →
      ∃ t, PSs (cxOf CX0 P w K mg base N qual scope f cdv A outer s H E).nox body t ∧ ∀ Ps W, R Ps W → StS t (ctx0 N.length Ps) (.rw W)) : FnOk P w K mg base CX0 (k + 1) f fd ps (spW R) := by
  refine F.ok S (fun vs H Q E ⟨Ps, W, G, h1, h2, h3, _⟩ => h3.len.trans (hl Ps W h1)) fun cdv A outer s H vs Q E hr ⟨Ps, W, G, h1, h2, h3, h4⟩ => ?_
  obtain ⟨t, ht, hs⟩ := hb cdv A outer s H E hr
  exact ⟨t, ht.nox, hs Ps W h1 _ (L2.start N vs) G H _ (eok_start h2 h3 (by rw [hl Ps W h1]; exact hn)) fun v L G' H' g hL hw => h4 v L G' H' g hL hw⟩
end
section
variable {K : PySem.W.Frag} {Γ Γ1 Γ2 : Ctx} {tp te ti ta : TE} {tr tas : TA} {t : TT} {ts us ws : TS} {i j k : Nat} {U U' W : Ow} {Ws : List Ow} {put : Ow → Ow → Prop} {W' : Ow} {P : Pr} {Ps Ds : List Pr} {C : Addr} {ns : List Str} {f m : Str} {dvs : List V} {E : XK}
def EvAU (ta : TA) (Γ : Ctx) (i : Nat) (U : Ow) (put : Ow → Ow → Prop) (k : Nat) (Ps : List Pr) : Prop := ∀ (F : Fm) (σ : St) (G H : Hp) (Ls : Nat → List Addr), EOk1 F Γ σ G H Ls → ∀ Q : List V → Hp → Prop,
  (∀ vs v Lu G' H', Gr G H G' H' → vs[k]? = some v → Foc F Γ σ i U put Ls v Lu G' H' → Sat G' (vs.eraseIdx k) Ps → Q vs H') → ta σ H Q
theorem au_here (hp : EvF tp Γ i U put) (h : EvA tr Γ Ps) : EvAU (tCons tp tr) Γ i U put 0 Ps := fun F σ G H Ls e Q q =>
  hp F σ G H Ls e _ fun v Lu G1 H1 g1 f1 => h F σ G1 H1 ⟨Ls, f1.e⟩ _ fun vs G2 H2 g2 s2 => q (v :: vs) v Lu G2 H2 (g1.trans g2) rfl (f1.grow g2) s2
theorem au_cons (h : EvE te Γ P) (hr : EvAU tr Γ i U put k Ps) : EvAU (tCons te tr) Γ i U put (k + 1) (P :: Ps) := fun F σ G H Ls e Q q =>
  h F σ G H ⟨Ls, e⟩ _ fun x G1 H1 g1 p1 => hr F σ G1 H1 Ls (e.grow g1) _ fun vs v Lu G2 H2 g2 hv f2 s2 => q (x :: vs) v Lu G2 H2 (g1.trans g2) (by simpa using hv) f2 ⟨P.m g2.g p1, s2⟩
theorem Foc.frE {F : Fm} {σ : St} {Ls : Nat → List Addr} {v : V} {Lu : List Addr} {G H : Hp} (f : Foc F Γ σ i U put Ls v Lu G H) : ∀ a ∈ Lu, G a = none ∧ H a ≠ none := fun a ha => by
  obtain ⟨W, hW⟩ := f.o
  have q := f.e.fr i W hW a (f.sub a ha)
  exact ⟨q.1, q.2.2⟩
theorem Foc.call {F : Fm} {σ : St} {Ls : Nat → List Addr} {v : V} {Lu L' : List Addr} {G H G' H' : Hp} (f : Foc F Γ σ i U put Ls v Lu G H) (pw : put U' W') (g : Gr G (delL H Lu) G' H') (hL : ∀ a ∈ L', (a ∈ Lu ∨ H a = none) ∧ G' a = none ∧ H' a ≠ none) (hu : U'.p G' H' v L') :
    EOk F (Γ.set i (.own W')) σ G' H' := by
  refine f.chg pw g.g g.s (fun b hb hn => ?_) (fun b hb hn hg => g.f b ?_ hg) hu hL
  · rw [g.h.at (a := b) (by rw [delL_out hb]; exact hn), delL_out hb]
  · rw [delL_out hb]
    exact hn
theorem e_callU {R : Ow → List Pr → Ow → Pr → Prop} (h : EvAU tas Γ i U put k Ps) (hd : Dfl dvs Ds) (hR : R U (Ps ++ Ds) U' P) (pw : put U' W') (hc : Γ.set i (.own W') = Γ1) : EvU (tCall (spU k R) dvs E tas) Γ Γ1 P := fun F σ G H ⟨Ls, e⟩ Q q =>
  h F σ G H Ls e _ fun vs v Lu G1 H1 g1 hv f1 s1 => by
    subst hc
    refine ⟨U, U', Ps ++ Ds, P, G1, Lu, v, hR, ?_, f1.u, f1.e.gr.s, f1.frE, ?_, fun r G' H' L' g hL hu hp => q r G' H' (f1.call pw g hL hu) hp⟩
    · rw [List.getElem?_append_left (lt_of_get hv)]
      exact hv
    · rw [List.eraseIdx_append_of_lt_length (lt_of_get hv)]
      exact s1.app (hd G1)
theorem e_callU0 {R : Ow → List Pr → Ow → Pr → Prop} (h : EvAU tas Γ i U put k Ps) (hR : R U Ps U' P) (pw : put U' W') (hc : Γ.set i (.own W') = Γ1) : EvU (tCall (spU k R) [] E tas) Γ Γ1 P := e_callU (Ds := []) h (fun _ => trivial) (by rw [List.append_nil]; exact hR) pw hc
/-- a region that is an object without an own m -/
def Ins (U : Ow) (C : Addr) (m : Str) : Prop := ∀ G H v L, U.p G H v L → ∃ a dx fs, v = .ref a ∧ H a = some (.ins C dx fs) ∧ fs.lookup m = none
theorem ins_Os (h : m ∉ ns) : Ins (oOs C ns Ws) C m := fun G H v L ⟨a, dx, vs, Ls, h1, h2, _⟩ => ⟨a, dx, _, h1, h2, lookup_none h⟩
theorem ins_At {x : V} (h : Ins U C m) : Ins (oAt x U) C m := fun G H v L ⟨_, h2⟩ => h G H v L h2
theorem e_methU {R : Ow → List Pr → Ow → Pr → Prop} (hp : EvF tp Γ i U put) (hm : Ins U C m) (h : EvA tas Γ Ps) (hd : Dfl dvs Ds) (hR : R U (Ps ++ Ds) U' P) (pw : put U' W') (hc : Γ.set i (.own W') = Γ1) : EvU (tMeth C m (spU 0 R) dvs E tp tas) Γ Γ1 P := fun F σ G H ⟨Ls, e⟩ Q q =>
  hp F σ G H Ls e _ fun x Lu G1 H1 g1 f1 => by
    subst hc
    obtain ⟨a, dx, fs, h1, h2, h3⟩ := hm _ _ _ _ f1.u
    refine ⟨a, dx, fs, h1, h2, h3, h F σ G1 H1 ⟨Ls, f1.e⟩ _ fun vs G2 H2 g2 s2 => ?_⟩
    have f2 := f1.grow g2
    exact ⟨U, U', Ps ++ Ds, P, G2, Lu, x, hR, rfl, f2.u, f2.e.gr.s, f2.frE, s2.app (hd G2), fun r G' H' L' g hL hu hp => q r G' H' (f2.call pw g hL hu) hp⟩
theorem e_methU0 {R : Ow → List Pr → Ow → Pr → Prop} (hp : EvF tp Γ i U put) (hm : Ins U C m) (h : EvA tas Γ Ps) (hR : R U Ps U' P) (pw : put U' W') (hc : Γ.set i (.own W') = Γ1) : EvU (tMeth C m (spU 0 R) [] E tp tas) Γ Γ1 P := e_methU (Ds := []) hp hm h (fun _ => trivial) (by rw [List.append_nil]; exact hR) pw hc
theorem e_makeU {R : Ow → List Pr → Ow → Pr → Prop} (h : EvA tas Γ Ps) (hd : Dfl dvs Ds) (hR : R (oOs C [] []) (Ps ++ Ds) W pN) : EvW (tMake C (spU 0 R) dvs E tas) Γ W := fun F σ G H e Q q =>
  h F σ G H e _ fun vs G1 H1 g1 s1 => fun x dx hx hdx ne => by
    have gx : G1 x = none := g1.s.free hx
    refine ⟨oOs C [] [], W, Ps ++ Ds, pN, G1, [x], .ref x, hR, rfl, ⟨x, dx, [], [], rfl, upd_same, trivial, (fun z => nomatch z), rfl⟩, gw_made g1.s hx hdx, fun a ha => ?_, s1.app (hd G1), fun r G' H' L' g hL hu hp => ⟨hp, ?_⟩⟩
    · rw [List.mem_singleton.mp ha, upd_same]
      exact ⟨gx, fun z => nomatch z⟩
    · have old : ∀ b, H1 b ≠ none → delL (upd (upd H1 dx (.own x)) x (.ins C dx [])) [x] b = H1 b := fun b hb => by
        have n1 : b ≠ x := fun z => hb (z ▸ hx)
        have n2 : b ≠ dx := fun z => hb (z ▸ hdx)
        rw [delL_out (fun z => n1 (List.mem_singleton.mp z)), upd_ne n1, upd_ne n2]
      refine q (.ref x) L' G' H' (g1.trans ⟨g.g, fun b o hb => ?_, g.s, fun b hb hg => ?_⟩) (fun b hb => ⟨?_, (hL b hb).2⟩) hu
      · refine g.h b o ?_
        rw [old b (by rw [hb]; exact fun z => nomatch z)]
        exact hb
      · refine g.f b ?_ hg
        rw [old b hb]
        exact hb
      · rcases (hL b hb).1 with z | z
        · rw [List.mem_singleton.mp z]
          exact g1.h.free hx
        · refine g1.h.free ?_
          cases hb1 : H1 b with
          | none => rfl
          | some o =>
            have n1 : b ≠ x := ne_of_none hb1 hx
            have n2 : b ≠ dx := ne_of_none hb1 hdx
            rw [upd_ne n1, upd_ne n2, hb1] at z
            cases z
theorem e_makeU0 {R : Ow → List Pr → Ow → Pr → Prop} (h : EvA tas Γ Ps) (hR : R (oOs C [] []) Ps W pN) : EvW (tMake C (spU 0 R) [] E tas) Γ W := e_makeU (Ds := []) h (fun _ => trivial) (by rw [List.append_nil]; exact hR)
theorem e_callW {R : List Pr → Ow → Prop} (h : EvA tas Γ Ps) (hd : Dfl dvs Ds) (hR : R (Ps ++ Ds) W) : EvW (tCall (spW R) dvs E tas) Γ W := fun F σ G H e Q q =>
  h F σ G H e _ fun vs G1 H1 g1 s1 => ⟨_, W, G1, hR, g1.s, s1.app (hd G1), fun v L G2 H2 g2 hL hw => q v L G2 H2 (g1.trans g2) (fun a ha => ⟨g1.h.free (hL a ha).1, (hL a ha).2⟩) hw⟩
theorem e_callW0 {R : List Pr → Ow → Prop} (h : EvA tas Γ Ps) (hR : R Ps W) : EvW (tCall (spW R) [] E tas) Γ W := e_callW (Ds := []) h (fun _ => trivial) (by rw [List.append_nil]; exact hR)
theorem e_methW {R : List Pr → Ow → Prop} {Os : List Pr} (ho : EvE ta Γ (pO C ns Os)) (hm : m ∉ ns) (h : EvA tas Γ Ps) (hd : Dfl dvs Ds) (hR : R (pO C ns Os :: (Ps ++ Ds)) W) : EvW (tMeth C m (spW R) dvs E ta tas) Γ W := fun F σ G H e Q q =>
  ho F σ G H e _ fun x G1 H1 g1 p1 => by
    obtain ⟨a, ob, h1, h2, dx, vs, h3, h4⟩ := id p1
    subst h1 h3
    exact ⟨a, dx, _, rfl, g1.s _ _ h2, lookup_none hm, h F σ G1 H1 (e.grow g1) _ fun vs G2 H2 g2 s2 => ⟨_, W, G2, hR, g2.s, ⟨(pO C ns Os).m g2.g p1, s2.app (hd G2)⟩, fun v L G3 H3 g3 hL hw => q v L G3 H3 ((g1.trans g2).trans g3) (fun a ha => ⟨(g1.trans g2).h.free (hL a ha).1, (hL a ha).2⟩) hw⟩⟩
theorem e_methW0 {R : List Pr → Ow → Prop} {Os : List Pr} (ho : EvE ta Γ (pO C ns Os)) (hm : m ∉ ns) (h : EvA tas Γ Ps) (hR : R (pO C ns Os :: Ps) W) : EvW (tMeth C m (spW R) [] E ta tas) Γ W := e_methW (Ds := []) ho hm h (fun _ => trivial) (by rw [List.append_nil]; exact hR)
/-! ### fields of an object of one's own -/
theorem f_at {x : V} (hp : EvF tp Γ i (oAt x W) put) : EvF tp Γ i W (fun U W' => put (oAt x U) W') := fun F σ G H Ls e Q q =>
  hp F σ G H Ls e _ fun v Lu G' H' g f => q v Lu G' H' g ⟨f.e, f.o, f.u.2, f.sub, fun pw gg k hu hn => f.put pw gg k ⟨f.u.1, hu⟩ hn⟩
theorem Foc.obj {F : Fm} {σ : St} {Ls : Nat → List Addr} {v : V} {Lu : List Addr} {G H : Hp} (f : Foc F Γ σ i (oOs C ns Ws) put Ls v Lu G H) : ∃ a dx vs Lk, v = .ref a ∧ Lu = a :: Lk.flatten ∧ H a = some (.ins C dx (ns.zip vs)) ∧ SW G H vs Ws Lk ∧ a ∉ Lk.flatten ∧ G a = none ∧
    ∀ ns' us Ws' Lk' W', put (oOs C ns' Ws') W' → SW G (upd H a (.ins C dx (ns'.zip us))) us Ws' Lk' → a ∉ Lk'.flatten → (∀ b ∈ Lk'.flatten, (b ∈ Lk.flatten ∨ ((∀ (j : Nat) (W : Ow), Γ[j]? = some (.own W) → b ∉ Ls j) ∧ F.H b = none)) ∧ G b = none ∧ H b ≠ none) →
      EOk F (Γ.set i (.own W')) σ G (upd H a (.ins C dx (ns'.zip us))) := by
  obtain ⟨a, dx, vs, Lk, h1, h2, h3, h5, h6⟩ := id f.u
  subst h6
  have fr := f.frE a List.mem_cons_self
  refine ⟨a, dx, vs, Lk, h1, rfl, h2, h3, h5, fr.1, fun ns' us Ws' Lk' W' pw hs na hb => f.chgN (U' := oOs C ns' Ws') (Lu' := a :: Lk'.flatten) pw (Gw.refl G) (Gw.mut f.e.gr.s fr.1) (fun b hb _ => upd_ne fun z => hb (by rw [z]; exact List.mem_cons_self)) (fun b _ _ h => h) ⟨a, dx, us, Lk', h1, upd_same, hs, na, rfl⟩ fun b hm => ?_⟩
  rcases List.mem_cons.mp hm with z | z
  · subst z
    rw [upd_same]
    exact ⟨.inl List.mem_cons_self, fr.1, fun z => nomatch z⟩
  · rw [upd_ne fun q => na (by rw [← q]; exact z)]
    exact ⟨(hb b z).1.imp_left fun z => List.mem_cons_of_mem _ z, (hb b z).2⟩
/-- p.f = e, a new field -/
theorem s_newF (c : Cls K C) (n : NoAttr K C f) (hp : EvF tp Γ i (oOs C ns Ws) put) (hf : f ∉ ns) (hl : ns.length = Ws.length) (hm : ns.length < 1000) (h : EvE te Γ P) (pw : put (oOs C (ns ++ [f]) (Ws ++ [oV P])) W') (hc : Γ.set i (.own W') = Γ1) : StS (sFld K tp te f) Γ (.nx Γ1) := fun F σ G H D e g =>
  h F σ G H e _ fun v G1 H1 g1 p1 => by
    obtain ⟨Ls, e1⟩ := e.grow g1
    subst hc
    refine hp F σ G1 H1 Ls e1 _ fun x Lx G2 H2 g2 f2 => ?_
    obtain ⟨a, dx, vs, Lk, h1, h2, h3, h4, h5, ga, h6⟩ := f2.obj
    subst h2
    have lv : ns.length = vs.length := hl.trans h4.len.1.symm
    refine ⟨a, C, dx, _, h1, h3, c, n, by rw [zip_len lv]; exact hm, ?_⟩
    rw [zip_snoc hf lv]
    have fe : (Lk ++ [[]]).flatten = Lk.flatten := by rw [List.flatten_append, List.flatten_cons, List.flatten_nil, List.append_nil, List.append_nil]
    refine g σ G2 _ (h6 (ns ++ [f]) (vs ++ [v]) _ (Lk ++ [[]]) _ pw (SW.snoc (W := oV P) (L := []) ⟨rfl, P.m g2.g p1⟩ (h4.m (Gw.refl _) fun b hb => upd_ne fun z => h5 (by rw [← z]; exact hb)) fun _ z => nomatch z) (by rw [fe]; exact h5) fun b hb => ?_)
    rw [fe] at hb
    exact ⟨.inl hb, f2.frE b (List.mem_cons_of_mem _ hb)⟩
/-- p.f = a new region, a new field -/
theorem s_newFW (c : Cls K C) (n : NoAttr K C f) (hp : EvF tp Γ i (oOs C ns Ws) put) (hf : f ∉ ns) (hl : ns.length = Ws.length) (hm : ns.length < 1000) (h : EvW te Γ W) (pw : put (oOs C (ns ++ [f]) (Ws ++ [W])) W') (hc : Γ.set i (.own W') = Γ1) : StS (sFld K tp te f) Γ (.nx Γ1) := fun F σ G H D ⟨Ls, e⟩ g =>
  h F σ G H ⟨Ls, e⟩ _ fun v L G1 H1 g1 hL hw => by
    have e1 := e.grow g1
    subst hc
    refine hp F σ G1 H1 Ls e1 _ fun x Lx G2 H2 g2 f2 => ?_
    obtain ⟨a, dx, vs, Lk, h1, h2, h3, h4, h5, ga, h6⟩ := f2.obj
    subst h2
    have lv : ns.length = vs.length := hl.trans h4.len.1.symm
    refine ⟨a, C, dx, _, h1, h3, c, n, by rw [zip_len lv]; exact hm, ?_⟩
    rw [zip_snoc hf lv]
    have fe : (Lk ++ [L]).flatten = Lk.flatten ++ L := by rw [List.flatten_append, List.flatten_cons, List.flatten_nil, List.append_nil]
    have nin : ∀ b ∈ L, ∀ (j : Nat) (W : Ow), Γ[j]? = some (.own W) → b ∉ Ls j := fun b hb j W hW q => (e.fr j W hW b q).2.2 (hL b hb).1
    obtain ⟨Wi, hWi⟩ := f2.o
    have naL : a ∉ L := fun q => nin a q i Wi hWi (f2.sub a List.mem_cons_self)
    have nL : ∀ b ∈ L, b ∉ Lk.flatten := fun b hb q => nin b hb i Wi hWi (f2.sub b (List.mem_cons_of_mem _ q))
    have eqL : ∀ b ∈ L, H2 b = H1 b := fun b hb => g2.h.at (hL b hb).2.2
    refine g σ G2 _ (h6 (ns ++ [f]) (vs ++ [v]) _ (Lk ++ [L]) _ pw (SW.snoc (W.m g2.g (fun b hb => ?_) hw) (h4.m (Gw.refl _) fun b hb => upd_ne fun z => h5 (by rw [← z]; exact hb)) nL) (by rw [fe, List.mem_append]; exact fun z => z.elim h5 naL) fun b hb => ?_)
    · rw [upd_ne fun z => naL (by rw [← z]; exact hb)]
      exact eqL b hb
    · rw [fe] at hb
      rcases List.mem_append.mp hb with z | z
      · exact ⟨.inl z, f2.frE b (List.mem_cons_of_mem _ z)⟩
      · exact ⟨.inr ⟨nin b z, e.gr.h.free (hL b z).1⟩, g2.f b (hL b z).2.2 (hL b z).2.1, by rw [eqL b z]; exact (hL b z).2.2⟩
/-- p.f = e, a field that stands -/
theorem s_setFF (c : Cls K C) (n : NoAttr K C f) (hp : EvF tp Γ i (oOs C ns Ws) put) (nd : ns.Nodup) (hj : ns[j]? = some f) (hl : ns.length = Ws.length) (hm : ns.length < 1000) (h : EvE te Γ P) (pw : put (oOs C ns (Ws.set j (oV P))) W') (hc : Γ.set i (.own W') = Γ1) : StS (sFld K tp te f) Γ (.nx Γ1) := fun F σ G H D e g =>
  h F σ G H e _ fun v G1 H1 g1 p1 => by
    obtain ⟨Ls, e1⟩ := e.grow g1
    subst hc
    refine hp F σ G1 H1 Ls e1 _ fun x Lx G2 H2 g2 f2 => ?_
    obtain ⟨a, dx, vs, Lk, h1, h2, h3, h4, h5, ga, h6⟩ := f2.obj
    subst h2
    have lv : ns.length = vs.length := hl.trans h4.len.1.symm
    refine ⟨a, C, dx, _, h1, h3, c, n, by rw [zip_len lv]; exact hm, ?_⟩
    rw [zip_set nd hj lv]
    have hj2 : j < Lk.length := by
      rw [h4.len.2, ← hl]
      exact lt_of_get hj
    have h4' : SW G2 (upd H2 a (.ins C dx (ns.zip (vs.set j v)))) vs Ws Lk := h4.m (Gw.refl _) fun b hb => upd_ne fun z => h5 (by rw [← z]; exact hb)
    obtain ⟨n1, n2⟩ := SW.set (W' := oV P) (v' := v) (L' := []) (Gw.refl G2) ⟨rfl, P.m g2.g p1⟩ h4' (List.getElem?_eq_getElem hj2) (fun _ _ _ => rfl) (fun _ z => nomatch z)
    have sub : ∀ b ∈ (Lk.set j []).flatten, b ∈ Lk.flatten := fun b hb => (n2 b hb).elim (·.1) fun z => nomatch z
    refine g σ G2 _ (h6 ns (vs.set j v) _ (Lk.set j []) _ pw n1 (fun z => h5 (sub a z)) fun b hb => ?_)
    exact ⟨.inl (sub b hb), f2.frE b (List.mem_cons_of_mem _ (sub b hb))⟩
end
end Y

set_option Elab.async false
set_option linter.all false
set_option maxRecDepth 100000
namespace Y
open PySem L2
/-- regions that are new since H1, besides D -/
def FrL (H1 : Hp) (D : Addr) (G H : Hp) (Lk : List (List Addr)) : Prop := ∀ a ∈ Lk.flatten, H1 a = none ∧ G a = none ∧ H a ≠ none ∧ a ≠ D
theorem FrL.grow {H1 : Hp} {D : Addr} {G H G' H' : Hp} {Lk : List (List Addr)} (f : FrL H1 D G H Lk) (g : Gr G H G' H') : FrL H1 D G' H' Lk := fun a ha =>
  ⟨(f a ha).1, g.f a (f a ha).2.2.1 (f a ha).2.1, fun z => (f a ha).2.2.1 (g.h.free z), (f a ha).2.2.2⟩
theorem FrL.eqs {H1 : Hp} {D : Addr} {G H G' H' : Hp} {Lk : List (List Addr)} (f : FrL H1 D G H Lk) (g : Gr G H G' H') : ∀ a ∈ Lk.flatten, H' a = H a := fun a ha => g.h.at (f a ha).2.2.1
section
variable {K : PySem.W.Frag} {Γ : Ctx} {α β : Type} {r : α → Pr} {xs : List α} {ys : List β} {wi : TI} {g : TG} {js vs : List Nat} {tt : TT} {te : TE}
theorem w_lcO {ro : β → Ow} (Γx : α → Ctx) (fb : α → Option Bool) (fe : α → Option β) (h : EvI wi Γ r xs) (hz : xs.length ≤ sizeLine) (hg : ∀ x, EvG g js (wipeC Γ vs) (r x) (Γx x)) (hj : ∀ j ∈ js, j ∈ vs)
    (ht : ∀ x b, x ∈ xs → fb x = some b → EvT tt (Γx x) b) (he : ∀ x y, x ∈ xs → fb x = some true → fe x = some y → EvW te (Γx x) (ro y)) (hm : lcM fb fe xs = some ys) : EvW (tLc wi g tt te vs) Γ (oLs (ys.map ro)) := fun F σ G H e Q q =>
  h F σ G H e _ fun J X G1 H1 g1 w x1 => fun D hD => by
    obtain ⟨Gc, Y, wk, k1, k2⟩ := w.ex
    obtain ⟨Ls0, e0⟩ := e.grow g1
    obtain ⟨Ls, e1, hLs⟩ := e0.norm
    have hLD : ∀ i a, a ∈ Ls i → a ≠ D := fun i a ha z => hLs i a ha (z ▸ hD)
    have hGD : G1 D = none := e1.gr.s.free hD
    have hFD : F.H D = none := e1.gr.h.free hD
    refine lc_it wk (fun i H' => ∃ G' acc zs Lk, EOk1 (withX F X w.m) (wipeC Γ vs) (L2.wipe σ vs) G' H' Ls ∧ Gr G1 H1 G' H' ∧ G' D = none ∧ H' D = some (.lst acc) ∧ SW G' H' acc (zs.map ro) Lk ∧ FrL H1 D G' H' Lk ∧ acc.length ≤ i ∧ (lcM fb fe (xs.drop i)).map (zs ++ ·) = some ys)
      ⟨G1, [], [], [], ((e1.withX x1).wipe vs).updD hLD hGD hFD, Gr.lay g1.s hD, hGD, upd_same, (by show SW G1 _ [] ([] : List Ow) []; trivial), (fun _ z => nomatch z), Nat.le_refl _, by rw [List.drop_zero, hm] <;> rfl⟩ ?_ ?_ ?_
    · rintro i H' _ ⟨G', acc, zs, Lk, e', _⟩
      exact k1 G' H' e'.x.2 e'.gr.s
    · rintro i v H' H2 hi ⟨G', acc, zs, Lk, e', gr', hGD', hHD', hsat, hfr, hlen, hrem⟩ hy
      obtain ⟨G2, x, g2, xi, px⟩ := k2 i G' H' v H2 e'.x.2 e'.gr.s hi hy
      have hx : x ∈ xs := List.mem_of_getElem? xi
      rw [drop_cons xi] at hrem
      have hnn : H' D ≠ none := by rw [hHD']; exact fun z => nomatch z
      refine hg x (withX F X w.m) (L2.wipe σ vs) G2 H2 Ls v (e'.grow g2) px _ fun σ3 e3 hw => ⟨(hw vs hj).trans (wipe_wipe vs fun _ h => h), ?_⟩
      unfold lcM at hrem
      cases hfb : fb x with
      | none =>
        rw [hfb] at hrem
        cases hrem
      | some b =>
        refine ht x b hx hfb (withX F X w.m) σ3 G2 H2 ⟨Ls, e3⟩ _ fun G3 H3 g3 => ?_
        rw [hfb] at hrem
        have g23 := g2.trans g3
        cases b with
        | false =>
          show ∃ G' acc zs Lk, _
          exact ⟨G3, acc, zs, Lk, e'.grow g23, gr'.trans g23, g23.f D hnn hGD', g23.h _ _ hHD', hsat.m g23.g (hfr.eqs g23), hfr.grow g23, Nat.le_succ_of_le hlen, hrem⟩
        | true =>
          show te σ3 H3 _
          cases hfe : fe x with
          | none =>
            simp only [hfe] at hrem
            cases hrem
          | some y =>
            simp only [hfe] at hrem
            refine he x y hx hfb hfe (withX F X w.m) σ3 G3 H3 ⟨Ls, e3.grow g3⟩ _ fun z L G4 H4 g4 hL pz => ?_
            have g24 := g23.trans g4
            have hG4 : G4 D = none := g24.f D hnn hGD'
            have hD4 : H4 D = some (.lst acc) := g24.h _ _ hHD'
            have hD3 : H3 D ≠ none := by rw [g23.h _ _ hHD']; exact fun z => nomatch z
            have fle : (Lk ++ [L]).flatten = Lk.flatten ++ L := by rw [List.flatten_append, List.flatten_cons, List.flatten_nil, List.append_nil]
            have nDL : ∀ b ∈ L, b ≠ D := fun b hb z => hD3 (by rw [← z]; exact (hL b hb).1)
            have f4 := hfr.grow g24
            have nDk : ∀ b ∈ Lk.flatten, b ≠ D := fun b hb => (f4 b hb).2.2.2
            have old : ∀ b ∈ Lk.flatten, H3 b ≠ none := fun b hb => (hfr.grow g23 b hb).2.2.1
            refine ⟨acc, hD4, Nat.lt_of_le_of_lt hlen (Nat.lt_of_lt_of_le hi hz), G4, acc ++ [z], zs ++ [y], Lk ++ [L], (e'.grow g24).updD hLD hG4 hFD, ?_, hG4, upd_same, ?_, fun b hb => ?_, ?_, ?_⟩
            · have q1 := gr'.trans g24
              exact ⟨q1.g, Gw.mut q1.h hD, Gw.mut q1.s hG4, q1.f⟩
            · rw [List.map_append]
              exact SW.snoc (Ow.m _ (Gw.refl _) (fun b hb => upd_ne (nDL b hb)) pz) (hsat.m g24.g fun b hb => by rw [upd_ne (nDk b hb)]; exact hfr.eqs g24 b hb) fun b hb q => old b q (hL b hb).1
            · rw [fle] at hb
              rcases List.mem_append.mp hb with q | q
              · rw [upd_ne (nDk b q)]
                exact f4 b q
              · rw [upd_ne (nDL b q)]
                refine ⟨(gr'.trans g23).h.free (hL b q).1, (hL b q).2.1, (hL b q).2.2, nDL b q⟩
            · rw [List.length_append]
              exact Nat.succ_le_succ hlen
            · cases hrest : lcM fb fe (xs.drop (i + 1)) with
              | none =>
                rw [hrest] at hrem
                cases hrem
              | some zr =>
                rw [hrest] at hrem
                rw [← hrem]
                show some (zs ++ [y] ++ zr) = some (zs ++ (y :: zr))
                rw [List.append_assoc] <;> rfl
    · rintro H' ⟨G', acc, zs, Lk, e', gr', hGD', hHD', hsat, hfr, hlen, hrem⟩
      rw [List.drop_length] at hrem
      have ez : zs = ys := by
        have : some (zs ++ []) = some ys := hrem
        rw [List.append_nil] at this
        exact Option.some.inj this
      subst ez
      refine q (.ref D) (D :: Lk.flatten) G' H' (g1.trans gr') (fun a ha => ?_) ⟨D, acc, Lk, rfl, hHD', hsat, Nat.le_trans hlen hz, fun z => (hfr D z).2.2.2 rfl, rfl⟩
      rcases List.mem_cons.mp ha with z | z
      · rw [z]
        exact ⟨g1.h.free hD, hGD', by rw [hHD']; exact fun z => nomatch z⟩
      · exact ⟨g1.h.free (hfr a z).1, (hfr a z).2.1, (hfr a z).2.2.1⟩
theorem w_lcOY {ro : β → Ow} (Γx : α → Ctx) (fe : α → Option β) (h : EvI wi Γ r xs) (hz : xs.length ≤ sizeLine) (hg : ∀ x, EvG g js (wipeC Γ vs) (r x) (Γx x)) (hj : ∀ j ∈ js, j ∈ vs)
    (he : ∀ x y, x ∈ xs → fe x = some y → EvW te (Γx x) (ro y)) (hm : mapO fe xs = some ys) : EvW (tLc wi g tYes te vs) Γ (oLs (ys.map ro)) :=
  w_lcO Γx (fun _ => some true) fe h hz hg hj (fun x b _ hb => by cases hb; exact t_yes) (fun x y hx _ hy => he x y hx hy) (by rw [mapO_lc]; exact hm)
end
end Y

set_option Elab.async false
set_option linter.all false
set_option maxRecDepth 100000
namespace Y
open PySem L2
/-! ### parts of lists that stand for lists in Lean -/
section
variable {K : PySem.W.Frag} {Γ Γ' Γ1 : Ctx} {tp te ti ta tb : TE} {t : TT} {ts us ws rest : TS} {i j : Nat} {k : Int} {U W W' : Ow} {put put' : Ow → Ow → Prop} {P : Pr} {α : Type} {o : α → Ow} {r : α → Pr} {xs zs : List α} {x a : α} {out : Out}
theorem EvF.mono (h : EvF tp Γ i U put) (hp : ∀ U' W', put' U' W' → put U' W') : EvF tp Γ i U put' := fun F σ G H Ls e Q q =>
  h F σ G H Ls e Q fun v Lu G' H' g f => q v Lu G' H' g ⟨f.e, f.o, f.u, f.sub, fun pw => f.put (hp _ _ pw)⟩
theorem atI_ix (h : atI xs k = some x) : ∃ j, ixN xs.length k = some j ∧ xs[j]? = some x := by
  unfold atI at h
  cases q : ixN xs.length k with
  | none =>
    rw [q] at h
    cases h
  | some j =>
    rw [q] at h
    exact ⟨j, rfl, h⟩
theorem setM_ix (h : setM xs k x = some zs) : ∃ j, ixN xs.length k = some j ∧ zs = xs.set j x := by
  unfold setM at h
  cases q : ixN xs.length k with
  | none =>
    rw [q] at h
    cases h
  | some j =>
    rw [q] at h
    exact ⟨j, rfl, (Option.some.inj h).symm⟩
theorem f_ixM (hp : EvF tp Γ i (oLs (xs.map o)) put) (hi : EvE ti Γ (pI k)) (h : atI xs k = some x) : EvF (tOp (rIxL K) tp ti) Γ i (o x) (fun U' W' => ∃ x' zs, U' = o x' ∧ setM xs k x' = some zs ∧ put (oLs (zs.map o)) W') := by
  obtain ⟨j, h1, h2⟩ := atI_ix h
  refine (f_ix (j := j) hp hi (by rw [List.length_map]; exact h1) (by rw [List.getElem?_map, h2]; rfl)).mono fun U' W' ⟨x', zs, e1, e2, e3⟩ => ?_
  obtain ⟨j', q1, q2⟩ := setM_ix e2
  rw [h1] at q1
  cases q1
  rw [e1, ← List.map_set, ← q2]
  exact e3
theorem s_appFM (hp : EvF tp Γ i (oL (xs.map r)) put) (h : EvE te Γ (r a)) (hz : appM xs a = some zs) (pw : put (oL (zs.map r)) W') (hc : Γ.set i (.own W') = Γ') : StS (tDrop (tBM K "list" rAppend tp (tCons te tNil))) Γ (.nx Γ') := by
  obtain ⟨q, rfl⟩ := if_some hz
  rw [List.map_append] at pw
  exact s_appF hp h (by rw [List.length_map]; exact q) pw hc
theorem s_appFWM (hp : EvF tp Γ i (oLs (xs.map o)) put) (h : EvW te Γ (o a)) (hz : appM xs a = some zs) (pw : put (oLs (zs.map o)) W') (hc : Γ.set i (.own W') = Γ') : StS (tDrop (tBM K "list" rAppend tp (tCons te tNil))) Γ (.nx Γ') := by
  obtain ⟨q, rfl⟩ := if_some hz
  rw [List.map_append] at pw
  exact s_appFW hp h (by rw [List.length_map]; exact q) pw hc
theorem s_setLFM (hp : EvF tp Γ i (oL (xs.map r)) put) (h : EvE te Γ (r a)) (hk : EvE ti Γ (pI k)) (hz : setM xs k a = some zs) (pw : put (oL (zs.map r)) W') (hc : Γ.set i (.own W') = Γ') : StS (tAsg te (gSub tp ti rSetL)) Γ (.nx Γ') := by
  obtain ⟨j, q1, q2⟩ := setM_ix hz
  rw [q2, ← set_map] at pw
  exact s_setLF hp h hk (by rw [List.length_map]; exact q1) pw hc
theorem s_augLFM {f : Int → Int → Int} {c b : Int} {xs zs : List Int} (hp : EvF tp Γ i (oL (xs.map pI)) put) (hk : EvE ti Γ (pI k)) (ha : atI xs k = some c) (h : EvE te Γ (pI b)) (hz : setM xs k (f c b) = some zs) (pw : put (oL (zs.map pI)) W') (hc : Γ.set i (.own W') = Γ') :
    StS (tAugS tp ti te (rIxL K) (ipI f) rSetL) Γ (.nx Γ') := by
  obtain ⟨j, q1, q2⟩ := setM_ix hz
  obtain ⟨j', p1, p2⟩ := atI_ix ha
  rw [q1] at p1
  cases p1
  rw [q2, ← set_map] at pw
  exact s_augLF hp hk (by rw [List.length_map]; exact q1) (by rw [List.getElem?_map, p2]; rfl) h pw hc
theorem w_asO {x : α} (h : EvW te Γ (o a)) (e : x = a) : EvW te Γ (o x) := e ▸ h
theorem w_asLs {xs : List α} (h : EvW te Γ (oLs (zs.map o))) (e : xs = zs) : EvW te Γ (oLs (xs.map o)) := e ▸ h
theorem w_nilO (h : EvW te Γ (oL [])) : EvW te Γ (oLs []) := fun F σ G H e Q q => h F σ G H e Q fun v L G' H' g hL ⟨a, ob, h1, h2, h3, vs, h4, h5, h6⟩ => by
  subst h4 h2
  cases vs with
  | nil => exact q v [a] G' H' g hL ⟨a, [], [], h1, h3, trivial, h6, (fun z => nomatch z), rfl⟩
  | cons _ _ => exact h5.elim
theorem t_BU {b : Bool} (h : EvU te Γ Γ1 (pB b)) : EvTU (tB te) Γ Γ1 b := fun F σ G H e Q q => h F σ G H e _ fun v G' H' e' p => ⟨b, p, q G' H' e'⟩
theorem s_ifKU {b : Bool} (h : EvTU t Γ Γ1 b) (h1 : b = true → StS (tSeq us rest) Γ1 out) (h2 : b = false → StS (tSeq ws rest) Γ1 out) : StS (tSeq (tIfS t us ws) rest) Γ out := fun F σ G H D e g =>
  h F σ G H e _ fun G' H' e' => by
    cases b with
    | true => exact h1 rfl F σ G' H' D e' g
    | false => exact h2 rfl F σ G' H' D e' g
theorem s_asgTU {Γ2 : Ctx} {g : TG} {js : List Nat} (h : EvU te Γ Γ1 P) (hg : EvG g js Γ1 P Γ2) : StS (tAsg te g) Γ (.nx Γ2) := fun F σ G H D e gl =>
  h F σ G H e _ fun v G1 H1 ⟨Ls, e1⟩ p => hg F σ G1 H1 Ls v e1 p _ fun σ' e' _ => gl σ' G1 H1 ⟨Ls, e'⟩
/-- a value that is there -/
theorem e_some {op : Option α} {x : α} (h : op = some x) (p : EvE te Γ (pOpt r op)) : EvE te Γ (r x) := by
  subst h
  exact p
/-! ### a new region, while another is read -/
def PureW (W : Ow) : Prop := ∀ (G G' H : Hp) (v : V) (L : List Addr), W.p G H v L → W.p G' H v L
theorem sat_pure {Ps : List Pr} (h : ∀ P ∈ Ps, Pure P) {G G' : Hp} : ∀ {vs : List V}, Sat G vs Ps → Sat G' vs Ps := by
  induction Ps with
  | nil => intro vs s; cases vs with
    | nil => trivial
    | cons _ _ => exact s.elim
  | cons P Ps ih => intro vs s; cases vs with
    | nil => exact s.elim
    | cons v vs => exact ⟨h P List.mem_cons_self _ _ v s.1, ih (fun P hP => h P (List.mem_cons_of_mem _ hP)) s.2⟩
theorem pureW_L (h : ∀ a, Pure (r a)) : PureW (oL (xs.map r)) := fun G G' H v L ⟨a, ob, h1, h2, h3, vs, h4, h5, h6⟩ =>
  ⟨a, ob, h1, h2, h3, vs, h4, sat_pure (fun P hP => by obtain ⟨y, _, e⟩ := List.mem_map.mp hP; exact e ▸ h y) h5, h6⟩
theorem w_lend (hi : Γ[i]? = some (.own U)) (f : Frz U P) (p : PureW W) (h : EvW te (Γ.set i (.val P)) W) : EvW te Γ W := fun F σ G H e R q => by
  obtain ⟨G', g', e'⟩ := e.frz f hi
  exact h F σ G' H e' R fun v L G2 H2 g2 hL hw => q v L G H2 ⟨Gw.refl G, g2.h, e.s.trans g2.h, fun _ _ h => h⟩ (fun a ha => ⟨(hL a ha).1, e.s.free (hL a ha).1, (hL a ha).2.2⟩) (p _ _ _ _ _ hw)
end
/-! ### equal objects in lists -/
def eqSame {α : Type} [DecidableEq α] (a b : α) : Option Bool := if a = b then some true else none
theorem eqSame_some {α : Type} [DecidableEq α] {a b : α} {c : Bool} (h : eqSame a b = some c) : a = b ∧ c = true := by
  unfold eqSame at h
  by_cases z : a = b
  · rw [if_pos z] at h
    exact ⟨z, (Option.some.inj h).symm⟩
  · rw [if_neg z] at h
    cases h
def Rse {α : Type} (r : α → Pr) (R : List Pr → Pr → Prop) (a b : Addr) (H : Hp) : Prop := ∃ G c, Gw G H ∧ (r c).p G (.ref a) ∧ (r c).p G (.ref b) ∧ R [r c, r c] (pB true)
theorem rse_mon {α : Type} {r : α → Pr} {R : List Pr → Pr → Prop} : ∀ a b (H H' : Hp), Ext H H' → Rse r R a b H → Rse r R a b H' := fun a b H H' e ⟨G, c, g, h⟩ => ⟨G, c, g.trans e, h⟩
section
variable {X : Cx} {n : Nat} {f C : Addr} {fd : FuncData} {ps : List Str} {R : List Pr → Pr → Prop} {α : Type} {r : α → Pr}
theorem fn_spEq (F : FnOk X.prog X.w X.K X.mg X.base CX0 n f fd ps (spR R)) : FnOk X.prog X.w X.K X.mg X.base CX0 n f fd ps (spEq (Rse r R)) :=
  F.imp fun vs H Q E ⟨a, b, h1, ⟨G, c, g, h2, h3, h4⟩, h5⟩ => ⟨[r c, r c], pB true, G, h4, g, by rw [h1]; exact ⟨h2, h3, trivial⟩, fun v G' H' gr p => by
    cases (show v = V.bl true from p)
    exact h5 H' gr.h⟩
theorem op_eqLs (F : FnOk X.prog X.w X.K X.mg X.base CX0 n f fd ps (spR R)) (hs : PySem.W.findIn X.K (.ref C) "__eq__" = some (some (.ref f))) (hf : PySem.W.isFn X.K (.ref f) = true) (hb : Binds X.K fd ps []) (hr : Room (n + 1) X.A) :
    OpR X (compareOp .Eq) (rEqG (DList (DIns C (Rse r R)))) := op_eqG (rcG_list (mon_ins rse_mon) (eqG_ins (E := E0) (fn_spEq F) hs hf hb pass0)) hr
def rEqO (D : Eqv) : R2 := fun x y H Q => (x = .non ∧ y = .non ∧ Q (.bl true) H) ∨ rEqG D x y H Q
theorem op_eqO (F : FnOk X.prog X.w X.K X.mg X.base CX0 n f fd ps (spR R)) (hs : PySem.W.findIn X.K (.ref C) "__eq__" = some (some (.ref f))) (hf : PySem.W.isFn X.K (.ref f) = true) (hb : Binds X.K fd ps []) (hr : Room n X.A) :
    OpR X (compareOp .Eq) (rEqO (DIns C (Rse r R))) := fun pins s σ H x y v u Q I rx ry h => by
  rcases h with ⟨h1, h2, h3⟩ | h
  · subst h1 h2
    exact op_eq pins s σ H .non .non v u Q I rx ry ⟨rfl, h3⟩
  · exact op_eqG (rcG_ins (E := E0) (fn_spEq F) hs hf hb pass0) hr pins s σ H x y v u Q I rx ry h
end
section
variable {K : PySem.W.Frag} {Γ : Ctx} {ta tb : TE} {C : Addr} {ns : List Str} {R : List Pr → Pr → Prop} {α : Type} {f : α → List Pr}
theorem ins_two {G H : Hp} {a b : V} {c : α} (g : Gw G H) (h1 : (pO C ns (f c)).p G a) (h2 : (pO C ns (f c)).p G b) (hR : R [pO C ns (f c), pO C ns (f c)] (pB true)) : DIns C (Rse (fun c => pO C ns (f c)) R) a b H := by
  obtain ⟨p, o, e1, e2, dx, vs, e3, _⟩ := id h1
  obtain ⟨q, o', e4, e5, dy, us, e6, _⟩ := id h2
  subst e1 e3 e4 e6
  exact ⟨p, q, dx, dy, _, _, rfl, rfl, g _ _ e2, g _ _ e5, G, c, g, h1, h2, hR⟩
theorem e_eqLs {xs ys : List α} {b : Bool} (hR : ∀ c, R [pO C ns (f c), pO C ns (f c)] (pB true)) (h : xs = ys ∧ b = true) (ha : EvE ta Γ (pL (xs.map fun c => pO C ns (f c)))) (hb : EvE tb Γ (pL (ys.map fun c => pO C ns (f c)))) : EvE (tOp (rEqG (DList (DIns C (Rse (fun c => pO C ns (f c)) R)))) ta tb) Γ (pB b) := fun F σ G H e Q q =>
  ha F σ G H e _ fun x G1 H1 g1 p1 => hb F σ G1 H1 (e.grow g1) _ fun y G2 H2 g2 p2 => by
    obtain ⟨h, rfl⟩ := h
    subst h
    obtain ⟨p, o, e1, e2, vs, e3, e4, _⟩ := (pL _).m g2.g p1
    obtain ⟨q', o', e5, e6, us, e7, e8, _⟩ := p2
    subst e1 e3 e5 e7
    refine ⟨⟨p, q', vs, us, rfl, rfl, g2.s _ _ e2, g2.s _ _ e6, e4.len.trans e8.len.symm, fun i a b ha hb => ?_⟩, fun H' ex => q _ G2 H' ((g1.trans g2).trans ⟨Gw.refl _, ex, g2.s.trans ex, fun _ _ h => h⟩) rfl⟩
    obtain ⟨P1, q1, q2⟩ := e4.getv ha
    obtain ⟨P2, q3, q4⟩ := e8.getv hb
    rw [q1] at q3
    cases q3
    rw [List.getElem?_map] at q1
    cases z : xs[i]? with
    | none =>
      rw [z] at q1
      cases q1
    | some c =>
      rw [z] at q1
      cases q1
      exact ins_two g2.s q2 q4 (hR c)
theorem e_eqO {o o' : Option α} {b : Bool} (hR : ∀ c, R [pO C ns (f c), pO C ns (f c)] (pB true)) (h : o = o' ∧ b = true) (ha : EvE ta Γ (pOpt (fun c => pO C ns (f c)) o)) (hb : EvE tb Γ (pOpt (fun c => pO C ns (f c)) o')) : EvE (tOp (rEqO (DIns C (Rse (fun c => pO C ns (f c)) R))) ta tb) Γ (pB b) := fun F σ G H e Q q =>
  ha F σ G H e _ fun x G1 H1 g1 p1 => hb F σ G1 H1 (e.grow g1) _ fun y G2 H2 g2 p2 => by
    obtain ⟨h, rfl⟩ := h
    subst h
    have p1 := (pOpt (fun c => pO C ns (f c)) o).m g2.g p1
    cases o with
    | none => exact .inl ⟨p1, p2, q _ G2 H2 (g1.trans g2) rfl⟩
    | some c => exact .inr ⟨ins_two g2.s p1 p2 (hR c), fun H' ex => q _ G2 H' ((g1.trans g2).trans ⟨Gw.refl _, ex, g2.s.trans ex, fun _ _ h => h⟩) rfl⟩
end
end Y

set_option Elab.async false
set_option linter.all false
set_option maxRecDepth 100000
namespace Y
open PySem L2
section
variable {α β γ δ ε : Type}
/-- a list of unlike things -/
def oH2 (r : α → Pr) (s : β → Pr) (p : α × β) : Ow := oL [r p.1, s p.2]
def oH3 (r : α → Pr) (s : β → Pr) (q : γ → Pr) (p : α × β × γ) : Ow := oL [r p.1, s p.2.1, q p.2.2]
def oH4 (r : α → Pr) (s : β → Pr) (q : γ → Pr) (t : δ → Pr) (p : α × β × γ × δ) : Ow := oL [r p.1, s p.2.1, q p.2.2.1, t p.2.2.2]
def oH5 (r : α → Pr) (s : β → Pr) (q : γ → Pr) (t : δ → Pr) (u : ε → Pr) (p : α × β × γ × δ × ε) : Ow := oL [r p.1, s p.2.1, q p.2.2.1, t p.2.2.2.1, u p.2.2.2.2]
def rH2 (r : α → Pr) (s : β → Pr) (p : α × β) : Pr := pL [r p.1, s p.2]
def rH3 (r : α → Pr) (s : β → Pr) (q : γ → Pr) (p : α × β × γ) : Pr := pL [r p.1, s p.2.1, q p.2.2]
def rH4 (r : α → Pr) (s : β → Pr) (q : γ → Pr) (t : δ → Pr) (p : α × β × γ × δ) : Pr := pL [r p.1, s p.2.1, q p.2.2.1, t p.2.2.2]
def rH5 (r : α → Pr) (s : β → Pr) (q : γ → Pr) (t : δ → Pr) (u : ε → Pr) (p : α × β × γ × δ × ε) : Pr := pL [r p.1, s p.2.1, q p.2.2.1, t p.2.2.2.1, u p.2.2.2.2]
theorem ixT {n j : Nat} (h : j + 1 ≤ n) : ixN n (j : Int) = some j := by
  unfold ixN
  rw [if_pos (by omega), if_pos (by omega)]
  rfl
theorem u_as {te : TE} {Γ Γ1 : Ctx} {r : α → Pr} {a x : α} (h : EvU te Γ Γ1 (r a)) (e : x = a) : EvU te Γ Γ1 (r x) := e ▸ h
end
/-! ### the same rules, K said apart (within a comprehension X is another one) -/
section
variable {X : Cx} {K : PySem.W.Frag}
theorem pe_fldK {o : Expr} {ta : TE} {f : Str} {pos : Pos} (hK : X.K = K) (he : PE X o ta) (hb : attributeBase o f X.env (eval o X.env) = eval o X.env) : PE X (.Attribute o f pos) (tFld K ta f) := hK ▸ pe_fld he hb
theorem ix_listK (hK : X.K = K) : IxR X (rIxL K) := hK ▸ ix_list
theorem ix_tupK (hK : X.K = K) : IxR X (rIxT K) := hK ▸ ix_tup
theorem len_seqK (hK : X.K = K) : CallR X (.builtin "len") (rLenS K) := hK ▸ call_len_seq
theorem list_ofK (hK : X.K = K) : CallR X (.type "list") (rListS K) := hK ▸ call_list_of
theorem in_seqK (hK : X.K = K) : OpR X (compareOp .In) (rIn K false) := hK ▸ op_in_seq
theorem notIn_seqK (hK : X.K = K) : OpR X (compareOp .NotIn) (rIn K true) := hK ▸ op_notIn_seq
theorem eqDK (hK : X.K = K) (hu : X.A.units + 64 < cLine) : OpR X (compareOp .Eq) (rEqD K) := hK ▸ op_eqD hu
theorem neDK (hK : X.K = K) (hu : X.A.units + 64 < cLine) : OpR X (compareOp .NotEq) (rNeD K) := hK ▸ op_neD hu
theorem sl_listK (hK : X.K = K) : SlR X (rSlL K) := hK ▸ sl_list
theorem pi_listK {l tg : Expr} {tl : TE} (hK : X.K = K) (hl : PE X l tl) : PI X tg l (iList K tl) := hK ▸ pi_list hl
theorem pg_tupK {es : List Expr} {pos : Pos} {k n : Nat} {t : TGs} (hK : X.K = K) (hc : X.calm = true) (h : PGs X es t) (hn : (assignEach es X.env).length = n := by rfl) (hst : (assignEach es X.env).findIdx? (·.1) = none := by rfl) : PG X (.Tuple es k pos) (gTup K n t) := hK ▸ pg_tup hc h hn hst
theorem isiK (hK : X.K = K) : CallR X (.builtin "isinstance") (rIsi K) := hK ▸ call_isi
/-- a name gets a dict made by a comprehension, both on one line -/
theorem ps_setDc {i : Nat} {y : Str} {py pos spos : Pos} {kx vx tg iter : Expr} {ifs : List Expr} {scope : Scope} {own : List (Str × Nat)} {wi : TI} {g : TG} {tt : TT} {tk tv : TE} (hc : X.calm = true) (hN : X.N.Nodup) (hy : X.N[i]? = some y) (hyl : X.env.scope.names.lookup y = some .local)
    (hw1 : swapsWith (.DictComp kx vx [⟨tg, iter, ifs, 0⟩] scope pos) (some (.Name y py)) spos.line X.env = pure true)
    (hi : PI X tg iter wi) (ok : BlkOk X.N X.env.scope scope own)
    (hg : ∀ (s0 : Shared) (H0 : Hp) (C0 : Addr) (c0 : List (Str × Addr)) (f0 : List Addr), PG (X.blk s0 H0 scope (compEnvC scope c0 C0 X.env) f0) tg g)
    (ht : ∀ (s0 : Shared) (H0 : Hp) (C0 : Addr) (c0 : List (Str × Addr)) (f0 : List Addr), PTs (X.blk s0 H0 scope (compEnvC scope c0 C0 X.env) f0) ifs tt)
    (hk : ∀ (s0 : Shared) (H0 : Hp) (C0 : Addr) (c0 : List (Str × Addr)) (f0 : List Addr), PE (X.blk s0 H0 scope (compEnvC scope c0 C0 X.env) f0) kx tk)
    (hv : ∀ (s0 : Shared) (H0 : Hp) (C0 : Addr) (c0 : List (Str × Addr)) (f0 : List Addr), PE (X.blk s0 H0 scope (compEnvC scope c0 C0 X.env) f0) vx tv)
    (hs : ∀ x, foldedSetIterable iter X.env x = pure x := by intro _; rfl) :
    PS X (.Assign [.Name y py] (.DictComp kx vx [⟨tg, iter, ifs, 0⟩] scope pos) spos) (tAsg (tDc wi g tt tk tv (own.map (·.2))) (gName i)) := ⟨fun pins s σ H D I h => by
  rw [exec_Assign_Name_used _ _ _ _ hw1]
  refine wpAny_bind (wpAny_standAt <| wpAny_bind ?_)
  show wpAny _ X.A (do let _ ← comprehension (.DictComp kx vx [⟨tg, iter, ifs, 0⟩] scope pos) scope X.env (firstIterPos [⟨tg, iter, ifs, 0⟩] pos) newDict false (eval iter X.env) (some (assign (.Name y py) X.env))) _ _ s
  have h : tDc wi g tt tk tv (own.map (·.2)) σ H (fun u Hu => gName i u σ Hu D.nx) := h
  refine wpAny_bind (thn (dc_core (Qf := fun _ s' => SP X pins D .next s') hc hN I hi ok hg ht hk hv hs h fun L C s' m H' I' q hn f => ?_) fun _ s' hq => wpAny_pure (wpAny_pure hq))
  have ⟨f0, f1, f2, f3, f4, f5⟩ := f
  refine wpAny_assign_Name (store_ok2 (v := V.ref L) I' hN hy (.inl hyl) rfl (fun s2 I2 ⟨a, sb, ha⟩ => ?_) (.inr hyl))
  have haC : C ≠ a := ha.elim (fun z => by rw [z]; exact f1) fun z e => f4 y a z e.symm
  exact ⟨m, hn.sameBut sb haC, fun h3 sb3 => ⟨_, H', I2.turned (t' := s2.toks) (fun b o hb e => (sb3.2 b hb).trans e) f0 f1 f3 f4 f5, q⟩⟩⟩
theorem sw_dc {kx vx : Expr} {gs : List Comprehension} {scope : Scope} {pos py : Pos} {y : Str} {l : Nat} {env : Env} (hk : env.scope.kind = .function) (hy : env.scope.names.lookup y = some .local) (hl : (py.line == pos.line) = true)
    (hn : (scope.names.any fun (n, k) => n == y && (k == .local || k == .cell)) = false) : swapsWith (.DictComp kx vx gs scope pos) (some (.Name y py)) l env = pure true := by
  have q1 : env.kindOf y = some .local := hy
  have q2 : env.blockKind = .function := by unfold Env.blockKind; rw [hk]; rfl
  unfold swapsWith
  simp only [q2, q1, hn, Expr.pos, hl]
  rfl
end
end Y

set_option Elab.async false
set_option linter.all false
set_option maxRecDepth 100000
namespace Y
open PySem L2
/-! ### divmod -/
abbrev rDivmod : List V → Hp → VK → Prop := fun xs H Q => ∃ i j, xs = [.int i, .int j] ∧ CDiv i j ∧ ∀ p, H p = none → Q (.ref p) (upd H p (.tup [.int (i / j), .int (i % j)]))
def dmM (i j : Int) : Option (Int × Int) := if 0 < j ∧ j < 1073741824 then some (i / j, i % j) else none
theorem rc_divmodM {x : Int × Int} (h : dmM i j = some x) : RC rDivmod [pI i, pI j] (r2 pI pI x) := fun G H vs Q s st q => by
  obtain ⟨v, w, rfl, h1, h2⟩ := sat2 st
  cases h1
  cases h2
  unfold dmM at h
  split at h
  · rename_i hc
    cases h
    exact ⟨i, j, rfl, hc, fun p hp => q _ _ _ (Gr.new s hp) ⟨p, _, rfl, upd_same, rfl, rfl, trivial⟩⟩
  · cases h
end Y

set_option Elab.async false
set_option linter.all false
set_option maxRecDepth 100000
namespace Y
section
open PySem PySem.Spec PyProof.Rows L2
/-! ### tuples of any length -/
theorem tup_mul1 (l : Addr) (items : Array Value) (n : Nat) (dd : Option Addr) (sl : Array (Option Value)) (u : Tok) :
    Meets (Builtin.«tuple.__mul__» ⟨[.ref l, .int 1 u], []⟩) (fun _ R s => s.heap.get? l = some { cls := .type "tuple", dict := dd, data := .seq items n, slots := sl } ∧ R (.ok (.ret (Value.ref l))) { s with heap := s.heap, toks := s.toks }) :=
  .of_wp fun prog w A R s h => by
    obtain ⟨hp, g, d, tk, os⟩ := s
    obtain ⟨hl, h⟩ := h
    have f1 := AutoSeq1.idx_int
    have c1 : (items.isEmpty || (1 : Int) == 1) = true := by simp
    wp_walk using wpAny_loadPart' hl
    repeat (first
      | (refine wpAny_ite_false (decide_eq_false (by decide)) ?_; wp_walk using wpAny_loadPart' hl)
      | (refine wpAny_ite_true (decide_eq_true (by simp)) ?_; wp_walk using wpAny_loadPart' hl))
    exact ⟨_, rfl, h⟩
theorem tup_mul0 (l : Addr) (items : Array Value) (n : Nat) (dd : Option Addr) (sl : Array (Option Value)) (u : Tok) (hi : items.isEmpty = false) :
    Meets (Builtin.«tuple.__mul__» ⟨[.ref l, .int 0 u], []⟩) (fun _ R s => s.heap.get? l = some { cls := .type "tuple", dict := dd, data := .seq items n, slots := sl } ∧
      R (.ok (.ret (Value.ref s.heap.objs.size))) { s with heap := s.heap.push { cls := Value.type "tuple", data := Data.seq #[] }, toks := s.toks }) :=
  .of_wp fun prog w A R s h => by
    obtain ⟨hp, g, d, tk, os⟩ := s
    obtain ⟨hl, h⟩ := h
    have f1 := AutoSeq1.idx_int
    have c1 : (items.isEmpty || (0 : Int) == 1) = false := by rw [hi]; rfl
    wp_walk using wpAny_loadPart' hl
    repeat (first
      | (refine wpAny_ite_false (decide_eq_false (by decide)) ?_; wp_walk using wpAny_loadPart' hl)
      | (refine wpAny_ite_false (decide_eq_false (by rw [c1]; exact Bool.false_ne_true)) ?_; wp_walk using wpAny_loadPart' hl)
      | (refine wpAny_ite_true (decide_eq_true (by simp)) ?_; wp_walk using wpAny_loadPart' hl))
    exact ⟨_, rfl, h⟩
def rRepA (K : PySem.W.Frag) : R2 := fun x y H Q => ∃ l k xs, x = .ref l ∧ y = .int k ∧ SqT K H l xs ∧ xs ≠ [] ∧ 0 ≤ k ∧ k ≤ 1000 ∧ xs.length ≤ 1000 ∧ (k = 1 → Q (.ref l) H) ∧ (k ≠ 1 → ∀ p, H p = none → Q (.ref p) (upd H p (.tup (List.replicate k.toNat xs).flatten)))
variable {X : Cx}
theorem op_repA : OpR X (binaryOp .Mult) (rRepA X.K) := by
  intro pins s σ H x y v u Q I rx ry h
  obtain ⟨l, k, xs, hx, hy, hT, hne, h1, h2, hz, q1, q2⟩ := h
  by_cases hk : 2 ≤ k
  · exact op_repT pins s σ H x y v u Q I rx ry ⟨l, k, xs, hx, hy, hT, hne, hk, h2, hz, q2 (by omega)⟩
  · subst hx hy
    cases rx
    obtain ⟨t, rfl⟩ := ry
    obtain ⟨its, r, ⟨⟨cls, dd, data, sl⟩, ho, hc, n, hd⟩, hs⟩ := I.tuple hT
    simp only at hc hd
    subst hc hd
    have hle : its.length = xs.length := r.length.symm
    have hn : its ≠ [] := fun e => hne (by
      rw [e] at hle
      exact List.eq_nil_of_length_eq_zero hle.symm)
    have hi : its.toArray.isEmpty = false := by
      cases its with
      | nil => exact absurd rfl hn
      | cons a b => rfl
    have : k = 0 ∨ k = 1 := by omega
    rcases this with hk | hk <;> subst hk
    · refine wpAny_binaryOp_repeat_ref (T := "tuple") (U := "int") (by decide) ⟨_, ho, rfl⟩ (fun s' => typeIs_int s' 0 t) noFill_tuple_mul F.fills_int_mul F.slot_int_rmul repeat_tuple F.slot_int_index.lookup
        (call_meets F.slot_int_rmul (typeIs_int s 0 t) F.entry_int_rmul (F.args_int_rmul_2 _ _) (int_rmul_tuple 0 t l its.toArray n dd sl)
          ⟨ho, rfl, ⟨_, ho, rfl⟩, call_meets F.slot_tuple_mul ⟨_, ho, rfl⟩ F.entry_tuple_mul (F.args_tuple_mul_2 _ _) (tup_mul0 l its.toArray n dd sl t hi) ⟨ho, ?_⟩⟩)
      exact ⟨.ref s.heap.objs.size, _, I.laid (t' := s.toks) (o := .tup []) (fun b ob q => Heap.get?_push_of_some _ q) (Nat.le_refl _) ⟨by decide, [], .nil, IsTup.new _ _⟩, rfl, q2 (by omega) _ (I.hok.fresh (Nat.le_refl _))⟩
    · refine wpAny_binaryOp_repeat_ref (T := "tuple") (U := "int") (by decide) ⟨_, ho, rfl⟩ (fun s' => typeIs_int s' 1 t) noFill_tuple_mul F.fills_int_mul F.slot_int_rmul repeat_tuple F.slot_int_index.lookup
        (call_meets F.slot_int_rmul (typeIs_int s 1 t) F.entry_int_rmul (F.args_int_rmul_2 _ _) (int_rmul_tuple 1 t l its.toArray n dd sl)
          ⟨ho, rfl, ⟨_, ho, rfl⟩, call_meets F.slot_tuple_mul ⟨_, ho, rfl⟩ F.entry_tuple_mul (F.args_tuple_mul_2 _ _) (tup_mul1 l its.toArray n dd sl t) ⟨ho, ?_⟩⟩)
      exact ⟨.ref l, H, I, rfl, q1 rfl⟩
end
open PySem L2
section
variable {α β γ δ ε : Type} {K : PySem.W.Frag} {Γ : Ctx} {te ta tb : TE} {P : Pr} {r : α → Pr} {xs : List α} {k : Int} {X : Cx}
abbrev rV (r : α → Pr) : List α → Pr := fun xs => pT (xs.map r)
abbrev r4 (r : α → Pr) (s : β → Pr) (q : γ → Pr) (t : δ → Pr) : α × β × γ × δ → Pr := fun p => pT [r p.1, s p.2.1, q p.2.2.1, t p.2.2.2]
abbrev r5 (r : α → Pr) (s : β → Pr) (q : γ → Pr) (t : δ → Pr) (u : ε → Pr) : α × β × γ × δ × ε → Pr := fun p => pT [r p.1, s p.2.1, q p.2.2.1, t p.2.2.2.1, u p.2.2.2.2]
theorem op_repAK (hK : X.K = K) : OpR X (binaryOp .Mult) (rRepA K) := hK ▸ op_repA
/-- (e,) * n -/
def repVM {α : Type} (x : α) (k : Int) : Option (List α) := if 0 ≤ k ∧ k ≤ 1000 then some (List.replicate k.toNat x) else none
theorem e_repV {x : α} {ys : List α} (ha : EvE ta Γ (pT [r x])) (hb : EvE tb Γ (pI k)) (h : repVM x k = some ys) : EvE (tOp (rRepA K) ta tb) Γ (rV r ys) := fun F σ G H e Q q => by
  obtain ⟨⟨k1, k2⟩, rfl⟩ := if_some h
  refine ha F σ G H e _ fun a G1 H1 g1 p1 => hb F σ G1 H1 (e.grow g1) _ fun y G2 H2 g2 p2 => ?_
  obtain ⟨l, vs, h1, h2, h3⟩ := p1
  subst h1
  obtain ⟨v, rfl, hv⟩ : ∃ v, vs = [v] ∧ (r x).p G1 v := by
    match vs, h3 with
    | [v], h3 => exact ⟨v, rfl, h3.1⟩
    | _ :: _ :: _, h3 => exact h3.2.elim
  have e2 : ∀ n : Nat, (List.replicate n [v]).flatten = List.replicate n v := fun n => by
    induction n with
    | zero => rfl
    | succ n ih => rw [List.replicate_succ, List.flatten_cons, ih]; rfl
  have s2 : ∀ n : Nat, Sat G2 (List.replicate n v) ((List.replicate n x).map r) := fun n => by
    induction n with
    | zero => trivial
    | succ n ih => exact ⟨(r x).m g2.g hv, ih⟩
  refine ⟨l, k, [v], rfl, p2, SqT.of (g2.h _ _ (g1.s _ _ h2)), by simp, k1, k2, (show 1 ≤ 1000 by decide), fun z => ?_, fun z p hp => ?_⟩
  · subst z
    exact q _ G2 H2 (g1.trans g2) ⟨l, [v], rfl, g2.g _ _ h2, s2 1⟩
  · rw [e2]
    exact q _ _ _ ((g1.trans g2).trans (Gr.new g2.s hp)) ⟨p, _, rfl, upd_same, (s2 _).m (Gr.new (o := .tup (List.replicate k.toNat v)) g2.s hp).g⟩
abbrev rTupS (K : PySem.W.Frag) : List V → Hp → VK → Prop := fun xs H Q => ∃ p ys, xs = [.ref p] ∧ ((SqL K H p ys ∧ ∀ l, H l = none → Q (.ref l) (upd H l (.tup ys))) ∨ (SqT K H p ys ∧ Q (.ref p) H))
theorem tuple_ofK (hK : X.K = K) : CallR X (.type "tuple") (rTupS K) := hK ▸ call_tuple_of
/-- tuple(xs), xs a list -/
theorem e_tupL (hl : EvR K ta Γ (xs.map r)) : EvE (tCB (rTupS K) (tCons ta tNil)) Γ (rV r xs) := fun F σ G H e Q q =>
  hl F σ G H e _ fun a vs G1 H1 g1 s1 s2 s3 => ⟨a, vs, rfl, .inl ⟨s1, fun l hl => q _ _ _ (g1.trans (Gr.new g1.s hl)) ⟨l, vs, rfl, upd_same, s2.m (Gr.new (o := .tup vs) g1.s hl).g⟩⟩⟩
/-- list(t), t a tuple -/
theorem w_listV {ys : List α} (hl : EvE ta Γ (rV r xs)) (h : szM xs = some ys) : EvW (tCB (rListS K) (tCons ta tNil)) Γ (oL (ys.map r)) := fun F σ G H e Q q => by
  obtain ⟨hz, rfl⟩ := if_some h
  refine hl F σ G H e _ fun x G1 H1 g1 p1 => ?_
  obtain ⟨a, vs, rfl, h1, h2⟩ := p1
  refine ⟨a, vs, rfl, .inr (SqT.of (g1.s _ _ h1)), fun l hl => ?_⟩
  obtain ⟨g2, k1, k2⟩ := lay_back g1 hl h2 (by rw [h2.len, List.length_map]; exact hz)
  exact q _ _ _ _ g2 k1 k2
theorem e_ixVM {a : α} (hl : EvE ta Γ (rV r xs)) (hi : EvE tb Γ (pI k)) (h : atI xs k = some a) : EvE (tOp (rIxT K) ta tb) Γ (r a) := e_ixT hl hi (atI_map h)
theorem e_lenV (hl : EvE ta Γ (rV r xs)) : EvE (tCB (rLenS K) (tCons ta tNil)) Γ (pI (xs.length : Int)) := e_to (e_lenT hl) (by rw [List.length_map])
theorem nn_V : NN (rV r) := nn_T
theorem g_tup4 {P1 P2 P3 P4 : Pr} {i j k l : Nat} (hi : i < Γ.length) (hj : j < Γ.length) (hk : k < Γ.length) (hl : l < Γ.length) : EvG (gTup K 4 (gCons (gName i) (gCons (gName j) (gCons (gName k) (gCons (gName l) gNil))))) [i, j, k, l] Γ (pT [P1, P2, P3, P4]) ((((Γ.set i (.val P1)).set j (.val P2)).set k (.val P3)).set l (.val P4)) := fun F σ G H Ls v e ⟨a, vs, h1, h2, h3⟩ Q q => by
  match vs, h3 with
  | [x, y, z, w], h3 =>
    refine ⟨a, [x, y, z, w], h1, SqT.of (e.gr.s _ _ h2), rfl, x, [y, z, w], rfl, y, [z, w], rfl, z, [w], rfl, w, [], rfl, rfl, ?_⟩
    refine q _ ((((e.set h3.1 hi).set h3.2.1 (by simp only [List.length_set]; exact hj)).set h3.2.2.1 (by simp only [List.length_set]; exact hk)).set h3.2.2.2.1 (by simp only [List.length_set]; exact hl)) fun ws h => ?_
    rw [wipe_set _ (h l (by simp)), wipe_set _ (h k (by simp)), wipe_set _ (h j (by simp)), wipe_set _ (h i (by simp))]
  | [], h3 => exact h3.elim
  | [_], h3 => exact h3.2.elim
  | [_, _], h3 => exact h3.2.2.elim
  | [_, _, _], h3 => exact h3.2.2.2.elim
  | _ :: _ :: _ :: _ :: _ :: _, h3 => exact h3.2.2.2.2.elim
theorem g_tup5 {P1 P2 P3 P4 P5 : Pr} {i j k l m : Nat} (hi : i < Γ.length) (hj : j < Γ.length) (hk : k < Γ.length) (hl : l < Γ.length) (hm : m < Γ.length) : EvG (gTup K 5 (gCons (gName i) (gCons (gName j) (gCons (gName k) (gCons (gName l) (gCons (gName m) gNil)))))) [i, j, k, l, m] Γ (pT [P1, P2, P3, P4, P5]) (((((Γ.set i (.val P1)).set j (.val P2)).set k (.val P3)).set l (.val P4)).set m (.val P5)) := fun F σ G H Ls v e ⟨a, vs, h1, h2, h3⟩ Q q => by
  match vs, h3 with
  | [x, y, z, w, u], h3 =>
    refine ⟨a, [x, y, z, w, u], h1, SqT.of (e.gr.s _ _ h2), rfl, x, [y, z, w, u], rfl, y, [z, w, u], rfl, z, [w, u], rfl, w, [u], rfl, u, [], rfl, rfl, ?_⟩
    refine q _ (((((e.set h3.1 hi).set h3.2.1 (by simp only [List.length_set]; exact hj)).set h3.2.2.1 (by simp only [List.length_set]; exact hk)).set h3.2.2.2.1 (by simp only [List.length_set]; exact hl)).set h3.2.2.2.2.1 (by simp only [List.length_set]; exact hm)) fun ws h => ?_
    rw [wipe_set _ (h m (by simp)), wipe_set _ (h l (by simp)), wipe_set _ (h k (by simp)), wipe_set _ (h j (by simp)), wipe_set _ (h i (by simp))]
  | [], h3 => exact h3.elim
  | [_], h3 => exact h3.2.elim
  | [_, _], h3 => exact h3.2.2.elim
  | [_, _, _], h3 => exact h3.2.2.2.elim
  | [_, _, _, _], h3 => exact h3.2.2.2.2.elim
  | _ :: _ :: _ :: _ :: _ :: _ :: _, h3 => exact h3.2.2.2.2.2.elim
end
end Y

set_option Elab.async false
set_option linter.all false
set_option maxRecDepth 100000
namespace Y
open PySem L2
section
variable {K : PySem.W.Frag} {Γ : Ctx} {ta tb : TE} {X : Cx}
/-! ### sorted, index: lists of ints -/
theorem sat_intsEq {H : Hp} : ∀ {vs : List V} {ns : List Int}, Sat H vs (ns.map pI) → vs = ns.map V.int
  | [], [], _ => rfl
  | v :: vs, n :: ns, h => by
    have h1 : v = .int n := h.1
    rw [h1, sat_intsEq h.2]
    rfl
  | [], _ :: _, h => h.elim
  | _ :: _, [], h => h.elim
def sortI (xs : List Int) : List Int := xs.mergeSort fun a b => decide (a ≤ b)
theorem sortI_perm (xs : List Int) : (sortI xs).Perm xs := List.mergeSort_perm xs _
theorem sortI_le (xs : List Int) : (sortI xs).Pairwise (· ≤ ·) := by
  have := List.pairwise_mergeSort (le := fun a b : Int => decide (a ≤ b)) (fun a b c h1 h2 => by simp at *; omega) (fun a b => by simp; omega) xs
  exact this.imp fun h => of_decide_eq_true h
theorem sortI_eq {xs ys : List Int} (h : ys.Perm xs) (hs : ys.Pairwise (· ≤ ·)) : sortI xs = ys :=
  ((sortI_perm xs).trans h.symm).eq_of_pairwise (fun a b _ _ h1 h2 => Int.le_antisymm h1 h2) (sortI_le xs) hs
theorem sorted_IK (hK : X.K = K) : CallR X (.builtin "sorted") (rSortedI K) := hK ▸ cr_sortedI
theorem w_sortI {xs : List Int} (hl : EvR K ta Γ (xs.map pI)) : EvW (tCB (rSortedI K) (tCons ta tNil)) Γ (oL ((sortI xs).map pI)) := fun F σ G H e Q q =>
  hl F σ G H e _ fun a vs G1 H1 g1 s1 s2 s3 => by
    have e1 := sat_intsEq s2
    subst e1
    rw [List.length_map] at s3
    refine ⟨a, xs, rfl, s1, fun ns' p hp hs hf => ?_⟩
    obtain ⟨g2, k1, k2⟩ := lay_back (vs := ns'.map V.int) (Ps := ns'.map pI) g1 hf (sat_ints ns') (by rw [List.length_map, hp.length_eq]; exact s3)
    have e2 := sortI_eq hp hs
    rw [e2] at q
    exact q _ _ _ _ g2 k1 k2
def idxM (xs : List Int) (x : Int) : Option Int := (xs.findIdx? fun y => decide (y = x)).map fun j : Nat => (j : Int)
theorem index_K (hK : X.K = K) : MtR X "list.index" (rIndex K) := hK ▸ mt_index
theorem pe_bmK {T : String} {r : V → List V → Hp → VK → Prop} {t : TA} {e : Expr} (hK : X.K = K) (h : PE X e (tBM X.K T r ta t)) : PE X e (tBM K T r ta t) := hK ▸ h
theorem e_index {xs : List Int} {x y : Int} (hl : EvR K ta Γ (xs.map pI)) (hi : EvE tb Γ (pI x)) (h : idxM xs x = some y) : EvE (tBM K "list" (rIndex K) ta (tCons tb tNil)) Γ (pI y) := fun F σ G H e Q q =>
  hl F σ G H e _ fun a vs G1 H1 g1 s1 s2 s3 => by
    have e1 := sat_intsEq s2
    subst e1
    refine ⟨.inl ⟨rfl, _, s1⟩, hi F σ G1 H1 (e.grow g1) _ fun v G2 H2 g2 p2 => ?_⟩
    have p2 : v = .int x := p2
    subst p2
    unfold idxM at h
    obtain ⟨j, hj, rfl⟩ := Option.map_eq_some_iff.mp h
    obtain ⟨hlt, h1, h2⟩ := List.findIdx?_eq_some_iff_getElem.mp hj
    have h1 : xs[j] = x := of_decide_eq_true h1
    have ex : xs[j]? = some x := by rw [List.getElem?_eq_getElem hlt, h1]
    refine ⟨a, xs.map V.int, .int x, j, .int x, rfl, rfl, Same.seq g2.h s1, rfl, ?_, ?_, ?_, ?_, q _ G2 H2 (g1.trans g2) rfl⟩
    · rw [List.all_map]; exact List.all_eq_true.mpr fun _ _ => rfl
    · rw [List.getElem?_map, ex]; rfl
    · show (x == x) = true; simp
    · intro m z' hm hz
      rw [List.getElem?_map] at hz
      obtain ⟨w, hw, rfl⟩ := Option.map_eq_some_iff.mp hz
      have hmx : m < xs.length := by omega
      rw [List.getElem?_eq_getElem hmx] at hw
      cases hw
      have := h2 m hm
      have : ¬ xs[m] = x := fun z => this (decide_eq_true z)
      show (xs[m] == x) = false
      simp [this]
end
end Y

set_option Elab.async false
set_option linter.all false
set_option maxRecDepth 100000
namespace Y
section
open PySem PySem.Spec PyProof.Rows L2
/-! ### exceptions as values -/
variable {X : Cx} {e o : Expr} {es : List Expr} {ta : TA} {to : TE} {p pos : Pos}
/-- C(e, ..), C an exception's class, its own __init__ keeping sp; the exception is a value -/
def tMkX (C : Addr) (sp : Sp) (dvs : List V) (ta : TA) : TE := fun σ H Q => ta σ H fun vs H1 =>
  vs.length ≤ 1000 ∧ ∀ a, H1 a = none → sp (.ref a :: (vs ++ dvs)) (upd H1 a (exo a C none)) (fun v H2 => v = .non ∧ Q (.ref a) H2) E0
/-- the heap behind the laying of the exception's tuple and of itself -/
def xHeap (w0 : Heap) (us : List Value) (C : Addr) : Heap := (w0.push (PySem.W.kdv_tup us)).push (PySem.HandSPX.excO C w0.objs.size)
/-- where it lies -/
abbrev xAt (w0 : Heap) : Addr := w0.objs.size + 1
theorem xHeap_at {w0 : Heap} {us : List Value} {C : Addr} : (xHeap w0 us C).get? (xAt w0) = some (PySem.HandSPX.excO C w0.objs.size) := by
  unfold xHeap xAt
  heap_get
theorem x_free {pins : List (Addr × Obj)} {σ : L2.St} {H1 : Hp} {s1 : Shared} (I1 : Inv X pins σ H1 s1) : H1 (xAt s1.heap) = none := I1.hok.fresh (Nat.le_succ _)
theorem x_laid {pins : List (Addr × Obj)} {σ : L2.St} {H1 : Hp} {s1 : Shared} (I1 : Inv X pins σ H1 s1) (us : List Value) (C : Addr) :
    Inv X pins σ (upd H1 (xAt s1.heap) (exo (xAt s1.heap) C none)) ⟨xHeap s1.heap us C, s1.gens, s1.drawn, s1.toks, s1.os⟩ := by
  obtain ⟨w0, gs, dn, tc, oo⟩ := s1
  exact I1.laid (fun b o e => Heap.get?_push_of_some _ (Heap.get?_push_of_some _ e)) (Nat.le_succ _) (exo_ok xHeap_at)
theorem pe_oex {CX : CXT} {x : Str} {C fI : Addr} {k : Nat} {fd : FuncData} {ps : List Str} {sp : Sp} {ds : List Value} {dvs : List V}
    (oc : OexC X.K C) (i1 : PySem.W.findIn X.K (.ref C) "__init__" = some (some (.ref fI))) (i2 : PySem.W.typeIn X.K (.ref fI) = some (.type "function"))
    (Fi : FnOk X.prog X.w X.K X.mg X.base CX k fI fd ps sp) (room : Room (k + 1) X.A) (bi : Binds X.K fd ps ds) (dv : Vals dvs ds) (pa : Passes CX X (fun _ _ _ => False))
    (gl : Gl X x) (gx : X.mg x = some (.ref C)) (args : PA X (e :: es) ta) (z1 : (x == ("__debug__" : Str)) = false := by decide)
    (z2 : starEach (e :: es) X.env = (false, eval e X.env) :: starEach es X.env := by rfl) (z3 : (backTo pos (starEach es X.env)).any (·.1) = false := by rfl) :
    PE X (.Call (.Name x p) (e :: es) [] pos) (tMkX C sp dvs ta) := by
  constructor
  intro pins s σ H Q I told
  obtain ⟨_, _, _, _, bm, _, _, _, _, _, _, _, _, _, _, hC, hbm⟩ := oc.cls
  refine wpAny_Call_Name_kw (ld_glob I gl gx ?_ z1)
  refine PySem.W.callWith_K (h₀ := X.base) I.ok.mod.kin oc.kC (thn (args.run pos pins s σ H _ I told) ?_) z2 z3
  intro us s1 ⟨vs, H1, I1, rv, few, made⟩
  refine ⟨I1.kIn, ?_⟩
  have made := made _ (x_free I1)
  have I2 := x_laid I1 us C
  obtain ⟨w0, gs, dn, tc, oo⟩ := s1
  have all : Vals (V.ref (xAt w0) :: (vs ++ dvs)) (Value.ref (xAt w0) :: (us ++ ds)) := .cons rfl (rv.append dv)
  have count : (Value.ref (xAt w0) :: us ++ ds).length = ps.length := all.length.symm.trans (Fi.len _ _ _ _ made)
  have fits : us.length ≤ sizeLine := Nat.le_trans (Nat.le_of_eq (Paired.length rv).symm) (Nat.le_trans few (by rw [sizeLine_eq]; decide))
  have body := Fi.run _ X.stack _ _ ⟨Value.ref (xAt w0) :: us, []⟩ (Value.ref (xAt w0) :: (us ++ ds)) _ _ (fun _ _ _ => False) (room.make C us []) (I2.env0.make C us [])
    (bi _ (Value.ref (xAt w0) :: us) I2.kIn count) all made
  show wpAny _ _ (call (.ref C) ([] ++ us)) _ _ _
  rw [List.nil_append]
  refine wpAny_call (PySem.HandSPX.call_own F.excBase_ValueError (fun Y => PySem.HandSPX.refsVE_contains Y bm hbm) (I1.kIn _ _ hC)
    (PySem.W.looks_findIn I1.kIn i1) (fun self => PySem.W.bind_fn I1.kIn self i2) fits (codeAny_mono body ?_))
  intro r s' end_
  match r, end_ with
  | .error er, end_ => exact pa pins σ _ _ er s' I2 end_
  | .ok (.ret u), end_ =>
    obtain ⟨v, H2, I3, ru, ev, fine⟩ := I2.after end_
    subst ev
    exact ⟨ru, .ref (xAt w0), H2, I3, rfl, fine⟩
  | .ok .next, end_ => exact end_.elim
  | .ok .brk, end_ => exact end_.elim
  | .ok .cont, end_ => exact end_.elim
/-- what the written part says of an exception's class -/
structure XCls (K : PySem.W.Frag) (f : Str) (C : Addr) : Prop where
  ox : OexC K C
  ga : PySem.W.findIn K (.ref C) "__getattribute__" = some (some (.builtin "BaseException.__getattribute__"))
  gg : PySem.W.findIn K (.ref C) "__getattr__" = some none
  no : PySem.W.findIn K (.ref C) f = some none
  hd : PySem.W.hasDictIn K C = true
  cl : (PySem.W.clsIn K C).isSome = true
  ha : PySem.W.findIn K (.ref C) "__class__" = some (some (.builtin "object.__class__"))
  hn : PySem.W.specialIn K (.builtin "object.__class__") "__get__" = some (some (.builtin "getset_descriptor.__get__"))
  tk : PySem.W.takesIn K (.builtin "object.__class__") = some true
  hm : PySem.W.mroIn K C (.type "object") = some true
def oexMro (C : Addr) (mro : List Value) : Bool := match mro with
  | .ref D :: bm => D == C && PySem.HandSPX.refsVE bm
  | _ => false
def oexSlots (l : List (Option Value)) : Bool := match l with
  | [_, _, _, _, some (.builtin n), _] => n == "ValueError.__new__"
  | _ => false
def oexIn (K : PySem.W.Frag) (C : Addr) : Bool := match K.lookup C with
  | some o => o.cls == .type "type" && (match o.data with
    | .cls cd => oexMro C cd.mro && (oexSlots o.slots.toList && (!cd.hasDel && cd.hasDict))
    | _ => false)
  | none => false
theorem oex_mro {C : Addr} : ∀ {l : List Value}, oexMro C l = true → ∃ bm, l = .ref C :: bm ∧ PySem.HandSPX.refsVE bm = true
  | .ref D :: bm, h => by
    obtain ⟨h1, h2⟩ := Bool.and_eq_true_iff.mp (show (D == C && _) = true from h)
    exact ⟨bm, by rw [eq_of_beq h1], h2⟩
theorem oex_slots {a : Array (Option Value)} (h : oexSlots a.toList = true) : ∃ k0 k1 k2 k3 k5, a = #[k0, k1, k2, k3, some (.builtin "ValueError.__new__"), k5] := by
  obtain ⟨l⟩ := a
  unfold oexSlots at h
  split at h
  · rename_i k0 k1 k2 k3 n k5 e
    have e : l = _ := e
    have hn := eq_of_beq h
    subst hn e
    exact ⟨k0, k1, k2, k3, k5, rfl⟩
  · cases h
theorem oex_cls {K : PySem.W.Frag} {C : Addr} (h : oexIn K C = true) : ∃ nm q N bs bm sn sub ab col dd k0 k1 k2 k3 k5,
    K.lookup C = some (excClassObj nm q C N bs bm true sn sub ab col dd k0 k1 k2 k3 k5 "ValueError.__new__") ∧ PySem.HandSPX.refsVE bm = true := by
  unfold oexIn at h
  cases e : K.lookup C with
  | none => rw [e] at h; cases h
  | some o =>
    rw [e] at h
    obtain ⟨h1, h2⟩ := Bool.and_eq_true_iff.mp h
    obtain ⟨oc, od, dt, sl⟩ := o
    have h1 : oc = .type "type" := eq_of_beq h1
    subst h1
    cases dt <;> first | exact Bool.noConfusion (show false = true from h2) | skip
    rename_i cd
    obtain ⟨h3, h4⟩ := Bool.and_eq_true_iff.mp (show (oexMro C cd.mro && (oexSlots sl.toList && (!cd.hasDel && cd.hasDict))) = true from h2)
    obtain ⟨h5, h6⟩ := Bool.and_eq_true_iff.mp h4
    obtain ⟨h7, h8⟩ := Bool.and_eq_true_iff.mp h6
    obtain ⟨bm, h9, h10⟩ := oex_mro h3
    obtain ⟨k0, k1, k2, k3, k5, h11⟩ := oex_slots h5
    have h7 : cd.hasDel = false := by cases z : cd.hasDel with
      | true => rw [z] at h7; cases h7
      | false => rfl
    cases cd with | mk nm bs mro ns qn dct sn sub ab col del =>
    have h9 : mro = _ := h9
    have h8 : dct = true := h8
    have h7 : del = false := h7
    subst h11 h9 h8 h7
    exact ⟨nm, qn, ns, bs, bm, sn, sub, ab, col, od, k0, k1, k2, k3, k5, rfl, h10⟩
/-- err.f -/
def tFldX (K : PySem.W.Frag) (to : TE) (f : Str) : TE := fun σ H Q => to σ H fun x H1 => ∃ (a C d : Addr) (fs : List (Str × V)) (y : V), x = .ref a ∧ XCls K f C ∧ H1 a = some (exo a C (some d)) ∧ H1 d = some (exd d fs) ∧ fs.lookup f = some y ∧ Q y H1
theorem pe_fldX {f : Str} {K : PySem.W.Frag} (hK : X.K = K) (he : PE X o to) (hb : attributeBase o f X.env (eval o X.env) = eval o X.env) : PE X (.Attribute o f pos) (tFldX K to f) := by
  subst hK
  refine ⟨fun pins s σ H Q I h => ?_⟩
  refine attr_of hb (thn (he.run pins s σ H _ I h) fun u s1 ⟨x, H1, I1, rx, a, C, d, fs, y, ex, T, ea, ed, hl, q⟩ => ?_)
  subst ex
  obtain rfl : u = Value.ref a := rx
  obtain ⟨t1, ho⟩ := exo_at I1.hok ea
  obtain ⟨mA, hns, hr⟩ := exd_at I1.hok ed
  obtain ⟨od, hod, hlk⟩ := lookIn_ns hns
  obtain ⟨u, hu, ru⟩ := RelO.some_of (v := y) (o := mA f) (by rw [← hl]; exact hr f)
  have J : PySem.W.InstAt s1.heap a _ C (some od) := ⟨ho, rfl, rfl, hod⟩
  exact HandSPX.exc_get I1.kIn J T.ga T.gg T.ox.exC (PySem.W.findObj_own T.hd T.no rfl (by rw [hlk, hu])) (handed_of ru) ⟨y, H1, I1.tok _, ru, q⟩
/-- isinstance(err, D) -/
def rIsiX (K : PySem.W.Frag) (f : Str) : List V → Hp → VK → Prop := fun xs H Q => ∃ (a C d : Addr) (fs : List (Str × V)) (c : V) (u : Value) (b : Bool), xs = [.ref a, c] ∧ ClsV c u ∧ XCls K f C ∧ H a = some (exo a C (some d)) ∧ H d = some (exd d fs) ∧ PySem.W.kitOne K (.ref C) u = some b ∧ Q (.bl b) H
theorem isiXK {K : PySem.W.Frag} {f : Str} (hK : X.K = K) : CallR X (.builtin "isinstance") (rIsiX K f) := by
  subst hK
  intro pins s σ H xs us Q I r h
  obtain ⟨a, C, d, fs, c, u, b, rfl, k, T, ea, ed, e, q⟩ := h
  obtain ⟨u1, u2, rfl, r1, r2⟩ := vals2 r
  cases (show u1 = Value.ref a from r1)
  have e2 := k.eq r2
  subst e2
  obtain ⟨t1, ho⟩ := exo_at I.hok ea
  obtain ⟨mA, hns, hr⟩ := exd_at I.hok ed
  obtain ⟨od, hod, hlk⟩ := lookIn_ns hns
  have J : PySem.W.InstAt s.heap a _ C (some od) := ⟨ho, rfl, rfl, hod⟩
  exact PySem.W.kia_one (PySem.W.kitx_exc T.cl T.ga T.gg T.ox.exC T.ha T.hn T.tk T.hm) I.kIn J e (fun z => nomatch z) fun tk => ⟨.bl b, H, I.tok tk, rfl, q⟩
end
end Y

set_option Elab.async false
set_option linter.all false
set_option maxRecDepth 100000
namespace Y
open PySem L2
/-- an exception that is being made; made, with one field; held -/
def oX0 (C : Addr) : Ow := ⟨fun _ H v L => ∃ a, v = .ref a ∧ L = [a] ∧ H a = some (exo a C none), fun g k ⟨a, h1, h2, h3⟩ => ⟨a, h1, h2, by rw [k a (by rw [h2]; exact List.mem_singleton.mpr rfl)]; exact h3⟩⟩
def oX1 (K : PySem.W.Frag) (f : Str) (C : Addr) (P : Pr) : Ow := ⟨fun G H v L => ∃ a d y, v = .ref a ∧ L = [a, d] ∧ a ≠ d ∧ XCls K f C ∧ H a = some (exo a C (some d)) ∧ H d = some (exd d [(f, y)]) ∧ P.p G y, fun g k ⟨a, d, y, h1, h2, h3, h4, h5, h6, h7⟩ =>
  ⟨a, d, y, h1, h2, h3, h4, by rw [k a (by rw [h2]; exact List.mem_cons_self)]; exact h5, by rw [k d (by rw [h2]; exact List.mem_cons_of_mem _ List.mem_cons_self)]; exact h6, P.m g h7⟩⟩
def pX1 (K : PySem.W.Frag) (f : Str) (C : Addr) (P : Pr) : Pr := ⟨fun H v => ∃ a d y, v = .ref a ∧ XCls K f C ∧ H a = some (exo a C (some d)) ∧ H d = some (exd d [(f, y)]) ∧ P.p H y, fun g ⟨a, d, y, h1, h4, h5, h6, h7⟩ => ⟨a, d, y, h1, h4, g _ _ h5, g _ _ h6, P.m g h7⟩⟩
section
variable {K : PySem.W.Frag} {Γ : Ctx} {te ta tb : TE} {tas : TA} {P : Pr} {Ps : List Pr} {C : Addr} {f : Str} {i : Nat} {W : Ow}
theorem frz_X1 : Frz (oX1 K f C P) (pX1 K f C P) := fun G H v L s hL ⟨a, d, y, h1, h2, h3, h4, h5, h6, h7⟩ => by
  subst h2
  have ga : G a = none := hL a List.mem_cons_self
  have gd : G d = none := hL d (List.mem_cons_of_mem _ List.mem_cons_self)
  have ga2 : upd G d (exd d [(f, y)]) a = none := by rw [upd_ne h3]; exact ga
  have g1 : Gw G (upd (upd G d (exd d [(f, y)])) a (exo a C (some d))) := (Gw.new gd).trans (Gw.new ga2)
  refine ⟨_, g1, fun b u hb => ?_, fun b hb => ?_, a, d, y, h1, h4, upd_same, ?_, P.m g1 h7⟩
  · by_cases z : b = a
    · subst z
      rw [upd_same] at hb
      cases hb
      exact h5
    · rw [upd_ne z] at hb
      by_cases z2 : b = d
      · subst z2
        rw [upd_same] at hb
        cases hb
        exact h6
      · rw [upd_ne z2] at hb
        exact s b u hb
  · rw [upd_ne (fun z => hb (by rw [z]; exact List.mem_cons_self)), upd_ne (fun z => hb (by rw [z]; exact List.mem_cons_of_mem _ List.mem_cons_self))]
  · rw [upd_ne (Ne.symm h3), upd_same]
theorem e_mkX {R : Ow → List Pr → Ow → Pr → Prop} (h : EvA tas Γ Ps) (hn : Ps.length ≤ 1000) (hR : R (oX0 C) Ps W pN) : EvW (tMkX C (spU 0 R) [] tas) Γ W := fun F σ G H e Q q =>
  h F σ G H e _ fun vs G1 H1 g1 s1 => ⟨by rw [s1.len]; exact hn, fun x hx => by
    have gx : G1 x = none := g1.s.free hx
    rw [List.append_nil]
    refine ⟨oX0 C, W, Ps, pN, G1, [x], .ref x, hR, rfl, ⟨x, rfl, rfl, upd_same⟩, Gw.mut g1.s gx, fun a ha => ?_, s1, fun r G' H' L' g hL hu hp => ⟨hp, ?_⟩⟩
    · rw [List.mem_singleton.mp ha, upd_same]
      exact ⟨gx, fun z => nomatch z⟩
    · have old : ∀ b, H1 b ≠ none → delL (upd H1 x (exo x C none)) [x] b = H1 b := fun b hb => by
        have n1 : b ≠ x := fun z => hb (z ▸ hx)
        rw [delL_out (fun z => n1 (List.mem_singleton.mp z)), upd_ne n1]
      refine q (.ref x) L' G' H' (g1.trans ⟨g.g, fun b o hb => ?_, g.s, fun b hb hg => ?_⟩) (fun b hb => ⟨?_, (hL b hb).2⟩) hu
      · refine g.h b o ?_
        rw [old b (by rw [hb]; exact fun z => nomatch z)]
        exact hb
      · refine g.f b ?_ hg
        rw [old b hb]
        exact hb
      · rcases (hL b hb).1 with z | z
        · rw [List.mem_singleton.mp z]
          exact g1.h.free hx
        · refine g1.h.free ?_
          cases hb1 : H1 b with
          | none => rfl
          | some o =>
            have n1 : b ≠ x := ne_of_none hb1 hx
            rw [upd_ne n1, hb1] at z
            cases z⟩
/-- ValueError.__init__(self, ..) -/
theorem s_vei {z : V} (hi : Γ[i]? = some (.own (oAt z (oX0 C)))) (c : OexC K C) (h : EvA tas Γ Ps) (hn : Ps.length ≤ 999) : StS (tDrop (tVeI K (tCons (tVar i) tas))) Γ (.nx Γ) := fun F σ G H D e g => by
  obtain ⟨Ls, e1⟩ := id e
  obtain ⟨v, h1, h2, a, h3, h4, h5⟩ := (e1.at_ i _ hi).own_
  refine ⟨v, h1, h F σ G H e _ fun vs G1 H1 g1 s1 => ⟨a, C, vs, by rw [h3], by rw [s1.len]; omega, c, g1.h _ _ h5, ?_⟩⟩
  exact g σ G1 H1 (e.grow g1)
/-- self.f = e, the first field -/
theorem s_ostX {z : V} (hi : Γ[i]? = some (.own (oAt z (oX0 C)))) (c : XCls K f C) (h : EvE te Γ P) : StS (tOst K f (tVar i) te) Γ (.nx (Γ.set i (.own (oAt z (oX1 K f C P))))) := fun F σ G H D e g =>
  h F σ G H e _ fun y G1 H1 g1 p1 => by
    obtain ⟨Ls, e1⟩ := e.grow g1
    obtain ⟨v, h1, h2, a, h3, h4, h5⟩ := (e1.at_ i _ hi).own_
    refine ⟨v, h1, a, C, h3, c.ox, c.no, .inl ⟨h5, fun dx hd ne => ?_⟩⟩
    have ge : G1 dx = none := e1.gr.s.free hd
    refine g σ G1 _ (e1.mut (L := [a, dx]) hi h1 (fun b hb hn => ?_) ⟨h2, a, dx, y, h3, rfl, Ne.symm ne, c, upd_same, by rw [upd_ne ne, upd_same], p1⟩ (fun b hb => ?_) fun b hb => ?_)
    · have n1 : b ≠ a := fun q => hb (by rw [h4, q]; exact List.mem_singleton.mpr rfl)
      have n2 : b ≠ dx := fun q => hn (q ▸ hd)
      rw [upd_ne n1, upd_ne n2]
    · rcases List.mem_cons.mp hb with q | q
      · exact .inl (by rw [h4, q]; exact List.mem_singleton.mpr rfl)
      · exact .inr (by rw [List.mem_singleton.mp q]; exact hd)
    · by_cases q : b = a
      · rw [q, upd_same]; exact fun z => nomatch z
      · rcases List.mem_cons.mp hb with q2 | q2
        · exact absurd q2 q
        · rw [upd_ne q, List.mem_singleton.mp q2, upd_same]; exact fun z => nomatch z
theorem e_fldX (h : EvE ta Γ (pX1 K f C P)) : EvE (tFldX K ta f) Γ P := fun F σ G H e Q q =>
  h F σ G H e _ fun x G1 H1 g1 ⟨a, d, y, h1, h4, h5, h6, h7⟩ => ⟨a, C, d, _, y, h1, h4, g1.s _ _ h5, g1.s _ _ h6, by simp [List.lookup], q y G1 H1 g1 h7⟩
theorem e_isiX {c : V} {u : Value} {b : Bool} (h : EvE ta Γ (pX1 K f C P)) (hc : ClsV c u) (hk : PySem.W.kitOne K (.ref C) u = some b) : EvE (tCB (rIsiX K f) (tCons ta (tCons (tC c) tNil))) Γ (pB b) := fun F σ G H e Q q =>
  h F σ G H e _ fun x G1 H1 g1 ⟨a, d, y, h1, h4, h5, h6, h7⟩ => ⟨a, C, d, _, c, u, b, by rw [h1], hc, h4, g1.s _ _ h5, g1.s _ _ h6, hk, q _ G1 H1 g1 rfl⟩
/-! ### f-strings -/
def fmtI (i : Int) : Option Str := if i.natAbs.log2 < 1920 then some (toString i : Str) else none
def fmtS (s : Str) : Option Str := if s.length ≤ sizeLine then some s else none
def jsM : List Str → Str → Option Str
  | [], acc => some acc
  | p :: ps, acc => if (acc ++ p).length ≤ sizeLine then jsM ps (acc ++ p) else none
inductive EvJ (Γ : Ctx) : List TE → List Str → Prop where
  | nil : EvJ Γ [] []
  | cons {t : TE} {s : Str} {ts : List TE} {ss : List Str} (h : EvE t Γ (pS s)) (r : EvJ Γ ts ss) : EvJ Γ (t :: ts) (s :: ss)
theorem ev_js {ts : List TE} {ss : List Str} (h : EvJ Γ ts ss) : ∀ (acc out : Str), jsM ss acc = some out → ∀ (F : Fm) (σ : St) (G H : Hp), EOk F Γ σ G H → ∀ Q : Str → Hp → Prop, (∀ G' H', Gr G H G' H' → Q out H') → tJs ts acc σ H Q := by
  induction h with
  | nil =>
    intro acc out e F σ G H k Q q
    cases e
    exact q G H (Gr.refl k.s)
  | @cons t s ts ss h r ih =>
    intro acc out e F σ G H k Q q
    unfold jsM at e
    by_cases z : (acc ++ s).length ≤ sizeLine
    · rw [if_pos z] at e
      exact h F σ G H k _ fun v G1 H1 g1 p1 => ⟨s, p1, z, ih _ _ e F σ G1 H1 (k.grow g1) Q fun G2 H2 g2 => q G2 H2 (g1.trans g2)⟩
    · rw [if_neg z] at e
      cases e
abbrev tJo (ts : List TE) : TE := fun σ H Q => tJs ts Str.empty σ H fun out H1 => Q (.str out) H1
theorem e_js {ts : List TE} {ss : List Str} {out : Str} (h : EvJ Γ ts ss) (e : jsM ss Str.empty = some out) : EvE (tJo ts) Γ (pS out) := fun F σ G H k Q q => ev_js h _ _ e F σ G H k _ fun G' H' g => q _ G' H' g rfl
theorem e_fmtI {x : Int} {s : Str} (h : EvE te Γ (pI x)) (e : fmtI x = some s) : EvE (tFmt te) Γ (pS s) := fun F σ G H k Q q => by
  unfold fmtI at e
  by_cases z : x.natAbs.log2 < 1920
  · rw [if_pos z] at e
    cases e
    exact h F σ G H k _ fun v G1 H1 g1 p1 => .inr ⟨x, p1, z, q _ G1 H1 g1 rfl⟩
  · rw [if_neg z] at e
    cases e
theorem e_fmtS {x s : Str} (h : EvE te Γ (pS x)) (e : fmtS x = some s) : EvE (tFmt te) Γ (pS s) := fun F σ G H k Q q => by
  unfold fmtS at e
  by_cases z : x.length ≤ sizeLine
  · rw [if_pos z] at e
    cases e
    exact h F σ G H k _ fun v G1 H1 g1 p1 => .inl ⟨x, p1, z, q _ G1 H1 g1 rfl⟩
  · rw [if_neg z] at e
    cases e
end
end Y

set_option Elab.async false
set_option linter.all false
set_option maxRecDepth 100000
namespace Y
section
open PySem PySem.Spec PyProof.Rows PySem.W L2
/-! ### None == an object with an own ==; lists of unlike lengths -/
section
variable {prog : Program} {w : World} {A A₀ : Around} {E : Value → Shared → Prop} {s : Shared} {K : Frag} {x C L f : Addr} {h₀ : Heap} {m : Str → Option Value} {ox : Obj} {od : Option Obj}
theorem none_own {Q : Value → Shared → Prop} (hu : A.units < cLine) (F0 : Fr h₀ L s.heap m) (X₀ : K.In h₀) (I : InstAt s.heap x ox C od) (hn : subIn K (.ref C) (.type "NoneType") = some false)
    (hs : findIn K (.ref C) "__eq__" = some (some (.ref f))) (hf : isFn K (.ref f) = true)
    (h : wpAny (model prog w) A (call (.ref f) [.ref x, .none]) (W.CmpBack Q) E s) : wpAny (model prog w) A (richCompare .Eq .none (.ref x)) Q E s := by
  have X := X₀.keeps F0.keep
  have two : wpAny (model prog w) A (tryCompare (.ref x) (cmpInfo .Eq).2.2 .none) (fun r s' => ∃ v, r = some v ∧ Q v s') E s := by
    unfold tryCompare
    have back : ∀ (v : Value) (s' : Shared), W.CmpBack Q v s' → wpAny (model prog w) A (match some v with
        | some .notImplemented | Option.none => pure Option.none
        | some v => pure (some v)) (fun r s' => ∃ v, r = some v ∧ Q v s') E s' := fun v s' hv => by
      cases v <;> first | exact (show False from hv).elim | exact wpAny_pure ⟨_, rfl, hv⟩
    exact wpAny_bind (ifBound_K X I hs hf (wpAny_mono h back fun _ _ q => q))
  have hN : s.TypeIs .none "NoneType" := rfl
  unfold richCompare
  simp only [hN.oneThing_none]
  refine wpAny_holding ?_
  refine wpAny_bind (wpAny_cRoomFor hu ?_)
  refine wpAny_bind (wpAny_typeOf hN (wpAny_bind (I.type.here ?_)))
  split
  · refine wpAny_bind ((looks_subIn X hn).here ?_)
    simp only [Bool.false_eq_true, if_false]
    refine wpAny_bind (m := tryCompare .none _ (.ref x)) (wpAny_tryCompare_declines hN PySem.F.slot_NoneType_eq (call_gives PySem.F.slot_NoneType_eq rfl PySem.F.entry_NoneType_eq (PySem.F.args_NoneType_eq_2 _ _) (PySem.SeqAt.NoneType___eq___none_ref_0 x) ⟨rfl, ?_⟩))
    simp only [Bool.not_false, if_true]
    refine wpAny_bind (wpAny_mono two (fun r s' z => ?_) fun _ _ e => e)
    obtain ⟨v, rfl, hq⟩ := z
    exact wpAny_pure hq
  · rename_i q
    exact absurd q (by simp)
end
end
open PySem L2
section
variable {X : Cx} {n : Nat} {f C : Addr} {fd : FuncData} {ps : List Str} {R : List Pr → Pr → Prop} {α : Type} {r : α → Pr}
def rOwnEqN (C : Addr) (R : List Pr → Pr → Prop) : R2 := fun x y H Q => ∃ a dx fs, x = .non ∧ y = .ref a ∧ H a = some (.ins C dx fs) ∧ spR R [y, x] H (fun v H' => ∃ b, v = .bl b ∧ Q (.bl b) H') E0
theorem op_ownEqN (F : FnOk X.prog X.w X.K X.mg X.base CX0 n f fd ps (spR R)) (hs : PySem.W.findIn X.K (.ref C) "__eq__" = some (some (.ref f))) (hf : PySem.W.isFn X.K (.ref f) = true) (hn : PySem.W.subIn X.K (.ref C) (.type "NoneType") = some false)
    (hb : Binds X.K fd ps []) (hr : Room n X.A) : OpR X (compareOp .Eq) (rOwnEqN C R) := by
  intro pins s σ H x y v u Q I rx ry ⟨a, dx, fs, ex, ey, ea, hsp⟩
  subst ex ey
  cases rx
  cases ry
  show wpAny (model X.prog X.w) X.A (richCompare .Eq .none (.ref a)) (EP X pins σ Q) X.xe s
  obtain ⟨mA, O, _⟩ := ins_get I.hok ea
  obtain ⟨od, J, _⟩ := O.look
  obtain ⟨m, hF⟩ := I.fr
  refine none_own hr.units0 hF I.ok.mod.kin J hn hs hf ?_
  have r2 : Vals [V.ref a, V.non] [Value.ref a, Value.none] := .cons rfl (.cons rfl .nil)
  refine wpAny_mono (run_fn (Q := fun v H' => ∃ b, v = .bl b ∧ Q (.bl b) H') F hr hb .nil pass0 I r2 (by rw [List.append_nil]; exact hsp)) (fun r s' hz => ?_) fun _ _ e => e
  obtain ⟨z, H', I', rz, b, ez, q⟩ := hz
  subst ez
  cases rz
  exact ⟨.bl b, H', I', rfl, q⟩
/-- an object or None, either side -/
def rEqOd (K : PySem.W.Frag) (C : Addr) (R : List Pr → Pr → Prop) : R2 := fun x y H Q => (x = .non ∧ y = .non ∧ Q (.bl true) H) ∨ rOwnEq K C R x y H Q ∨ rOwnEqN C R x y H Q
theorem op_eqOd (F : FnOk X.prog X.w X.K X.mg X.base CX0 n f fd ps (spR R)) (hs : PySem.W.findIn X.K (.ref C) "__eq__" = some (some (.ref f))) (hf : PySem.W.isFn X.K (.ref f) = true) (hn : PySem.W.subIn X.K (.ref C) (.type "NoneType") = some false)
    (hb : Binds X.K fd ps []) (hr : Room n X.A) : OpR X (compareOp .Eq) (rEqOd X.K C R) := fun pins s σ H x y v u Q I rx ry h => by
  rcases h with ⟨h1, h2, h3⟩ | h | h
  · subst h1 h2
    exact op_eq pins s σ H .non .non v u Q I rx ry ⟨rfl, h3⟩
  · exact op_ownEq F hs hf hb hr pins s σ H x y v u Q I rx ry h
  · exact op_ownEqN F hs hf hn hb hr pins s σ H x y v u Q I rx ry h
/-- two lists, the same or of unlike lengths -/
def rEqLd (D : Eqv) : R2 := fun x y H Q => rEqG D x y H Q ∨ ∃ a b xs ys, x = .ref a ∧ y = .ref b ∧ H a = some (.lst xs) ∧ H b = some (.lst ys) ∧ xs.length ≠ ys.length ∧ Q (.bl false) H
theorem op_eqLd (F : FnOk X.prog X.w X.K X.mg X.base CX0 n f fd ps (spR R)) (hs : PySem.W.findIn X.K (.ref C) "__eq__" = some (some (.ref f))) (hf : PySem.W.isFn X.K (.ref f) = true) (hb : Binds X.K fd ps []) (hr : Room (n + 1) X.A) :
    OpR X (compareOp .Eq) (rEqLd (DList (DIns C (Rse r R)))) := fun pins s σ H x y v u Q I rx ry h => by
  rcases h with h | ⟨a, b, xs, ys, h1, h2, h3, h4, h5, q⟩
  · exact op_eqLs F hs hf hb hr pins s σ H x y v u Q I rx ry h
  · subst h1 h2
    cases rx
    cases ry
    show wpAny (model X.prog X.w) X.A (richCompare .Eq (.ref a) (.ref b)) (EP X pins σ Q) X.xe s
    obtain ⟨z, its, k, r1, e1⟩ := I.hok a _ h3
    obtain ⟨z2, its2, k2, r2, e2⟩ := I.hok b _ h4
    refine PySem.SeqAt.RcAt.lists_lengths (items := its.toArray) (items2 := its2.toArray) ⟨_, e1, rfl, _, rfl⟩ ⟨_, e2, rfl, _, rfl⟩ ?_ hr.units0 X.prog X.w _ _ ⟨.bl false, H, I, rfl, q⟩
    have l1 := r1.length
    have l2 := r2.length
    simp only [List.size_toArray, bne_iff_ne, ne_eq]
    omega
end
section
variable {K : PySem.W.Frag} {Γ : Ctx} {ta tb : TE} {C : Addr} {ns : List Str} {R : List Pr → Pr → Prop} {α : Type} {f : α → List Pr}
def eqLM {α : Type} [DecidableEq α] (xs ys : List α) : Option Bool := if xs = ys then some true else if xs.length = ys.length then none else some false
def eqOM {α : Type} (m : α → α → Option Bool) : Option α → Option α → Option Bool
  | none, none => some true
  | some x, some y => m x y
  | _, _ => some false
theorem e_eqLd [DecidableEq α] {xs ys : List α} {b : Bool} (hR : ∀ c, R [pO C ns (f c), pO C ns (f c)] (pB true)) (h : eqLM xs ys = some b) (ha : EvE ta Γ (pL (xs.map fun c => pO C ns (f c)))) (hb : EvE tb Γ (pL (ys.map fun c => pO C ns (f c)))) : EvE (tOp (rEqLd (DList (DIns C (Rse (fun c => pO C ns (f c)) R)))) ta tb) Γ (pB b) := fun F σ G H e Q q => by
  unfold eqLM at h
  by_cases z : xs = ys
  · rw [if_pos z] at h
    cases h
    have := e_eqLs hR ⟨z, rfl⟩ ha hb F σ G H e Q q
    exact ha F σ G H e _ fun x G1 H1 g1 p1 => hb F σ G1 H1 (e.grow g1) _ fun y G2 H2 g2 p2 => by
      subst z
      obtain ⟨p, o, e1, e2, vs, e3, e4, _⟩ := (pL _).m g2.g p1
      obtain ⟨q', o', e5, e6, us, e7, e8, _⟩ := p2
      subst e1 e3 e5 e7
      refine .inl ⟨⟨p, q', vs, us, rfl, rfl, g2.s _ _ e2, g2.s _ _ e6, e4.len.trans e8.len.symm, fun i a b ha hb => ?_⟩, fun H' ex => q _ G2 H' ((g1.trans g2).trans ⟨Gw.refl _, ex, g2.s.trans ex, fun _ _ h => h⟩) rfl⟩
      obtain ⟨P1, q1, q2⟩ := e4.getv ha
      obtain ⟨P2, q3, q4⟩ := e8.getv hb
      rw [q1] at q3
      cases q3
      rw [List.getElem?_map] at q1
      cases z : xs[i]? with
      | none =>
        rw [z] at q1
        cases q1
      | some c =>
        rw [z] at q1
        cases q1
        exact ins_two g2.s q2 q4 (hR c)
  · rw [if_neg z] at h
    by_cases l : xs.length = ys.length
    · rw [if_pos l] at h
      cases h
    · rw [if_neg l] at h
      cases h
      exact ha F σ G H e _ fun x G1 H1 g1 p1 => hb F σ G1 H1 (e.grow g1) _ fun y G2 H2 g2 p2 => by
        obtain ⟨p, o, e1, e2, vs, e3, e4, _⟩ := (pL _).m g2.g p1
        obtain ⟨q', o', e5, e6, us, e7, e8, _⟩ := p2
        subst e1 e3 e5 e7
        refine .inr ⟨p, q', vs, us, rfl, rfl, g2.s _ _ e2, g2.s _ _ e6, ?_, q _ G2 H2 (g1.trans g2) rfl⟩
        have l1 := e4.len
        have l2 := e8.len
        rw [List.length_map] at l1 l2
        omega
theorem e_eqOd {m : α → α → Option Bool} {o o' : Option α} {b : Bool} (hSS : ∀ x y b, m x y = some b → R [pO C ns (f x), pO C ns (f y)] (pB b)) (hSN : ∀ x, R [pO C ns (f x), pN] (pB false)) (hn : PySem.W.notFirst K C (.type "NoneType") = true) (h : eqOM m o o' = some b)
    (ha : EvE ta Γ (pOpt (fun c => pO C ns (f c)) o)) (hb : EvE tb Γ (pOpt (fun c => pO C ns (f c)) o')) : EvE (tOp (rEqOd K C R) ta tb) Γ (pB b) := fun F σ G H e Q q => by
  cases o with
  | none =>
    cases o' with
    | none =>
      cases h
      exact ha F σ G H e _ fun x G1 H1 g1 p1 => hb F σ G1 H1 (e.grow g1) _ fun y G2 H2 g2 p2 => .inl ⟨p1, p2, q _ G2 H2 (g1.trans g2) rfl⟩
    | some c =>
      cases h
      exact ha F σ G H e _ fun x G1 H1 g1 p1 => hb F σ G1 H1 (e.grow g1) _ fun y G2 H2 g2 p2 => by
        obtain ⟨a, o, h1, h2, dx, vs, h3, _⟩ := id p2
        subst h1 h3
        exact .inr (.inr ⟨a, dx, _, p1, rfl, g2.s _ _ h2, [_, _], pB false, G2, hSN c, g2.s, ⟨p2, p1, trivial⟩, fun v G3 H3 g3 p3 => ⟨false, p3, q _ G3 H3 ((g1.trans g2).trans g3) rfl⟩⟩)
  | some c =>
    cases o' with
    | none =>
      cases h
      exact ha F σ G H e _ fun x G1 H1 g1 p1 => hb F σ G1 H1 (e.grow g1) _ fun y G2 H2 g2 p2 => by
        have p1' := (pO C ns (f c)).m g2.g p1
        obtain ⟨a, o, h1, h2, dx, vs, h3, _⟩ := id p1'
        subst h1 h3
        exact .inr (.inl ⟨a, dx, _, .type "NoneType", rfl, g2.s _ _ h2, tw_N H2 y p2, hn, [_, _], pB false, G2, hSN c, g2.s, ⟨p1', p2, trivial⟩, fun v G3 H3 g3 p3 => ⟨false, p3, q _ G3 H3 ((g1.trans g2).trans g3) rfl⟩⟩)
    | some c' =>
      exact ha F σ G H e _ fun x G1 H1 g1 p1 => hb F σ G1 H1 (e.grow g1) _ fun y G2 H2 g2 p2 => by
        have p1' := (pO C ns (f c)).m g2.g p1
        obtain ⟨a, o, h1, h2, dx, vs, h3, _⟩ := id p1'
        subst h1 h3
        exact .inr (.inl ⟨a, dx, _, .ref C, rfl, g2.s _ _ h2, tw_O H2 y ((pO C ns (f c')).m g2.s p2), notFirst_self, [_, _], pB b, G2, hSS c c' b h, g2.s, ⟨p1', p2, trivial⟩, fun v G3 H3 g3 p3 => ⟨b, p3, q _ G3 H3 ((g1.trans g2).trans g3) rfl⟩⟩)
/-- is True, is False -/
theorem e_isBl {a b : Bool} (ha : EvE ta Γ (pB a)) (hb : EvE tb Γ (pB b)) : EvE (tOp rIsB ta tb) Γ (pB (decide (a = b))) := fun F σ G H e Q q =>
  ha F σ G H e _ fun x G1 H1 g1 p1 => hb F σ G1 H1 (e.grow g1) _ fun y G2 H2 g2 p2 => ⟨a, b, p1, p2, q _ G2 H2 (g1.trans g2) rfl⟩
end
end Y

set_option Elab.async false
set_option linter.all false
set_option maxRecDepth 100000
namespace Y
open PySem L2
/-! ### lists lent to what holds none of them -/
/-- G' is G and some lists -/
def Lts (G G' : Hp) : Prop := Gw G G' ∧ ∀ a o, G' a = some o → G a = some o ∨ ∃ vs, o = .lst vs
/-- what is said stands without the lists -/
def NoL (P : Pr) : Prop := ∀ (G G' : Hp) (v : V), Lts G G' → P.p G' v → P.p G v
theorem nl_pure {P : Pr} (h : Pure P) : NoL P := fun G G' v _ p => h _ _ v p
theorem sat_nl {Ps : List Pr} (h : ∀ P ∈ Ps, NoL P) {G G' : Hp} (g : Lts G G') : ∀ {vs : List V}, Sat G' vs Ps → Sat G vs Ps := by
  induction Ps with
  | nil => intro vs s; cases vs with
    | nil => trivial
    | cons _ _ => exact s.elim
  | cons P Ps ih => intro vs s; cases vs with
    | nil => exact s.elim
    | cons v vs => exact ⟨h P List.mem_cons_self _ _ v g s.1, ih (fun P hP => h P (List.mem_cons_of_mem _ hP)) s.2⟩
theorem nl_O {C : Addr} {ns : List Str} {Ps : List Pr} (h : ∀ P ∈ Ps, NoL P) : NoL (pO C ns Ps) := fun G G' v g ⟨a, o, h1, h2, dx, vs, h3, h4⟩ => by
  rcases g.2 a o h2 with q | ⟨us, q⟩
  · exact ⟨a, o, h1, q, dx, vs, h3, sat_nl h g h4⟩
  · rw [q] at h3
    cases h3
theorem nl_T {Ps : List Pr} (h : ∀ P ∈ Ps, NoL P) : NoL (pT Ps) := fun G G' v g ⟨a, vs, h1, h2, h4⟩ => by
  rcases g.2 a _ h2 with q | ⟨us, q⟩
  · exact ⟨a, vs, h1, q, sat_nl h g h4⟩
  · cases q
theorem nl_Opt {α : Type} {r : α → Pr} (h : ∀ a, NoL (r a)) : ∀ o : Option α, NoL (pOpt r o)
  | none => fun _ _ _ _ p => p
  | some a => h a
theorem nl_map {α : Type} {r : α → Pr} (h : ∀ a, NoL (r a)) (xs : List α) : ∀ P ∈ xs.map r, NoL P := fun P hP => by
  obtain ⟨y, _, e⟩ := List.mem_map.mp hP
  exact e ▸ h y
theorem nl_cons {P : Pr} {Ps : List Pr} (h : NoL P) (hs : ∀ P ∈ Ps, NoL P) : ∀ Q ∈ P :: Ps, NoL Q := fun Q hQ => by
  rcases List.mem_cons.mp hQ with e | e
  · exact e ▸ h
  · exact hs Q e
theorem nl_nil : ∀ Q ∈ ([] : List Pr), NoL Q := fun _ h => nomatch h
/-- the same of a region of one's own -/
def NoLW (W : Ow) : Prop := ∀ (G G' H : Hp) (v : V) (L : List Addr), Lts G G' → W.p G' H v L → W.p G H v L
theorem nlw_V {P : Pr} (h : NoL P) : NoLW (oV P) := fun G G' H v L g ⟨h1, h2⟩ => ⟨h1, h _ _ v g h2⟩
theorem nlw_L {Ps : List Pr} (h : ∀ P ∈ Ps, NoL P) : NoLW (oL Ps) := fun G G' H v L g ⟨a, ob, h1, h2, h3, vs, h4, h5, h6⟩ => ⟨a, ob, h1, h2, h3, vs, h4, sat_nl h g h5, h6⟩
theorem sw_nl {Ws : List Ow} (h : ∀ W ∈ Ws, NoLW W) {G G' H : Hp} (g : Lts G G') : ∀ {vs : List V} {Ls : List (List Addr)}, SW G' H vs Ws Ls → SW G H vs Ws Ls := by
  induction Ws with
  | nil => intro vs Ls s; match vs, Ls, s with
    | [], [], _ => trivial
    | _ :: _, [], s => exact s.elim
    | [], _ :: _, s => exact s.elim
    | _ :: _, _ :: _, s => exact s.elim
  | cons W Ws ih => intro vs Ls s; match vs, Ls, s with
    | v :: vs, L :: Ls, s => exact ⟨h W List.mem_cons_self _ _ _ _ _ g s.1, s.2.1, ih (fun W hW => h W (List.mem_cons_of_mem _ hW)) s.2.2⟩
    | [], [], s => exact s.elim
    | _ :: _, [], s => exact s.elim
    | [], _ :: _, s => exact s.elim
theorem nlw_Ls {Ws : List Ow} (h : ∀ W ∈ Ws, NoLW W) : NoLW (oLs Ws) := fun G G' H v L g ⟨a, vs, Ls, h1, h2, h3, h4, h5, h6⟩ => ⟨a, vs, Ls, h1, h2, sw_nl h g h3, h4, h5, h6⟩
theorem nlw_Os {C : Addr} {ns : List Str} {Ws : List Ow} (h : ∀ W ∈ Ws, NoLW W) : NoLW (oOs C ns Ws) := fun G G' H v L g ⟨a, dx, vs, Ls, h1, h2, h3, h5, h6⟩ => ⟨a, dx, vs, Ls, h1, h2, sw_nl h g h3, h5, h6⟩
theorem nlw_map {α : Type} {o : α → Ow} (h : ∀ a, NoLW (o a)) (xs : List α) : ∀ W ∈ xs.map o, NoLW W := fun W hW => by
  obtain ⟨y, _, e⟩ := List.mem_map.mp hW
  exact e ▸ h y
theorem nlw_cons {W : Ow} {Ws : List Ow} (h : NoLW W) (hs : ∀ W ∈ Ws, NoLW W) : ∀ Q ∈ W :: Ws, NoLW Q := fun Q hQ => by
  rcases List.mem_cons.mp hQ with e | e
  · exact e ▸ h
  · exact hs Q e
theorem nlw_nil : ∀ Q ∈ ([] : List Ow), NoLW Q := fun _ h => nomatch h
/-- a region of lists alone -/
def LstW (W : Ow) : Prop := ∀ (G H : Hp) (v : V) (L : List Addr), W.p G H v L → ∀ a ∈ L, ∃ vs, H a = some (.lst vs)
theorem lw_L {Ps : List Pr} : LstW (oL Ps) := fun G H v L ⟨a, ob, h1, h2, h3, vs, h4, _⟩ b hb => by
  subst h2 h4
  rw [List.mem_singleton.mp hb]
  exact ⟨vs, h3⟩
theorem sw_lw {Ws : List Ow} (h : ∀ W ∈ Ws, LstW W) {G H : Hp} : ∀ {vs : List V} {Ls : List (List Addr)}, SW G H vs Ws Ls → ∀ a ∈ Ls.flatten, ∃ us, H a = some (.lst us) := by
  induction Ws with
  | nil => intro vs Ls s; match vs, Ls, s with
    | [], [], _ => exact fun a ha => nomatch ha
    | _ :: _, [], s => exact s.elim
    | [], _ :: _, s => exact s.elim
    | _ :: _, _ :: _, s => exact s.elim
  | cons W Ws ih => intro vs Ls s; match vs, Ls, s with
    | v :: vs, L :: Ls, s =>
      intro a ha
      rcases mem_fl.mp ha with q | q
      · exact h W List.mem_cons_self _ _ _ _ s.1 a q
      · exact ih (fun W hW => h W (List.mem_cons_of_mem _ hW)) s.2.2 a q
    | [], [], s => exact s.elim
    | _ :: _, [], s => exact s.elim
    | [], _ :: _, s => exact s.elim
theorem lw_Ls {Ws : List Ow} (h : ∀ W ∈ Ws, LstW W) : LstW (oLs Ws) := fun G H v L ⟨a, vs, Ls, h1, h2, h3, h4, h5, h6⟩ b hb => by
  subst h6
  rcases List.mem_cons.mp hb with q | q
  · rw [q]
    exact ⟨vs, h2⟩
  · exact sw_lw h h3 b q
theorem lw_map {α : Type} {o : α → Ow} (h : ∀ a, LstW (o a)) (xs : List α) : ∀ W ∈ xs.map o, LstW W := fun W hW => by
  obtain ⟨y, _, e⟩ := List.mem_map.mp hW
  exact e ▸ h y
theorem lw_cons {W : Ow} {Ws : List Ow} (h : LstW W) (hs : ∀ W ∈ Ws, LstW W) : ∀ Q ∈ W :: Ws, LstW Q := fun Q hQ => by
  rcases List.mem_cons.mp hQ with e | e
  · exact e ▸ h
  · exact hs Q e
theorem lw_nil : ∀ Q ∈ ([] : List Ow), LstW Q := fun _ h => nomatch h
section
variable {F : Fm} {Γ : Ctx} {σ : St} {G H G2 H2 : Hp} {Ls : Nat → List Addr} {i : Nat} {P : Pr} {W U : Ow} {te : TE} {Q1 : Pr}
theorem EOk1.frz (e : EOk1 F Γ σ G H Ls) (f : Frz W P) (hi : Γ[i]? = some (.own W)) : ∃ G', Gw G G' ∧ (∀ a, a ∉ Ls i → G' a = G a) ∧ EOk F (Γ.set i (.val P)) σ G' H := by
  obtain ⟨v, s1, hw⟩ := (e.at_ i _ hi).own_
  obtain ⟨G', g1, g2, g3, hp⟩ := f G H v (Ls i) e.gr.s (fun a ha => (e.fr i W hi a ha).1) hw
  have bk : ∀ {j : Nat} {W1 : Ow}, (Γ.set i (.val P))[j]? = some (.own W1) → i ≠ j ∧ Γ[j]? = some (.own W1) := fun {j W1} hj => by
    rcases set_get hj with ⟨_, _, z⟩ | ⟨z, h⟩
    · cases z
    · exact ⟨z, h⟩
  have off : ∀ {a : Addr}, (a ∈ Ls i → False) → G' a = G a := fun {a} n => g3 a n
  refine ⟨G', g1, g3, Ls, ⟨e.gr.g.trans g1, e.gr.h, g2, fun a ha ga => ?_⟩, F.m g1 e.x, by rw [List.length_set, e.len], fun j sl hj => ?_, fun j W1 hj a ha => ?_, fun j k W1 W2 hj hk => e.dis j k W1 W2 (bk hj).2 (bk hk).2⟩
  · rw [off (fun q => ha (e.fr i W hi a q).2.1)]
    exact e.gr.f a ha ga
  · rcases set_get hj with ⟨rfl, _, rfl⟩ | ⟨z, hj⟩
    · rw [s1]
      exact hp
    · exact (e.at_ j sl hj).go g1 (fun _ _ _ _ => rfl)
  · obtain ⟨z, hj⟩ := bk hj
    have f := e.fr j W1 hj a ha
    exact ⟨by rw [off (fun q => e.dis j i W1 W hj hi (Ne.symm z) a ha q)]; exact f.1, f.2⟩
/-- the lists are taken back -/
theorem back_lts {G' : Hp} (e : EOk1 F Γ σ G H Ls) (hi : Γ[i]? = some (.own U)) (l : LstW U) (g1 : Gw G G') (g3 : ∀ a, a ∉ Ls i → G' a = G a) (g : Gr G' H G2 H2) : ∃ G3, Gr G H G3 H2 ∧ Lts G3 G2 := by
  obtain ⟨v, s1, hw⟩ := (e.at_ i _ hi).own_
  have hl := l _ _ _ _ hw
  have hG : ∀ a ∈ Ls i, G a = none := fun a ha => (e.fr i U hi a ha).1
  refine ⟨fun a => if a ∈ Ls i then none else G2 a, ⟨fun a o h => ?_, g.h, fun a o h => ?_, fun a ha ga => ?_⟩, fun a o h => ?_, fun a o h => ?_⟩
  · have : a ∉ Ls i := fun q => by rw [hG a q] at h; cases h
    show (if a ∈ Ls i then none else G2 a) = some o
    rw [if_neg this]
    exact g.g a o (g1 a o h)
  · have h : (if a ∈ Ls i then none else G2 a) = some o := h
    by_cases q : a ∈ Ls i
    · rw [if_pos q] at h
      cases h
    · rw [if_neg q] at h
      exact g.s a o h
  · show (if a ∈ Ls i then none else G2 a) = none
    by_cases q : a ∈ Ls i
    · rw [if_pos q]
    · rw [if_neg q]
      exact g.f a ha (by rw [g3 a q]; exact ga)
  · have h : (if a ∈ Ls i then none else G2 a) = some o := h
    by_cases q : a ∈ Ls i
    · rw [if_pos q] at h
      cases h
    · rw [if_neg q] at h
      exact h
  · show (if a ∈ Ls i then none else G2 a) = some o ∨ _
    by_cases q : a ∈ Ls i
    · obtain ⟨vs, z⟩ := hl a q
      have := g.s a o h
      rw [g.h a _ z] at this
      cases this
      exact .inr ⟨vs, rfl⟩
    · rw [if_neg q]
      exact .inl h
theorem w_lendL (hi : Γ[i]? = some (.own U)) (f : Frz U P) (l : LstW U) (p : NoLW W) (h : EvW te (Γ.set i (.val P)) W) : EvW te Γ W := fun F σ G H e R q => by
  obtain ⟨Ls, e1⟩ := id e
  obtain ⟨G', g1, g3, e'⟩ := e1.frz f hi
  exact h F σ G' H e' R fun v L G2 H2 g2 hL hw => by
    obtain ⟨G3, k1, k2⟩ := back_lts e1 hi l g1 g3 g2
    exact q v L G3 H2 k1 (fun a ha => ⟨(hL a ha).1, k2.1.free (hL a ha).2.1, (hL a ha).2.2⟩) (p _ _ _ _ _ k2 hw)
theorem e_lendL (hi : Γ[i]? = some (.own U)) (f : Frz U P) (l : LstW U) (p : NoL Q1) (h : EvE te (Γ.set i (.val P)) Q1) : EvE te Γ Q1 := fun F σ G H e R q => by
  obtain ⟨Ls, e1⟩ := id e
  obtain ⟨G', g1, g3, e'⟩ := e1.frz f hi
  exact h F σ G' H e' R fun v G2 H2 g2 hw => by
    obtain ⟨G3, k1, k2⟩ := back_lts e1 hi l g1 g3 g2
    exact q v G3 H2 k1 (p _ _ _ k2 hw)
end
end Y

set_option Elab.async false
set_option linter.all false
set_option maxRecDepth 100000
namespace Y
open PySem L2
/-! ### a list of new regions, written -/
def EvAW (ta : TA) (Γ : Ctx) (Ws : List Ow) : Prop := ∀ (F : Fm) (σ : St) (G H : Hp), EOk F Γ σ G H → ∀ Q : List V → Hp → Prop, (∀ vs Ls G' H', Gr G H G' H' → (∀ a ∈ Ls.flatten, H a = none ∧ G' a = none ∧ H' a ≠ none) → SW G' H' vs Ws Ls → Q vs H') → ta σ H Q
section
variable {Γ : Ctx} {te : TE} {ts : TA} {W : Ow} {Ws : List Ow}
theorem aw_nil : EvAW tNil Γ [] := fun F σ G H e Q q => q [] [] G H (Gr.refl e.s) (fun _ h => nomatch h) trivial
theorem aw_cons (h : EvW te Γ W) (r : EvAW ts Γ Ws) : EvAW (tCons te ts) Γ (W :: Ws) := fun F σ G H e Q q =>
  h F σ G H e _ fun v L G1 H1 g1 hL hw => r F σ G1 H1 (e.grow g1) _ fun vs Ls G2 H2 g2 hLs hs => by
    refine q (v :: vs) (L :: Ls) G2 H2 (g1.trans g2) (fun a ha => ?_) ⟨W.m g2.g (fun a ha => g2.h.at (hL a ha).2.2) hw, fun a ha hb => ?_, hs⟩
    · rcases mem_fl.mp ha with z | z
      · exact ⟨(hL a z).1, g2.f a (hL a z).2.2 (hL a z).2.1, fun n => (hL a z).2.2 (g2.h.free n)⟩
      · exact ⟨g1.h.free (hLs a z).1, (hLs a z).2⟩
    · exact (hL a ha).2.2 (hLs a hb).1
theorem w_lstO (h : EvAW ts Γ Ws) (hn : Ws.length ≤ 1000) : EvW (tLst ts) Γ (oLs Ws) := fun F σ G H e Q q =>
  h F σ G H e _ fun vs Ls G1 H1 g1 hL hs => by
    have hz : vs.length ≤ sizeLine := hs.len.1 ▸ Nat.le_trans hn (by decide)
    refine ⟨hz, fun l hl => ?_⟩
    have gl : G1 l = none := g1.s.free hl
    have nl : l ∉ Ls.flatten := fun z => (hL l z).2.2 hl
    refine q (.ref l) (l :: Ls.flatten) G1 (upd H1 l (.lst vs)) (g1.trans (Gr.lay g1.s hl)) (fun a ha => ?_) ⟨l, vs, Ls, rfl, upd_same, hs.m (Gw.refl G1) (fun a ha => upd_ne fun z => nl (z ▸ ha)), hz, nl, rfl⟩
    rcases List.mem_cons.mp ha with z | z
    · rw [z, upd_same]
      exact ⟨g1.h.free hl, gl, fun z => nomatch z⟩
    · rw [upd_ne fun (q : a = l) => nl (q ▸ z)]
      exact hL a z
end
end Y

set_option Elab.async false
set_option linter.all false
set_option maxRecDepth 100000
namespace Y
open PySem L2
/-! ### tuples as data, of any length -/
structure EnT {α : Type} (K : PySem.W.Frag) [DecidableEq α] (rs : α → List Pr) where
  d : α → List PyData
  ok : ∀ a, dpAll K (rs a) (d a)
  n : Nat
  dep : ∀ a, ∀ x ∈ d a, x.depth ≤ n
  lay : ∀ a, ∀ x ∈ d a, x.canLay0 = true
  eq : ∀ a b, PyData.eqvAll (d a) (d b) = decide (a = b)
section
variable {K : PySem.W.Frag} {α β γ δ ε : Type} [DecidableEq α] [DecidableEq β] [DecidableEq γ] [DecidableEq δ] [DecidableEq ε] {r : α → Pr} {s : β → Pr} {q : γ → Pr} {t : δ → Pr} {u : ε → Pr} {rs : β → List Pr}
def ent1 (E : En K r) : EnT K (fun a => [r a]) := ⟨fun a => [E.d a], fun a => ⟨E.ok a, trivial⟩, E.n, fun a x hx => by rw [List.mem_singleton.mp hx]; exact E.dep a, fun a x hx => by rw [List.mem_singleton.mp hx]; exact E.lay a, fun a b => by
  unfold PyData.eqvAll
  rw [E.eq]
  unfold PyData.eqvAll
  simp⟩
def entC (E : En K r) (T : EnT K rs) : EnT K (fun p : α × β => r p.1 :: rs p.2) := ⟨fun p => E.d p.1 :: T.d p.2, fun p => ⟨E.ok _, T.ok _⟩, max E.n T.n, fun p x hx => by
    rcases List.mem_cons.mp hx with z | z
    · rw [z]; have := E.dep p.1; omega
    · have := T.dep p.2 x z; omega, fun p x hx => by
    rcases List.mem_cons.mp hx with z | z
    · rw [z]; exact E.lay _
    · exact T.lay _ x z, fun a b => by
  unfold PyData.eqvAll
  rw [E.eq, T.eq]
  obtain ⟨a1, a2⟩ := a
  obtain ⟨b1, b2⟩ := b
  show (decide (a1 = b1) && decide (a2 = b2)) = _
  by_cases h : a1 = b1
  · by_cases h' : a2 = b2
    · subst h h'; simp
    · simp [h']
  · simp [h]⟩
def enT (T : EnT K rs) : En K (fun a => pT (rs a)) := ⟨fun p => .tuple (T.d p), fun p => dp_T (T.ok p), T.n + 1, fun p => by
    unfold PyData.depth
    have := dep_le (n := T.n) (ds := T.d p) (T.dep p)
    omega, fun p => by
    unfold PyData.canLay0
    exact lay_all (T.lay p), fun a b => by
    unfold PyData.eqv
    exact T.eq a b⟩
def en4 (E : En K r) (E2 : En K s) (E3 : En K q) (E4 : En K t) : En K (r4 r s q t) := enT (entC E (entC E2 (entC E3 (ent1 E4))))
def en5 (E : En K r) (E2 : En K s) (E3 : En K q) (E4 : En K t) (E5 : En K u) : En K (r5 r s q t u) := enT (entC E (entC E2 (entC E3 (entC E4 (ent1 E5)))))
/-- tuples of any length -/
def enV (E : En K r) : En K (rV r) := ⟨fun xs => .tuple (xs.map E.d), fun xs => dp_T (by
    induction xs with
    | nil => trivial
    | cons x xs ih => exact ⟨E.ok x, ih⟩), E.n + 1, fun xs => by
    unfold PyData.depth
    have := dep_le (n := E.n) (ds := xs.map E.d) (fun d hd => by
      obtain ⟨a, _, rfl⟩ := List.mem_map.mp hd
      exact E.dep a)
    omega, fun xs => by
    unfold PyData.canLay0
    exact lay_all fun d hd => by
      obtain ⟨a, _, rfl⟩ := List.mem_map.mp hd
      exact E.lay a, fun xs ys => by
    unfold PyData.eqv
    exact eqvAll_map E xs ys⟩
end
end Y

set_option Elab.async false
set_option linter.all false
set_option maxRecDepth 100000
namespace Y
open PySem L2
/-! ### while -/
def whileM {S ρ : Type} (c : S → Option Bool) (f : S → Option (Fl S ρ)) : Nat → S → Option (Sum S ρ)
  | 0, _ => none
  | n + 1, s => match c s with
    | none => none
    | some false => some (.inl s)
    | some true => match f s with
      | none => none
      | some (.go s') => whileM c f n s'
      | some (.br s') => some (.inl s')
      | some (.rt r) => some (.inr r)
section
variable {K : PySem.W.Frag} {Γ : Ctx} {ta tb : TE} {tc : TT} {ts : TS} {X : Cx}
theorem s_while {S ρ : Type} (Γs : S → Ctx) (R : ρ → Pr) (c : S → Option Bool) (f : S → Option (Fl S ρ)) (n : Nat) (s0 : S) {out : Sum S ρ} (ht : ∀ s b, c s = some b → EvT tc (Γs s) b)
    (hb : ∀ s fl, c s = some true → f s = some fl → StS ts (Γs s) (outF Γs R fl)) (hm : whileM c f n s0 = some out) : StS (tWhile tc ts) (Γs s0) (outL Γs R out) := fun F σ G H D e g => by
  refine ⟨fun m σ H => ∃ s G, whileM c f m s = some out ∧ EOk F (Γs s) σ G H, ⟨n, s0, G, hm, e⟩, fun m σ H ⟨s, G, hs, e⟩ => ?_⟩
  cases m with
  | zero => cases hs
  | succ m =>
    unfold whileM at hs
    cases hc : c s with
    | none =>
      rw [hc] at hs
      cases hs
    | some b =>
      rw [hc] at hs
      refine ht s b hc F σ G H e _ fun G1 H1 g1 => ?_
      cases b with
      | false =>
        rw [if_neg Bool.false_ne_true]
        exact goal_inl g (Option.some.inj hs).symm (e.grow g1)
      | true =>
        rw [if_pos rfl]
        cases hf : f s with
        | none =>
          rw [hf] at hs
          cases hs
        | some fl =>
          rw [hf] at hs
          refine ⟨fun σ' H' => ∃ s' G', whileM c f m s' = some out ∧ EOk F (Γs s') σ' G' H', fun σ' H' h => ⟨m, Nat.lt_succ_self m, h⟩, ?_⟩
          refine hb s fl hc hf F σ G1 H1 _ (e.grow g1) ?_
          cases fl with
          | go s' => exact fun σ' G' H' e' => ⟨⟨s', G', hs, e'⟩, ⟨s', G', hs, e'⟩⟩
          | br s' => exact fun σ' G' H' e' => goal_inl g (Option.some.inj hs).symm e'
          | rt r => exact fun v G' H' gr p => goal_inr g (Option.some.inj hs).symm gr p
/-! ### sum, max, min, any, all of a list -/
theorem sumK (hK : X.K = K) (hc : X.calm = true) : CallR X (.builtin "sum") (rSum K) := hK ▸ cr_sum hc
theorem maxK (hK : X.K = K) (hc : X.calm = true) : CallR X (.builtin "max") (rMax K) := hK ▸ cr_max hc
theorem minK (hK : X.K = K) (hc : X.calm = true) : CallR X (.builtin "min") (rMin K) := hK ▸ cr_min hc
theorem anyK (hK : X.K = K) (hc : X.calm = true) : CallR X (.builtin "any") (rAny K) := hK ▸ cr_any hc
theorem allK (hK : X.K = K) (hc : X.calm = true) : CallR X (.builtin "all") (rAll K) := hK ▸ cr_all hc
theorem sat_blsEq {H : Hp} : ∀ {vs : List V} {bs : List Bool}, Sat H vs (bs.map pB) → vs = bs.map V.bl
  | [], [], _ => rfl
  | v :: vs, n :: ns, h => by
    have h1 : v = .bl n := h.1
    rw [h1, sat_blsEq h.2]
    rfl
  | [], _ :: _, h => h.elim
  | _ :: _, [], h => h.elim
def maxL : List Int → Option Int
  | [] => none
  | x :: xs => some (xs.foldl max x)
def minL : List Int → Option Int
  | [] => none
  | x :: xs => some (xs.foldl min x)
theorem foldl_max : ∀ (xs : List Int) (x : Int), x ≤ xs.foldl max x ∧ (∀ y ∈ xs, y ≤ xs.foldl max x) ∧ (xs.foldl max x = x ∨ xs.foldl max x ∈ xs)
  | [], x => ⟨Int.le_refl _, (fun _ h => nomatch h), .inl rfl⟩
  | y :: ys, x => by
    obtain ⟨h1, h2, h3⟩ := foldl_max ys (max x y)
    rw [List.foldl_cons]
    refine ⟨by omega, fun z hz => ?_, ?_⟩
    · rcases List.mem_cons.mp hz with q | q
      · rw [q]; omega
      · exact h2 z q
    · rcases h3 with q | q
      · by_cases w : x ≤ y
        · exact .inr (by rw [q, show max x y = y by omega]; exact List.mem_cons_self)
        · exact .inl (by rw [q]; omega)
      · exact .inr (List.mem_cons_of_mem _ q)
theorem foldl_min : ∀ (xs : List Int) (x : Int), xs.foldl min x ≤ x ∧ (∀ y ∈ xs, xs.foldl min x ≤ y) ∧ (xs.foldl min x = x ∨ xs.foldl min x ∈ xs)
  | [], x => ⟨Int.le_refl _, (fun _ h => nomatch h), .inl rfl⟩
  | y :: ys, x => by
    obtain ⟨h1, h2, h3⟩ := foldl_min ys (min x y)
    rw [List.foldl_cons]
    refine ⟨by omega, fun z hz => ?_, ?_⟩
    · rcases List.mem_cons.mp hz with q | q
      · rw [q]; omega
      · exact h2 z q
    · rcases h3 with q | q
      · by_cases w : y ≤ x
        · exact .inr (by rw [q, show min x y = y by omega]; exact List.mem_cons_self)
        · exact .inl (by rw [q]; omega)
      · exact .inr (List.mem_cons_of_mem _ q)
theorem maxL_ok {xs : List Int} {m : Int} (h : maxL xs = some m) : m ∈ xs ∧ ∀ y ∈ xs, y ≤ m := by
  cases xs with
  | nil => cases h
  | cons x xs =>
    cases h
    obtain ⟨h1, h2, h3⟩ := foldl_max xs x
    refine ⟨?_, fun y hy => ?_⟩
    · rcases h3 with q | q
      · rw [q]; exact List.mem_cons_self
      · exact List.mem_cons_of_mem _ q
    · rcases List.mem_cons.mp hy with q | q
      · rw [q]; exact h1
      · exact h2 y q
theorem minL_ok {xs : List Int} {m : Int} (h : minL xs = some m) : m ∈ xs ∧ ∀ y ∈ xs, m ≤ y := by
  cases xs with
  | nil => cases h
  | cons x xs =>
    cases h
    obtain ⟨h1, h2, h3⟩ := foldl_min xs x
    refine ⟨?_, fun y hy => ?_⟩
    · rcases h3 with q | q
      · rw [q]; exact List.mem_cons_self
      · exact List.mem_cons_of_mem _ q
    · rcases List.mem_cons.mp hy with q | q
      · rw [q]; exact h1
      · exact h2 y q
theorem e_sum {xs : List Int} (hl : EvR K ta Γ (xs.map pI)) : EvE (tCB (rSum K) (tCons ta tNil)) Γ (pI xs.sum) := fun F σ G H e Q q =>
  hl F σ G H e _ fun a vs G1 H1 g1 s1 s2 s3 => by
    have e1 := sat_intsEq s2
    subst e1
    exact ⟨a, xs, rfl, s1, q _ G1 H1 g1 rfl⟩
theorem e_maxL {xs : List Int} {m : Int} (hl : EvR K ta Γ (xs.map pI)) (h : maxL xs = some m) : EvE (tCB (rMax K) (tCons ta tNil)) Γ (pI m) := fun F σ G H e Q q =>
  hl F σ G H e _ fun a vs G1 H1 g1 s1 s2 s3 => by
    have e1 := sat_intsEq s2
    subst e1
    obtain ⟨h1, h2⟩ := maxL_ok h
    refine ⟨a, xs, rfl, s1, List.length_pos_of_mem h1, fun m' h3 h4 => ?_⟩
    have : m' = m := Int.le_antisymm (h2 _ h3) (h4 _ h1)
    subst this
    exact q _ G1 H1 g1 rfl
theorem e_minL {xs : List Int} {m : Int} (hl : EvR K ta Γ (xs.map pI)) (h : minL xs = some m) : EvE (tCB (rMin K) (tCons ta tNil)) Γ (pI m) := fun F σ G H e Q q =>
  hl F σ G H e _ fun a vs G1 H1 g1 s1 s2 s3 => by
    have e1 := sat_intsEq s2
    subst e1
    obtain ⟨h1, h2⟩ := minL_ok h
    refine ⟨a, xs, rfl, s1, List.length_pos_of_mem h1, fun m' h3 h4 => ?_⟩
    have : m' = m := Int.le_antisymm (h4 _ h1) (h2 _ h3)
    subst this
    exact q _ G1 H1 g1 rfl
theorem e_anyL {bs : List Bool} (hl : EvR K ta Γ (bs.map pB)) : EvE (tCB (rAny K) (tCons ta tNil)) Γ (pB (bs.any id)) := fun F σ G H e Q q =>
  hl F σ G H e _ fun a vs G1 H1 g1 s1 s2 s3 => by
    have e1 := sat_blsEq s2
    subst e1
    exact ⟨a, bs, rfl, s1, q _ G1 H1 g1 rfl⟩
theorem e_allL {bs : List Bool} (hl : EvR K ta Γ (bs.map pB)) : EvE (tCB (rAll K) (tCons ta tNil)) Γ (pB (bs.all id)) := fun F σ G H e Q q =>
  hl F σ G H e _ fun a vs G1 H1 g1 s1 s2 s3 => by
    have e1 := sat_blsEq s2
    subst e1
    exact ⟨a, bs, rfl, s1, q _ G1 H1 g1 rfl⟩
end
end Y

set_option Elab.async false
set_option linter.all false
set_option maxRecDepth 100000
namespace Y
open PySem L2
/-! ### tuples of a text and some ints -/
abbrev rSTI : Str × List Int → Pr := fun p => pT (pS p.1 :: p.2.map pI)
section
variable {K : PySem.W.Frag} {Γ : Ctx} {ta tb : TE}
theorem e_ixSTI {c : Str × List Int} {k : Nat} {x : Int} (hl : EvE ta Γ (rSTI c)) (hi : EvE tb Γ (pI ((k + 1 : Nat) : Int))) (h : c.2[k]? = some x) : EvE (tOp (rIxT K) ta tb) Γ (pI x) :=
  e_ixT hl hi (atT (k + 1) (by rw [List.getElem?_cons_succ, List.getElem?_map, h] <;> rfl))
end
/-! ### the truth of a list -/
section
variable {K : PySem.W.Frag} {Γ : Ctx} {ta : TE} {α : Type} {r : α → Pr} {xs : List α}
abbrev tTru (K : PySem.W.Frag) (ta : TE) : TT := fun σ H Q => ta σ H fun x H' => ∃ k, TruV K x H' k ∧ Q k H'
theorem t_truL (hl : EvR K ta Γ (xs.map r)) : EvT (tTru K ta) Γ (!xs.isEmpty) := fun F σ G H e Q q =>
  hl F σ G H e _ fun a vs G1 H1 g1 s1 s2 s3 => by
    have l := s2.len
    rw [List.length_map] at l
    have : vs.isEmpty = xs.isEmpty := by
      cases vs <;> cases xs <;> first | rfl | (simp at l)
    exact ⟨!xs.isEmpty, .inl ⟨vs, s1, by rw [this]⟩, q G1 H1 g1⟩
end
section
variable {X : Cx} {K : PySem.W.Frag} {a : Expr} {ta : TE}
theorem pt_truthK (hK : X.K = K) (ha : PE X a ta) (he : ∀ whole, isTrue a X.env whole = (do let v ← whole; standAt a.pos; holding [v] (truthy v))) : PT X a (tTru K ta) := hK ▸ pt_truth ha he
end
end Y

set_option Elab.async false
set_option linter.all false
set_option maxRecDepth 100000
namespace Y
open PySem L2
/-! ### a dict of regions -/
def oDs (Ws : List (Key × Ow)) : Ow := ⟨fun G H v L => ∃ a vs Ls, v = .ref a ∧ H a = some (.dK vs) ∧ vs.map (·.1) = Ws.map (·.1) ∧ SW G H (vs.map (·.2)) (Ws.map (·.2)) Ls ∧ a ∉ Ls.flatten ∧ L = a :: Ls.flatten,
  fun g k ⟨a, vs, Ls, h1, h2, hk, h3, h5, h6⟩ => ⟨a, vs, Ls, h1, (k a (h6 ▸ List.mem_cons_self)).trans h2, hk, SW.m g (fun b hb => k b (h6 ▸ List.mem_cons_of_mem _ hb)) h3, h5, h6⟩⟩
theorem satK_of {H : Hp} : ∀ {vs : List (Key × V)} {Ps : List (Key × Pr)}, vs.map (·.1) = Ps.map (·.1) → Sat H (vs.map (·.2)) (Ps.map (·.2)) → SatK H vs Ps
  | [], [], _, _ => trivial
  | v :: vs, P :: Ps, h, s => by
    rw [List.map_cons, List.map_cons] at h
    exact ⟨(List.cons.inj h).1, s.1, satK_of (List.cons.inj h).2 s.2⟩
  | [], _ :: _, h, _ => by cases h
  | _ :: _, [], h, _ => by cases h
theorem frz_Ds {Ws : List (Key × Ow)} {Ps : List (Key × Pr)} (hk : Ws.map (·.1) = Ps.map (·.1)) (f : FrzA (Ws.map (·.2)) (Ps.map (·.2))) : Frz (oDs Ws) (pD Ps) := fun G H v L s hL ⟨a, vs, Ls, h1, h2, h3, h4, h5, h6⟩ => by
  subst h6
  obtain ⟨G1, g1, s1, o1, p1⟩ := frz_A f s (fun b hb => hL b (List.mem_cons_of_mem _ hb)) h4
  have ga : G1 a = none := by rw [o1 a h5]; exact hL a List.mem_cons_self
  refine ⟨upd G1 a (.dK vs), g1.trans (Gw.new ga), fun b u hb => ?_, fun b hb => ?_, a, _, h1, upd_same, vs, rfl, (satK_of (h3.trans hk) p1).m (Gw.new ga)⟩
  · by_cases z : b = a
    · subst z
      rw [upd_same] at hb
      cases hb
      exact h2
    · rw [upd_ne z] at hb
      exact s1 b u hb
  · rw [upd_ne fun z => hb (by rw [z]; exact List.mem_cons_self)]
    exact o1 b fun z => hb (List.mem_cons_of_mem _ z)
theorem map_rK_k {α β : Type} {o : α → β} (kvs : List (Key × α)) : (kvs.map (fun kv => (kv.1, o kv.2))).map (·.1) = kvs.map (·.1) := by
  rw [List.map_map]; rfl
theorem map_rK_v {α β : Type} {o : α → β} (kvs : List (Key × α)) : (kvs.map (fun kv => (kv.1, o kv.2))).map (·.2) = (kvs.map (·.2)).map o := by
  rw [List.map_map, List.map_map]; rfl
/-- the regions of a dict, each by its value -/
abbrev oK {α : Type} (o : α → Ow) : Key × α → Key × Ow := fun kv => (kv.1, o kv.2)
theorem frz_DsM {α : Type} {o : α → Ow} {r : α → Pr} (h : ∀ a, Frz (o a) (r a)) (kvs : List (Key × α)) : Frz (oDs (kvs.map (oK o))) (pD (kvs.map (rK r))) :=
  frz_Ds (by rw [map_rK_k, map_rK_k]) (by rw [map_rK_v, map_rK_v]; exact frzA_map h _)
/-! where a key stands -/
def ixK {α : Type} : List (Key × α) → Key → Option Nat
  | [], _ => none
  | p :: q, k => if p.1 = k then some 0 else (ixK q k).map (· + 1)
theorem ixK_v {k : Key} : ∀ {vs : List (Key × V)} {n : Nat} {v : V}, ixK vs k = some n → (vs.map (·.2))[n]? = some v → valV vs k = some v
  | [], _, _, h, _ => by cases h
  | p :: q, n, v, h, hv => by
    unfold ixK at h
    unfold valV
    rw [List.find?_cons]
    by_cases z : p.1 = k
    · rw [if_pos z] at h
      cases h
      rw [decide_eq_true z]
      simpa using hv
    · rw [if_neg z] at h
      cases hq : ixK q k with
      | none => rw [hq] at h; cases h
      | some m =>
        rw [hq] at h
        cases h
        rw [decide_eq_false z]
        exact ixK_v hq (by simpa using hv)
theorem ixK_keys {α β : Type} {k : Key} : ∀ {xs : List (Key × α)} {ys : List (Key × β)}, xs.map (·.1) = ys.map (·.1) → ixK xs k = ixK ys k
  | [], [], _ => rfl
  | x :: xs, y :: ys, h => by
    rw [List.map_cons, List.map_cons] at h
    have q := ixK_keys (k := k) (List.cons.inj h).2
    unfold ixK
    rw [q, (List.cons.inj h).1]
  | [], _ :: _, h => by cases h
  | _ :: _, [], h => by cases h
def setK {α : Type} (xs : List (Key × α)) (j : Nat) (x : α) : List (Key × α) := xs.modify j fun kv => (kv.1, x)
theorem setK_k {α : Type} {x : α} : ∀ {xs : List (Key × α)} {j : Nat}, (setK xs j x).map (·.1) = xs.map (·.1)
  | [], j => by cases j <;> rfl
  | _ :: _, 0 => rfl
  | p :: q, j + 1 => by
    show p.1 :: (setK q j x).map (·.1) = _
    rw [setK_k]; rfl
theorem setK_v {α : Type} {x : α} : ∀ {xs : List (Key × α)} {j : Nat}, (setK xs j x).map (·.2) = (xs.map (·.2)).set j x
  | [], j => by cases j <;> rfl
  | _ :: _, 0 => rfl
  | p :: q, j + 1 => by
    show p.2 :: (setK q j x).map (·.2) = _
    rw [setK_v]; rfl
theorem setK_map {α β : Type} {o : α → β} {x : α} : ∀ {xs : List (Key × α)} {j : Nat}, setK (xs.map fun kv => (kv.1, o kv.2)) j (o x) = (setK xs j x).map fun kv => (kv.1, o kv.2)
  | [], j => by cases j <;> rfl
  | _ :: _, 0 => rfl
  | p :: q, j + 1 => by
    show (p.1, o p.2) :: setK (q.map fun kv => (kv.1, o kv.2)) j (o x) = (p.1, o p.2) :: (setK q j x).map _
    rw [setK_map]
section
variable {K : PySem.W.Frag} {Γ : Ctx} {tp te ti : TE} {i j n : Nat} {U U' W : Ow} {Ws : List (Key × Ow)} {put put' : Ow → Ow → Prop} {W' : Ow} {P : Pr} {k : Key}
/-- p[k] as a way into a dict -/
theorem f_dk (hp : EvF tp Γ i (oDs Ws) put) (hi : EvE ti Γ (pK k)) (hk : ixK Ws k = some j) (hU : (Ws.map (·.2))[j]? = some U) : EvF (tDGet tp ti) Γ i U (fun U' W' => put (oDs (setK Ws j U')) W') := fun F σ G H Ls e Q q =>
  hp F σ G H Ls e _ fun x Lx G1 H1 g1 f1 => hi F σ G1 H1 ⟨Ls, f1.e⟩ _ fun y G2 H2 g2 p2 => by
    have f2 := f1.grow g2
    obtain ⟨a, vs, Lk, h1, h2, h3, h4, h5, h6⟩ := id f2.u
    subst h1 h6
    have p2' : y = kV k := p2
    subst p2'
    obtain ⟨v, L, hv, hL, hw⟩ := h4.get hU
    have hg := DGet.k (k := k) h2
    rw [ixK_v ((ixK_keys h3).trans hk) hv] at hg
    exact ⟨a, v, rfl, hg, q v L G2 H2 (g1.trans g2) (foc_part (Ws := Ws.map (·.2)) (j := j) f2 h4 h5 hw hL hv fun {U' W'} pw => ⟨_, pw, fun gg e1 n1 n2 => ⟨a, vs, _, rfl, by rw [e1]; exact h2, by rw [setK_k]; exact h3, by rw [setK_v]; exact n1, n2, rfl⟩⟩)⟩
end
end Y

set_option Elab.async false
set_option linter.all false
set_option maxRecDepth 100000
namespace Y
open PySem L2
/-! ### {k: a new region for x in xs}, all keys unlike -/
def dkM {α β : Type} (fb : α → Option Bool) (fk : α → Option Key) (fv : α → Option β) : List (Key × β) → List α → Option (List (Key × β))
  | acc, [] => some acc
  | acc, x :: xs => match fb x with
    | none => none
    | some false => dkM fb fk fv acc xs
    | some true => match fk x, fv x with
      | some k, some v => if (acc.any fun kv => decide (kv.1 = k)) = true then none else dkM fb fk fv (acc ++ [(k, v)]) xs
      | _, _ => none
theorem any_keys {α β : Type} {k : Key} : ∀ {xs : List (Key × α)} {ys : List (Key × β)}, xs.map (·.1) = ys.map (·.1) → (xs.any fun kv => decide (kv.1 = k)) = ys.any fun kv => decide (kv.1 = k)
  | [], [], _ => rfl
  | x :: xs, y :: ys, h => by
    rw [List.map_cons, List.map_cons] at h
    rw [List.any_cons, List.any_cons, any_keys (k := k) (List.cons.inj h).2, (List.cons.inj h).1]
  | [], _ :: _, h => by cases h
  | _ :: _, [], h => by cases h
theorem putK_new {vs : List (Key × V)} {k : Key} {v : V} (h : ¬(vs.any fun kv => decide (kv.1 = k)) = true) : putK vs k v = vs ++ [(k, v)] := by
  unfold putK
  rw [if_neg h]
section
variable {K : PySem.W.Frag} {Γ : Ctx} {tk tv : TE}
theorem w_dcO {α β : Type} {r : α → Pr} {ro : β → Ow} {xs : List α} {kvs : List (Key × β)} {wi : TI} {g : TG} {js vs : List Nat} {tt : TT} (Γx : α → Ctx) (fb : α → Option Bool) (fk : α → Option Key) (fv : α → Option β) (h : EvI wi Γ r xs) (hz : xs.length ≤ sizeLine) (hg : ∀ x, EvG g js (wipeC Γ vs) (r x) (Γx x)) (hj : ∀ j ∈ js, j ∈ vs)
    (ht : ∀ x b, x ∈ xs → fb x = some b → EvT tt (Γx x) b) (hk : ∀ x k, x ∈ xs → fb x = some true → fk x = some k → EvE tk (Γx x) (pK k)) (hv : ∀ x y, x ∈ xs → fb x = some true → fv x = some y → EvW tv (Γx x) (ro y)) (hm : dkM fb fk fv [] xs = some kvs) :
    EvW (tDc wi g tt tk tv vs) Γ (oDs (kvs.map (oK ro))) := fun F σ G H e Q q =>
  h F σ G H e _ fun J X G1 H1 g1 w x1 => fun D hD => by
    obtain ⟨Gc, Y, wk, k1, k2⟩ := w.ex
    obtain ⟨Ls0, e0⟩ := e.grow g1
    obtain ⟨Ls, e1, hLs⟩ := e0.norm
    have hLD : ∀ i a, a ∈ Ls i → a ≠ D := fun i a ha z => hLs i a ha (z ▸ hD)
    have hGD : G1 D = none := e1.gr.s.free hD
    have hFD : F.H D = none := e1.gr.h.free hD
    have main : ∃ W : Nat → Nat → Hp → Prop, (∃ m, W 0 m (upd H1 D (.dK []))) ∧ ∀ i m H, W i m H → (J.stop i H ∧ Q (.ref D) H) ∨ (J.go i H ∧ ∃ Nx : Hp → Prop, (∀ H', Nx H' → ∃ m', m' < m ∧ W (i + 1) m' H') ∧ ∀ x H', J.yld i H x H' → g x (L2.wipe σ vs) H' fun σ2 H2 => L2.wipe σ2 vs = L2.wipe σ vs ∧ tt σ2 H2 fun b H3 =>
      if b = true then tk σ2 H3 fun y H4 => tv σ2 H4 fun z H5 => ∃ kvs k, y = kV k ∧ H5 D = some (.dK kvs) ∧ kvs.length < sizeLine ∧ Nx (upd H5 D (.dK (putK kvs k z))) else Nx H3) := by
      refine ⟨fun i m H' => m = xs.length - i ∧ i ≤ xs.length ∧ ∃ G' acc zs Lk, EOk1 (withX F X w.m) (wipeC Γ vs) (L2.wipe σ vs) G' H' Ls ∧ Gr G1 H1 G' H' ∧ G' D = none ∧ H' D = some (.dK acc) ∧ acc.map (·.1) = zs.map (·.1) ∧ SW G' H' (acc.map (·.2)) ((zs.map (oK ro)).map (·.2)) Lk ∧ FrL H1 D G' H' Lk ∧ acc.length ≤ i ∧ dkM fb fk fv zs (xs.drop i) = some kvs,
        ⟨xs.length, by simp, Nat.zero_le _, G1, [], [], [], ((e1.withX x1).wipe vs).updD hLD hGD hFD, Gr.lay g1.s hD, hGD, upd_same, rfl, (by show SW G1 _ [] ([] : List Ow) []; trivial), (fun _ z => nomatch z), Nat.le_refl _, by rw [List.drop_zero]; exact hm⟩, ?_⟩
      rintro i m H' ⟨rfl, hi, G', acc, zs, Lk, e', gr', hGD', hHD', hkeys, hsat, hfr, hlen, hrem⟩
      have gc := k1 G' H' e'.x.2 e'.gr.s
      by_cases hlt : i < xs.length
      · refine .inr ⟨wk.goes i H' hlt gc, fun H2 => i + 1 ≤ xs.length ∧ ∃ G' acc zs Lk, EOk1 (withX F X w.m) (wipeC Γ vs) (L2.wipe σ vs) G' H2 Ls ∧ Gr G1 H1 G' H2 ∧ G' D = none ∧ H2 D = some (.dK acc) ∧ acc.map (·.1) = zs.map (·.1) ∧ SW G' H2 (acc.map (·.2)) ((zs.map (oK ro)).map (·.2)) Lk ∧ FrL H1 D G' H2 Lk ∧ acc.length ≤ i + 1 ∧ dkM fb fk fv zs (xs.drop (i + 1)) = some kvs,
          fun H2 h2 => ⟨xs.length - (i + 1), by omega, rfl, h2.1, h2.2⟩, fun v H2 hy => ?_⟩
        obtain ⟨G2, x, g2, xi, px⟩ := k2 i G' H' v H2 e'.x.2 e'.gr.s hlt (wk.yields i H' v H2 hlt gc hy)
        have hx : x ∈ xs := List.mem_of_getElem? xi
        rw [drop_cons xi] at hrem
        have hnn : H' D ≠ none := by rw [hHD']; exact fun z => nomatch z
        refine hg x (withX F X w.m) (L2.wipe σ vs) G2 H2 Ls v (e'.grow g2) px _ fun σ3 e3 hw => ⟨(hw vs hj).trans (wipe_wipe vs fun _ h => h), ?_⟩
        unfold dkM at hrem
        cases hfb : fb x with
        | none =>
          rw [hfb] at hrem
          cases hrem
        | some b =>
          refine ht x b hx hfb (withX F X w.m) σ3 G2 H2 ⟨Ls, e3⟩ _ fun G3 H3 g3 => ?_
          rw [hfb] at hrem
          have g23 := g2.trans g3
          cases b with
          | false =>
            show i + 1 ≤ xs.length ∧ ∃ G' acc zs Lk, _
            exact ⟨hlt, G3, acc, zs, Lk, e'.grow g23, gr'.trans g23, g23.f D hnn hGD', g23.h _ _ hHD', hkeys, hsat.m g23.g (hfr.eqs g23), hfr.grow g23, Nat.le_succ_of_le hlen, hrem⟩
          | true =>
            show tk σ3 H3 _
            cases hfk : fk x with
            | none =>
              simp only [hfk] at hrem
              cases hrem
            | some k =>
              cases hfv : fv x with
              | none =>
                simp only [hfk, hfv] at hrem
                cases hrem
              | some y =>
                simp only [hfk, hfv] at hrem
                have hkn : ¬(zs.any fun kv => decide (kv.1 = k)) = true := fun z => by
                  rw [if_pos z] at hrem
                  cases hrem
                rw [if_neg hkn] at hrem
                refine hk x k hx hfb hfk (withX F X w.m) σ3 G3 H3 ⟨Ls, e3.grow g3⟩ _ fun z G4 H4 g4 pz => ?_
                refine hv x y hx hfb hfv (withX F X w.m) σ3 G4 H4 ⟨Ls, (e3.grow g3).grow g4⟩ _ fun u L G5 H5 g5 hL pu => ?_
                have g24 := g23.trans g4
                have g25 := g24.trans g5
                have hG5 : G5 D = none := g25.f D hnn hGD'
                have hD4 : H4 D ≠ none := by rw [g24.h _ _ hHD']; exact fun z => nomatch z
                have fle : (Lk ++ [L]).flatten = Lk.flatten ++ L := by rw [List.flatten_append, List.flatten_cons, List.flatten_nil, List.append_nil]
                have nDL : ∀ b ∈ L, b ≠ D := fun b hb z => hD4 (by rw [← z]; exact (hL b hb).1)
                have f5 := hfr.grow g25
                have nDk : ∀ b ∈ Lk.flatten, b ≠ D := fun b hb => (f5 b hb).2.2.2
                have old : ∀ b ∈ Lk.flatten, H4 b ≠ none := fun b hb => (hfr.grow g24 b hb).2.2.1
                have hka : ¬(acc.any fun kv => decide (kv.1 = k)) = true := by rw [any_keys (k := k) hkeys]; exact hkn
                refine ⟨acc, k, pz, g25.h _ _ hHD', Nat.lt_of_le_of_lt hlen (Nat.lt_of_lt_of_le hlt hz), ?_⟩
                rw [putK_new hka]
                refine ⟨hlt, G5, acc ++ [(k, u)], zs ++ [(k, y)], Lk ++ [L], (e'.grow g25).updD hLD hG5 hFD, ?_, hG5, upd_same, ?_, ?_, fun b hb => ?_, ?_, hrem⟩
                · have q1 := gr'.trans g25
                  exact ⟨q1.g, Gw.mut q1.h hD, Gw.mut q1.s hG5, q1.f⟩
                · rw [List.map_append, List.map_append, hkeys] <;> rfl
                · rw [List.map_append, List.map_append, List.map_append]
                  exact SW.snoc (Ow.m _ (Gw.refl _) (fun b hb => upd_ne (nDL b hb)) pu) (hsat.m g25.g fun b hb => by rw [upd_ne (nDk b hb)]; exact hfr.eqs g25 b hb) fun b hb q => old b q (hL b hb).1
                · rw [fle] at hb
                  rcases List.mem_append.mp hb with q | q
                  · rw [upd_ne (nDk b q)]
                    exact f5 b q
                  · rw [upd_ne (nDL b q)]
                    exact ⟨(gr'.trans g24).h.free (hL b q).1, (hL b q).2.1, (hL b q).2.2, nDL b q⟩
                · rw [List.length_append]
                  exact Nat.succ_le_succ hlen
      · have ei : i = xs.length := by omega
        subst ei
        refine .inl ⟨wk.stops H' gc, ?_⟩
        rw [List.drop_length] at hrem
        have ez : zs = kvs := Option.some.inj hrem
        subst ez
        refine q (.ref D) (D :: Lk.flatten) G' H' (g1.trans gr') (fun a ha => ?_) ⟨D, acc, Lk, rfl, hHD', by rw [map_rK_k]; exact hkeys, hsat, fun z => (hfr D z).2.2.2 rfl, rfl⟩
        rcases List.mem_cons.mp ha with z | z
        · rw [z]
          exact ⟨g1.h.free hD, hGD', by rw [hHD']; exact fun z => nomatch z⟩
        · exact ⟨g1.h.free (hfr a z).1, (hfr a z).2.1, (hfr a z).2.2.1⟩
    exact main
end
end Y

set_option Elab.async false
set_option linter.all false
set_option maxRecDepth 100000
namespace Y
open PySem L2
/-! ### a value said outright; ways to a part whose value is known -/
def pV (x : V) : Pr := ⟨fun _ v => v = x, fun _ h => h⟩
def Nav (W : Ow) (x : V) (U : Ow) (put : Ow → Ow → Prop) : Prop := ∀ (F : Fm) (Γ : Ctx) (σ : St) (i : Nat) (put0 : Ow → Ow → Prop) (Ls : Nat → List Addr) (v : V) (L : List Addr) (G H : Hp),
  Foc F Γ σ i W put0 Ls v L G H → ∃ Lu, Foc F Γ σ i U (fun U' W' => ∃ M, put U' M ∧ put0 M W') Ls x Lu G H
theorem Foc.put_imp {F : Fm} {Γ : Ctx} {σ : St} {i : Nat} {U : Ow} {put put' : Ow → Ow → Prop} {Ls : Nat → List Addr} {v : V} {Lu : List Addr} {G H : Hp} (f : Foc F Γ σ i U put Ls v Lu G H) (h : ∀ {U' W' : Ow}, put' U' W' → put U' W') : Foc F Γ σ i U put' Ls v Lu G H :=
  ⟨f.e, f.o, f.u, f.sub, fun pw gg k hu hn => f.put (h pw) gg k hu hn⟩
section
variable {F : Fm} {Γ : Ctx} {σ : St} {i j : Nat} {U U' W W' M : Ow} {Ws : List Ow} {Ds : List (Key × Ow)} {put : Ow → Ow → Prop} {Ls : Nat → List Addr} {x v : V} {Lu : List Addr} {G H : Hp} {C : Addr} {ns : List Str}
theorem nav_at : Nav (oAt x U) x U (fun U' M => M = oAt x U') := fun F Γ σ i put0 Ls v L G H f => by
  have hv : v = x := f.u.1
  subst hv
  exact ⟨L, f.e, f.o, f.u.2, f.sub, fun {G' H' U' W' Lu'} ⟨M, pm, pw⟩ gg k hu hn => f.put pw gg k (by rw [pm]; exact ⟨rfl, hu⟩) hn⟩
theorem nav_at0 : Nav (oAt x U) x U (fun U' M => M = U') := fun F Γ σ i put0 Ls v L G H f => by
  have hv : v = x := f.u.1
  subst hv
  exact ⟨L, f.e, f.o, f.u.2, f.sub, fun {G' H' U' W' Lu'} ⟨M, pm, pw⟩ gg k hu hn => f.put pw gg k (by rw [pm]; exact hu) hn⟩
theorem nav_in {W : Ow} (g : Ow → Ow) (n : Nav M x U put) (h : ∀ (F : Fm) (Γ : Ctx) (σ : St) (i : Nat) (put0 : Ow → Ow → Prop) (Ls : Nat → List Addr) (v : V) (L : List Addr) (G H : Hp), Foc F Γ σ i W put0 Ls v L G H → ∃ v' L', Foc F Γ σ i M (fun U' W' => put0 (g U') W') Ls v' L' G H) : Nav W x U (fun U' N => ∃ M', put U' M' ∧ N = g M') := fun F Γ σ i put0 Ls v L G H f => by
  obtain ⟨v', L', f'⟩ := h F Γ σ i put0 Ls v L G H f
  obtain ⟨Lu, f2⟩ := n F Γ σ i _ Ls v' L' G H f'
  exact ⟨Lu, f2.put_imp fun ⟨N, ⟨M', p1, p2⟩, p3⟩ => ⟨M', p1, p2 ▸ p3⟩⟩
theorem nav_ls (hj : Ws[j]? = some M) (n : Nav M x U put) : Nav (oLs Ws) x U (fun U' N => ∃ M', put U' M' ∧ N = oLs (Ws.set j M')) := nav_in (W := oLs Ws) (fun M' => oLs (Ws.set j M')) n fun F Γ σ i put0 Ls v L G H f => by
  obtain ⟨a, vs, Lk, h1, h2, h3, h4, h5, h6⟩ := id f.u
  subst h1 h6
  obtain ⟨v, L, hv, hL, hw⟩ := h3.get hj
  exact ⟨v, L, foc_part f h3 h5 hw hL hv fun {U' W'} pw => ⟨_, pw, fun gg e1 n1 n2 => ⟨a, vs, _, rfl, by rw [e1]; exact h2, n1, h4, n2, rfl⟩⟩⟩
theorem nav_ds (hj : (Ds.map (·.2))[j]? = some M) (n : Nav M x U put) : Nav (oDs Ds) x U (fun U' N => ∃ M', put U' M' ∧ N = oDs (setK Ds j M')) := nav_in (W := oDs Ds) (fun M' => oDs (setK Ds j M')) n fun F Γ σ i put0 Ls v L G H f => by
  obtain ⟨a, vs, Lk, h1, h2, h3, h4, h5, h6⟩ := id f.u
  subst h1 h6
  obtain ⟨v, L, hv, hL, hw⟩ := h4.get hj
  exact ⟨v, L, foc_part (Ws := Ds.map (·.2)) (j := j) f h4 h5 hw hL hv fun {U' W'} pw => ⟨_, pw, fun gg e1 n1 n2 => ⟨a, vs, _, rfl, by rw [e1]; exact h2, by rw [setK_k]; exact h3, by rw [setK_v]; exact n1, n2, rfl⟩⟩⟩
theorem nav_os (hj : Ws[j]? = some M) (n : Nav M x U put) : Nav (oOs C ns Ws) x U (fun U' N => ∃ M', put U' M' ∧ N = oOs C ns (Ws.set j M')) := nav_in (W := oOs C ns Ws) (fun M' => oOs C ns (Ws.set j M')) n fun F Γ σ i put0 Ls v L G H f => by
  obtain ⟨a, dx, vs, Lk, h1, h2, h3, h5, h6⟩ := id f.u
  subst h1 h6
  obtain ⟨v, L, hv, hL, hw⟩ := h3.get hj
  exact ⟨v, L, foc_part f h3 h5 hw hL hv fun {U' W'} pw => ⟨_, pw, fun gg e1 n1 n2 => ⟨a, dx, vs, _, rfl, by rw [e1]; exact h2, n1, n2, rfl⟩⟩⟩
/-- .. below a region whose own value is known -/
theorem nav_under {y : V} (n : Nav M x U put) : Nav (oAt y M) x U (fun U' N => ∃ M', put U' M' ∧ N = oAt y M') := nav_in (W := oAt y M) (fun M' => oAt y M') n fun F Γ σ i put0 Ls v L G H f =>
  ⟨v, L, f.e, f.o, f.u.2, f.sub, fun {G' H' U' W' Lu'} pw gg k hu hn => f.put pw gg k ⟨f.u.1, hu⟩ hn⟩
theorem foc_slot (e : EOk1 F Γ σ G H Ls) (h : Γ[i]? = some (.own W)) : ∃ v, σ[i]? = some (some v) ∧ Foc F Γ σ i W Eq Ls v (Ls i) G H := by
  obtain ⟨v, h1, h2⟩ := (e.at_ i _ h).own_
  exact ⟨v, h1, e, ⟨W, h⟩, h2, fun _ h => h, fun pw _ _ hu _ => ⟨v, _, h1, pw ▸ hu, fun a ha => .inr ha⟩⟩
/-- a name that stands for a part of a region -/
theorem f_nav {n : Nat} (hn : Γ[n]? = some (.val (pV x))) (hi : Γ[i]? = some (.own W)) (nv : Nav W x U put) : EvF (tVar n) Γ i U put := fun F σ G H Ls e Q q => by
  obtain ⟨u, h1, h2⟩ := (e.at_ n _ hn).val_
  have h2' : u = x := h2
  subst h2'
  obtain ⟨v, _, f⟩ := foc_slot e hi
  obtain ⟨Lu, f'⟩ := nv F Γ σ i _ Ls v _ G H f
  exact ⟨u, h1, q u Lu G H (Gr.refl e.gr.s) (f'.put_imp fun pw => ⟨_, pw, rfl⟩)⟩
/-! ### pins -/
theorem Foc.pin (f : Foc F Γ σ i U put Ls v Lu G H) (pw : put (oAt v U) W') : EOk F (Γ.set i (.own W')) σ G H :=
  f.chg (U' := oAt v U) (Lu' := Lu) pw (Gw.refl G) f.e.gr.s (fun _ _ _ => rfl) (fun _ _ _ h => h) ⟨rfl, f.u⟩ fun b hb => ⟨.inl hb, f.frE b hb⟩
def Le (W W' : Ow) : Prop := ∀ (G H : Hp) (v : V) (L : List Addr), W.p G H v L → W'.p G H v L
theorem le_refl : Le W W := fun _ _ _ _ h => h
theorem le_at : Le (oAt x U) U := fun _ _ _ _ h => h.2
theorem le_at2 (h : Le U U') : Le (oAt x U) (oAt x U') := fun G H v L ⟨a, b⟩ => ⟨a, h G H v L b⟩
theorem sw_le (hl : Le M U) : ∀ {vs : List V} {Ws : List Ow} {Ls : List (List Addr)} {j : Nat}, Ws[j]? = some U → SW G H vs (Ws.set j M) Ls → SW G H vs Ws Ls
  | _, [], _, _, e, _ => by simp at e
  | v :: vs, W :: Ws, L :: Ls, 0, e, h => by
    simp at e
    subst e
    exact ⟨hl _ _ _ _ h.1, h.2.1, h.2.2⟩
  | v :: vs, W :: Ws, L :: Ls, j + 1, e, h => ⟨h.1, h.2.1, sw_le hl (j := j) (by simpa using e) h.2.2⟩
  | [], _ :: _, Ls, 0, _, h => by cases Ls <;> exact h.elim
  | [], _ :: _, Ls, _ + 1, _, h => by cases Ls <;> exact h.elim
  | _ :: _, _ :: _, [], 0, _, h => h.elim
  | _ :: _, _ :: _, [], _ + 1, _, h => h.elim
theorem le_ls (hj : Ws[j]? = some U) (hl : Le M U) : Le (oLs (Ws.set j M)) (oLs Ws) := fun G H v L ⟨a, vs, Lk, h1, h2, h3, h4⟩ => ⟨a, vs, Lk, h1, h2, sw_le hl hj h3, h4⟩
theorem le_os (hj : Ws[j]? = some U) (hl : Le M U) : Le (oOs C ns (Ws.set j M)) (oOs C ns Ws) := fun G H v L ⟨a, dx, vs, Lk, h1, h2, h3, h4⟩ => ⟨a, dx, vs, Lk, h1, h2, sw_le hl hj h3, h4⟩
theorem le_ds (hj : (Ds.map (·.2))[j]? = some U) (hl : Le M U) : Le (oDs (setK Ds j M)) (oDs Ds) := fun G H v L ⟨a, vs, Lk, h1, h2, h3, h4, h5⟩ => ⟨a, vs, Lk, h1, h2, by rw [setK_k] at h3; exact h3, by rw [setK_v] at h4; exact sw_le hl hj h4, h5⟩
theorem EOk.le (e : EOk F Γ σ G H) (hi : Γ[i]? = some (.own W)) (hl : Le W W') : EOk F (Γ.set i (.own W')) σ G H := by
  obtain ⟨Ls, e⟩ := e
  obtain ⟨v, hv, f⟩ := foc_slot e hi
  exact f.chg (U' := W') (Lu' := Ls i) rfl (Gw.refl G) e.gr.s (fun _ _ _ => rfl) (fun _ _ _ h => h) (hl _ _ _ _ f.u) fun b hb => ⟨.inl hb, f.frE b hb⟩
theorem s_le {ts : TS} {o : Out} (hi : Γ[i]? = some (.own W)) (hl : Le W W') (h : StS ts (Γ.set i (.own W')) o) : StS ts Γ o := fun F σ G H D e g => h F σ G H D (e.le hi hl) g
theorem s_leN {ts : TS} {Γ1 : Ctx} (h : StS ts Γ (.nx Γ1)) (hi : Γ1[i]? = some (.own W)) (hl : Le W W') : StS ts Γ (.nx (Γ1.set i (.own W'))) := fun F σ G H D e g => h F σ G H D e fun σ' G' H' e' => g σ' G' H' (e'.le hi hl)
/-- x = p, and what follows -/
theorem s_pin {tp : TE} {ts : TS} {o : Out} {n : Nat} {Wx : V → Ow} (hp : EvF tp Γ i U put) (pw : ∀ x, put (oAt x U) (Wx x)) (hn : n < Γ.length) (h : ∀ x, StS ts ((Γ.set i (.own (Wx x))).set n (.val (pV x))) o) : StS (tSeq (tAsg tp (gName n)) ts) Γ o := fun F σ G H D ⟨Ls, e⟩ g =>
  hp F σ G H Ls e _ fun x Lx G1 H1 g1 f1 => h x F _ G1 H1 D ((f1.pin (pw x)).set rfl (by rw [List.length_set]; exact hn)) g
end
end Y

set_option Elab.async false
set_option linter.all false
set_option maxRecDepth 100000
namespace Y
open PySem L2
/-! ### expressions that change a region, among others -/
def EvV (te : TE) (Γ Γ' : Ctx) (P : Pr) : Prop := ∀ (F : Fm) (σ : St) (G H : Hp), EOk F Γ σ G H → ∀ Q : VK, (∀ v G' H', Gw G G' → EOk F Γ' σ G' H' → P.p G' v → Q v H') → te σ H Q
def EvAV (ta : TA) (Γ Γ' : Ctx) (Ps : List Pr) : Prop := ∀ (F : Fm) (σ : St) (G H : Hp), EOk F Γ σ G H → ∀ Q : List V → Hp → Prop, (∀ vs G' H', Gw G G' → EOk F Γ' σ G' H' → Sat G' vs Ps → Q vs H') → ta σ H Q
section
variable {K : PySem.W.Frag} {Γ Γ1 Γ2 : Ctx} {tp te ti ta : TE} {tr ts : TA} {i j n m : Nat} {U W W' : Ow} {put : Ow → Ow → Prop} {P : Pr} {Ps : List Pr} {k : Int}
theorem v_e (h : EvE te Γ P) : EvV te Γ Γ P := fun F σ G H e Q q => h F σ G H e _ fun v G' H' g p => q v G' H' g.g (e.grow g) p
theorem v_u (h : EvV te Γ Γ1 P) : EvU te Γ Γ1 P := fun F σ G H e Q q => h F σ G H e _ fun v G' H' _ e' p => q v G' H' e' p
theorem av_nil : EvAV tNil Γ Γ [] := fun F σ G H e Q q => q [] G H (Gw.refl G) e trivial
theorem av_cons (h : EvV te Γ Γ1 P) (r : EvAV tr Γ1 Γ2 Ps) : EvAV (tCons te tr) Γ Γ2 (P :: Ps) := fun F σ G H e Q q =>
  h F σ G H e _ fun v G1 H1 g1 e1 p1 => r F σ G1 H1 e1 _ fun vs G2 H2 g2 e2 s2 => q (v :: vs) G2 H2 (g1.trans g2) e2 ⟨P.m g2 p1, s2⟩
theorem v_tup (h : EvAV ts Γ Γ1 Ps) (hn : Ps.length ≤ 1000) : EvV (tTup ts) Γ Γ1 (pT Ps) := fun F σ G H e Q q =>
  h F σ G H e _ fun vs G1 H1 g1 e1 s1 => by
    have hz : vs.length ≤ sizeLine := s1.len ▸ Nat.le_trans hn (by decide)
    refine ⟨hz, fun l hl => ?_⟩
    have gr : Gr G1 H1 _ _ := Gr.new (o := .tup vs) e1.s hl
    exact q _ _ _ (g1.trans gr.g) (e1.grow gr) ⟨l, vs, rfl, upd_same, s1.m gr.g⟩
/-- p.pop(k) -/
theorem v_popAt (hp : EvF tp Γ i (oL Ps) put) (hk : EvE ti Γ (pI k)) (hb : -(2 ^ 63) ≤ k ∧ k < 2 ^ 63) (hn : seqIndex? k Ps.length = some m) (hP : Ps[m]? = some P) (pw : put (oL (Ps.eraseIdx m)) W') (hc : Γ.set i (.own W') = Γ1) :
    EvV (tBM K "list" rPopAt tp (tCons ti tNil)) Γ Γ1 P := fun F σ G H ⟨Ls, e⟩ Q q =>
  hp F σ G H Ls e _ fun x0 Lx G0 H0 g0 f0 => by
    obtain ⟨a, vs, h1, h2, h3, h4, _⟩ := f0.list
    subst h1 hc
    refine ⟨.inl ⟨rfl, vs, SqL.of h2⟩, hk F σ G0 H0 ⟨Ls, f0.e⟩ _ fun v G' H' gr p => ?_⟩
    obtain ⟨b, ws, k1, k2, k3, k4, k5⟩ := (f0.grow gr).list
    cases ref_inj k1
    obtain ⟨x, x1, x2⟩ := k3.get hP
    exact ⟨a, ws, k, m, x, rfl, by rw [show v = .int k from p], k2, hb.1, hb.2, by rw [k3.len]; exact hn, x1, q x G' _ (g0.g.trans gr.g) (k5 _ _ _ pw (k3.erase m) (Nat.le_trans (List.length_eraseIdx_le _ _) k4)) x2⟩
/-- xs.append(e), e changes something besides -/
theorem s_appV (h : EvV te Γ Γ1 P) (hi0 : ∃ Qs, Γ[i]? = some (.own (oL Qs))) (hi : Γ1[i]? = some (.own (oL Ps))) (hz : Ps.length < sizeLine) : StS (tDrop (tBM K "list" rAppend (tVar i) (tCons te tNil))) Γ (.nx (Γ1.set i (.own (oL (Ps ++ [P]))))) := fun F σ G H D e g => by
  obtain ⟨Qs, hi0⟩ := hi0
  obtain ⟨a, vs, h1, h2, h3, h4, _⟩ := own_list e hi0
  refine ⟨.ref a, h1, .inl ⟨rfl, vs, SqL.of h2⟩, h F σ G H e _ fun v G' H' _ e' p => ?_⟩
  obtain ⟨b, ws, k1, k2, k3, k4, k5⟩ := own_list e' hi
  rw [h1] at k1
  cases k1
  refine ⟨a, ws, v, rfl, rfl, k2, by rw [k3.len]; exact hz, g σ G' _ (k5 _ _ (k3.snoc p) ?_)⟩
  rw [List.length_append, k3.len]
  exact hz
/-- p.append(e), e changes the same region besides -/
theorem s_appFV {Wx W1 : V → Ow} {Γx : V → Ctx} {put1 : V → Ow → Ow → Prop} {Qs : List Pr} (hp : EvF tp Γ i (oL Qs) put) (pw : ∀ x, put (oAt x (oL Qs)) (Wx x)) (h : ∀ x, EvV te (Γ.set i (.own (Wx x))) (Γx x) P) (hi : ∀ x, (Γx x)[i]? = some (.own (W1 x))) (hn : ∀ x, Nav (W1 x) x (oL Ps) (put1 x)) (hz : Ps.length < sizeLine)
    (pw2 : ∀ x, put1 x (oL (Ps ++ [P])) W') (hc : ∀ x, (Γx x).set i (.own W') = Γ2) : StS (tDrop (tBM K "list" rAppend tp (tCons te tNil))) Γ (.nx Γ2) := fun F σ G H D ⟨Ls, e⟩ g =>
  hp F σ G H Ls e _ fun x Lx G1 H1 g1 f1 => by
    obtain ⟨a, vs, h1, h2, h3, h4, _⟩ := f1.list
    have e1 := f1.pin (pw x)
    subst h1
    refine ⟨.inl ⟨rfl, vs, SqL.of h2⟩, h _ F σ G1 H1 e1 _ fun v G' H' gg ⟨Ls2, e2⟩ p => ?_⟩
    obtain ⟨v2, _, f2⟩ := foc_slot e2 (hi _)
    obtain ⟨Lu, f3⟩ := hn _ _ _ _ _ _ _ _ _ _ _ f2
    obtain ⟨b, ws, k1, k2, k3, k4, k5⟩ := f3.list
    cases ref_inj k1
    refine ⟨a, ws, v, rfl, rfl, k2, by rw [k3.len]; exact hz, g σ G' _ (hc (.ref a) ▸ k5 (ws ++ [v]) _ _ ⟨_, pw2 _, rfl⟩ (k3.snoc p) ?_)⟩
    rw [List.length_append, k3.len]
    exact hz
end
end Y

set_option Elab.async false
set_option linter.all false
set_option maxRecDepth 100000
namespace Y
open PySem L2
/-! ### [e for a in xs for b in ys] -/
def lc2M {α γ β : Type} (fb : α → Option Bool) (fy : α → Option (List γ)) (fb1 : α → γ → Option Bool) (fe : α → γ → Option β) : List α → Option (List β)
  | [] => some []
  | x :: xs => match fb x with
    | none => none
    | some false => lc2M fb fy fb1 fe xs
    | some true => match fy x with
      | none => none
      | some ys => match lcM (fb1 x) (fe x) ys with
        | none => none
        | some zs => (lc2M fb fy fb1 fe xs).map (zs ++ ·)
section
variable {K : PySem.W.Frag} {Γ : Ctx} {α γ β : Type} {r : α → Pr} {r1 : γ → Pr} {rb : β → Pr} {xs : List α} {ys : List β} {wi wi1 : TI} {g g1 : TG} {js js1 vs vs1 : List Nat} {tt tt1 : TT} {te : TE}
theorem w_lc2 (Γx : α → Ctx) (Γy : α → γ → Ctx) (fb : α → Option Bool) (fy : α → Option (List γ)) (fb1 : α → γ → Option Bool) (fe : α → γ → Option β) (h : EvI wi Γ r xs) (hg : ∀ x, EvG g js (wipeC Γ vs) (r x) (Γx x)) (hj : ∀ j ∈ js, j ∈ vs)
    (ht : ∀ x b, x ∈ xs → fb x = some b → EvT tt (Γx x) b) (hi : ∀ x us, x ∈ xs → fb x = some true → fy x = some us → EvI wi1 (Γx x) r1 us) (hg1 : ∀ x y, EvG g1 js1 (wipeC (Γx x) vs1) (r1 y) (Γy x y)) (hj1 : ∀ j ∈ js1, j ∈ vs1)
    (ht1 : ∀ x y b, x ∈ xs → fb1 x y = some b → EvT tt1 (Γy x y) b) (he : ∀ x y z, x ∈ xs → fb1 x y = some true → fe x y = some z → EvE te (Γy x y) (rb z)) (hm : lc2M fb fy fb1 fe xs = some ys) (hz : ys.length ≤ sizeLine) :
    EvW (tLc2 wi g tt wi1 g1 tt1 te vs vs1) Γ (oL (ys.map rb)) := fun F σ G H e Q q =>
  h F σ G H e _ fun J X G1 H1 gr1 w x1 => fun D hD => by
    obtain ⟨Gc, Y, wk, k1, k2⟩ := w.ex
    obtain ⟨Ls0, e0⟩ := e.grow gr1
    obtain ⟨Ls, e1, hLs⟩ := e0.norm
    have hLD : ∀ i a, a ∈ Ls i → a ≠ D := fun i a ha z => hLs i a ha (z ▸ hD)
    have hGD : G1 D = none := e1.gr.s.free hD
    have hFD : F.H D = none := e1.gr.h.free hD
    refine ⟨fun i m H' => m = xs.length - i ∧ i ≤ xs.length ∧ ∃ G' acc zs, EOk1 (withX F X w.m) (wipeC Γ vs) (L2.wipe σ vs) G' H' Ls ∧ Gr G1 H1 G' H' ∧ G' D = none ∧ H' D = some (.lst acc) ∧ Sat G' acc (zs.map rb) ∧ (lc2M fb fy fb1 fe (xs.drop i)).map (zs ++ ·) = some ys,
      ⟨xs.length, by simp, Nat.zero_le _, G1, [], [], ((e1.withX x1).wipe vs).updD hLD hGD hFD, Gr.lay gr1.s hD, hGD, upd_same, (by show Sat G1 [] ([] : List Pr); trivial), by rw [List.drop_zero, hm] <;> rfl⟩, ?_⟩
    rintro i m H' ⟨rfl, hil, G', acc, zs, e', gr', hGD', hHD', hsat, hrem⟩
    have gc := k1 G' H' e'.x.2 e'.gr.s
    by_cases hlt : i < xs.length
    · refine .inr ⟨wk.goes i H' hlt gc, fun H2 => i + 1 ≤ xs.length ∧ ∃ G' acc zs, EOk1 (withX F X w.m) (wipeC Γ vs) (L2.wipe σ vs) G' H2 Ls ∧ Gr G1 H1 G' H2 ∧ G' D = none ∧ H2 D = some (.lst acc) ∧ Sat G' acc (zs.map rb) ∧ (lc2M fb fy fb1 fe (xs.drop (i + 1))).map (zs ++ ·) = some ys,
        fun H2 h2 => ⟨xs.length - (i + 1), by omega, rfl, h2.1, h2.2⟩, fun v H2 hy => ?_⟩
      obtain ⟨G2, x, g2, xi, px⟩ := k2 i G' H' v H2 e'.x.2 e'.gr.s hlt (wk.yields i H' v H2 hlt gc hy)
      have hx : x ∈ xs := List.mem_of_getElem? xi
      rw [drop_cons xi] at hrem
      have hnn : H' D ≠ none := by rw [hHD']; exact fun z => nomatch z
      refine hg x (withX F X w.m) (L2.wipe σ vs) G2 H2 Ls v (e'.grow g2) px _ fun σ3 e3 hw => ⟨(hw vs hj).trans (wipe_wipe vs fun _ h => h), ?_⟩
      unfold lc2M at hrem
      cases hfb : fb x with
      | none =>
        rw [hfb] at hrem
        cases hrem
      | some b =>
        refine ht x b hx hfb (withX F X w.m) σ3 G2 H2 ⟨Ls, e3⟩ _ fun G3 H3 g3 => ?_
        rw [hfb] at hrem
        have g23 := g2.trans g3
        cases b with
        | false =>
          show i + 1 ≤ xs.length ∧ ∃ G' acc zs, _
          exact ⟨hlt, G3, acc, zs, e'.grow g23, gr'.trans g23, g23.f D hnn hGD', g23.h _ _ hHD', hsat.m g23.g, hrem⟩
        | true =>
          show wi1 σ3 H3 _
          cases hfy : fy x with
          | none =>
            simp only [hfy] at hrem
            cases hrem
          | some us =>
            simp only [hfy] at hrem
            refine hi x us hx hfb hfy (withX F X w.m) σ3 G3 H3 ⟨Ls, e3.grow g3⟩ _ fun J1 X1 G4 H4 g4 w1 x4 => ?_
            obtain ⟨Gc1, Y1, wk1, m1, m2⟩ := w1.ex
            have g24 := g23.trans g4
            have e4 := (e3.grow g3).grow g4
            have hX : ∀ {A B : Hp}, Gw A B → X A → X B := fun g h => w.m g h
            refine ⟨fun j k H5 => k = us.length - j ∧ j ≤ us.length ∧ ∃ G5 acc zs, EOk1 (withX (withX F X w.m) X1 w1.m) (wipeC (Γx x) vs1) (L2.wipe σ3 vs1) G5 H5 Ls ∧ EOk1 (withX F X w.m) (wipeC Γ vs) (L2.wipe σ vs) G5 H5 Ls ∧ Gr G1 H1 G5 H5 ∧ G5 D = none ∧ H5 D = some (.lst acc) ∧ Sat G5 acc (zs.map rb) ∧ ((lcM (fb1 x) (fe x) (us.drop j)).bind fun z1 => (lc2M fb fy fb1 fe (xs.drop (i + 1))).map fun z2 => zs ++ (z1 ++ z2)) = some ys,
              ⟨us.length, by simp, Nat.zero_le _, G4, acc, zs, (e4.withX x4).wipe vs1, e'.grow g24, gr'.trans g24, g24.f D hnn hGD', g24.h _ _ hHD', hsat.m g24.g, ?_⟩, ?_⟩
            · rw [List.drop_zero]
              cases hl : lcM (fb1 x) (fe x) us with
              | none =>
                simp only [hl] at hrem
                cases hrem
              | some z1 =>
                simp only [hl] at hrem
                rw [Option.map_map] at hrem
                exact hrem
            · rintro j k H5 ⟨rfl, hjl, G5, acc5, zs5, e5, e5', gr5, hG5, hH5, hsat5, hrem5⟩
              have gc1 := m1 G5 H5 e5.x.2 e5.gr.s
              by_cases hlt1 : j < us.length
              · refine .inr ⟨wk1.goes j H5 hlt1 gc1, fun H6 => j + 1 ≤ us.length ∧ ∃ G5 acc zs, EOk1 (withX (withX F X w.m) X1 w1.m) (wipeC (Γx x) vs1) (L2.wipe σ3 vs1) G5 H6 Ls ∧ EOk1 (withX F X w.m) (wipeC Γ vs) (L2.wipe σ vs) G5 H6 Ls ∧ Gr G1 H1 G5 H6 ∧ G5 D = none ∧ H6 D = some (.lst acc) ∧ Sat G5 acc (zs.map rb) ∧ ((lcM (fb1 x) (fe x) (us.drop (j + 1))).bind fun z1 => (lc2M fb fy fb1 fe (xs.drop (i + 1))).map fun z2 => zs ++ (z1 ++ z2)) = some ys,
                  fun H6 h6 => ⟨us.length - (j + 1), by omega, rfl, h6.1, h6.2⟩, fun v1 H6 hy1 => ?_⟩
                obtain ⟨G6, y, g6, yi, py⟩ := m2 j G5 H5 v1 H6 e5.x.2 e5.gr.s hlt1 (wk1.yields j H5 v1 H6 hlt1 gc1 hy1)
                rw [drop_cons yi] at hrem5
                have hnn5 : H5 D ≠ none := by rw [hH5]; exact fun z => nomatch z
                refine hg1 x y (withX (withX F X w.m) X1 w1.m) (L2.wipe σ3 vs1) G6 H6 Ls v1 (e5.grow g6) py _ fun σ4 e6 hw1 => ⟨(hw1 vs1 hj1).trans (wipe_wipe vs1 fun _ h => h), ?_⟩
                unfold lcM at hrem5
                cases hfb1 : fb1 x y with
                | none =>
                  rw [hfb1] at hrem5
                  cases hrem5
                | some b1 =>
                  refine ht1 x y b1 hx hfb1 (withX (withX F X w.m) X1 w1.m) σ4 G6 H6 ⟨Ls, e6⟩ _ fun G7 H7 g7 => ?_
                  rw [hfb1] at hrem5
                  have g67 := g6.trans g7
                  cases b1 with
                  | false =>
                    show j + 1 ≤ us.length ∧ ∃ G5 acc zs, _
                    exact ⟨hlt1, G7, acc5, zs5, e5.grow g67, e5'.grow g67, gr5.trans g67, g67.f D hnn5 hG5, g67.h _ _ hH5, hsat5.m g67.g, hrem5⟩
                  | true =>
                    show te σ4 H7 _
                    cases hfe : fe x y with
                    | none =>
                      simp only [hfe] at hrem5
                      cases hrem5
                    | some z0 =>
                      simp only [hfe] at hrem5
                      refine he x y z0 hx hfb1 hfe (withX (withX F X w.m) X1 w1.m) σ4 G7 H7 ⟨Ls, e6.grow g7⟩ _ fun z G8 H8 g8 pz => ?_
                      have g68 := g67.trans g8
                      have hG8 : G8 D = none := g68.f D hnn5 hG5
                      have s8 := (hsat5.m g68.g).snoc pz
                      have step : ((lcM (fb1 x) (fe x) (us.drop (j + 1))).bind fun z1 => (lc2M fb fy fb1 fe (xs.drop (i + 1))).map fun z2 => (zs5 ++ [z0]) ++ (z1 ++ z2)) = some ys := by
                        cases hl : lcM (fb1 x) (fe x) (us.drop (j + 1)) with
                        | none =>
                          rw [hl] at hrem5
                          cases hrem5
                        | some z1 =>
                          rw [hl] at hrem5
                          rw [← hrem5]
                          show (lc2M fb fy fb1 fe (xs.drop (i + 1))).map _ = (lc2M fb fy fb1 fe (xs.drop (i + 1))).map _
                          refine congrArg (fun f => (lc2M fb fy fb1 fe (xs.drop (i + 1))).map f) (funext fun z2 => ?_)
                          rw [List.append_assoc] <;> rfl
                      have hlen : acc5.length < sizeLine := by
                        have la : acc5.length = zs5.length := by rw [hsat5.len, List.length_map]
                        obtain ⟨z1, hz1, hz2⟩ := Option.bind_eq_some_iff.mp step
                        obtain ⟨z2, _, hz3⟩ := Option.map_eq_some_iff.mp hz2
                        rw [← hz3, List.length_append, List.length_append] at hz
                        have : ([z0] : List β).length = 1 := rfl
                        omega
                      refine ⟨acc5, g68.h _ _ hH5, hlen, hlt1, G8, acc5 ++ [z], zs5 ++ [z0], (e5.grow g68).updD hLD hG8 hFD, (e5'.grow g68).updD hLD hG8 hFD, ?_, hG8, upd_same, by rw [List.map_append]; exact s8, step⟩
                      have q1 := gr5.trans g68
                      exact ⟨q1.g, Gw.mut q1.h hD, Gw.mut q1.s hG8, q1.f⟩
              · have ej : j = us.length := by omega
                subst ej
                refine .inl ⟨wk1.stops H5 gc1, hlt, G5, acc5, zs5, e5', gr5, hG5, hH5, hsat5, ?_⟩
                rw [List.drop_length] at hrem5
                exact hrem5
    · have ei : i = xs.length := by omega
      subst ei
      refine .inl ⟨wk.stops H' gc, ?_⟩
      rw [List.drop_length] at hrem
      have ez : zs = ys := by
        have : some (zs ++ []) = some ys := hrem
        rw [List.append_nil] at this
        exact Option.some.inj this
      subst ez
      refine q (.ref D) [D] G' H' (gr1.trans gr') (fun a ha => ?_) ⟨D, .lst acc, rfl, rfl, hHD', acc, rfl, hsat, ?_⟩
      · rw [List.mem_singleton.mp ha]
        exact ⟨gr1.h.free hD, hGD', by rw [hHD']; exact fun z => nomatch z⟩
      · rw [hsat.len, List.length_map]
        exact hz
end
end Y

set_option Elab.async false
set_option linter.all false
set_option maxRecDepth 100000
namespace Y
open PySem L2
/-! ### tuples walked; tuples and dicts of texts that the module holds -/
section
variable {X : Cx} {K : PySem.W.Frag} {Γ : Ctx} {α : Type} {r : α → Pr} {xs : List α} {tl ta tb : TE} {c : V}
theorem pi_tupK {l tg : Expr} (hK : X.K = K) (hl : PE X l tl) : PI X tg l (iTup K tl) := hK ▸ pi_tup hl
theorem i_tupV (h : EvE tl Γ (rV r xs)) : EvI (iTup K tl) Γ r xs := fun F σ G H e R q =>
  h F σ G H e _ fun v G1 H1 g1 ⟨a, vs, h1, h2, h3⟩ => by
    subst h1
    have lv : vs.length = xs.length := by rw [h3.len, List.length_map]
    refine ⟨a, rfl, ⟨vs, SqT.of (g1.s _ _ h2)⟩, q _ (fun H => H a = some (.tup vs) ∧ Sat H vs (xs.map r)) G1 H1 g1 ⟨fun g q => ⟨g _ _ q.1, q.2.m g⟩, fun H => SqT K H a vs, YAt vs, lv ▸ walk_tup, fun G H x s => SqT.of (s _ _ x.1), fun i G H v H' x s hi y => ?_⟩ ⟨h2, h3⟩⟩
    obtain ⟨rfl, y2⟩ := y
    obtain ⟨z, z1, z2⟩ := sat_map_get x.2 y2
    exact ⟨G, z, Gr.refl s, z1, z2⟩
def strsV : List Value → Option (List Str)
  | [] => some []
  | .str s _ :: vs => (strsV vs).map (s :: ·)
  | _ => none
theorem strsV_vals : ∀ {vs : List Value} {ss : List Str}, strsV vs = some ss → Vals (ss.map V.str) vs
  | [], ss, h => by
    cases h
    exact .nil
  | v :: vs, ss, h => by
    cases v with
    | str s t =>
      have h' : (strsV vs).map (s :: ·) = some ss := h
      cases hq : strsV vs with
      | none => rw [hq] at h'; cases h'
      | some ts =>
        rw [hq] at h'
        cases h'
        exact .cons ⟨t, rfl⟩ (strsV_vals hq)
    | _ => cases h
/-- a tuple of texts of the module's own -/
def isTupS (K : PySem.W.Frag) (a : Addr) (ss : List Str) : Bool := match K.lookup a with
  | some ⟨.type n, _, .seq its _, _⟩ => n == "tuple" && (decide (its.size ≤ sizeLine) && decide (strsV its.toList = some ss))
  | _ => false
theorem isTupS_of {a : Addr} {ss : List Str} (h : isTupS K a ss = true) (H : Hp) : SqT K H a (ss.map V.str) := by
  unfold isTupS at h
  split at h
  · rename_i o n q1 its q2 q3 e
    rw [Bool.and_eq_true, Bool.and_eq_true] at h
    exact .inr ⟨_, its, _, e, by rw [show n = "tuple" from eq_of_beq h.1], rfl, of_decide_eq_true h.2.1, strsV_vals (of_decide_eq_true h.2.2)⟩
  · cases h
theorem i_tupC {a : Addr} {ss : List Str} (h : isTupS K a ss = true) : EvI (iTup K (tC (.ref a))) Γ pS ss := fun F σ G H e R q => by
  have st := isTupS_of h
  refine ⟨a, rfl, ⟨_, st H⟩, q _ (fun _ => True) G H (Gr.refl e.s) ⟨fun _ _ => trivial, fun H => SqT K H a (ss.map V.str), YAt (ss.map V.str), by have := walk_tup (K := K) (a := a) (xs := ss.map V.str); rw [List.length_map] at this; exact this, fun G H _ _ => st H, fun i G H v H' _ s hi y => ?_⟩ trivial⟩
  obtain ⟨rfl, y2⟩ := y
  rw [List.getElem?_map] at y2
  cases hs : ss[i]? with
  | none => rw [hs] at y2; cases y2
  | some x =>
    rw [hs] at y2
    cases y2
    exact ⟨G, x, Gr.refl s, rfl, rfl⟩
/-- a dict of texts of the module's own -/
def isDicS (K : PySem.W.Frag) (a : Addr) (tb : List (Str × Str)) : Bool := tb.all fun kv => match PySem.W.nsIn K a kv.1 with
  | some (some (.str v _)) => v == kv.2
  | _ => false
def lookS (tb : List (Str × Str)) (k : Str) : Option Str := (tb.find? fun kv => kv.1 == k).map (·.2)
theorem isDicS_of {a : Addr} {tb : List (Str × Str)} (h : isDicS K a tb = true) {k v : Str} (hk : lookS tb k = some v) : ∃ t, PySem.W.nsIn K a k = some (some (.str v t)) := by
  unfold lookS at hk
  cases hf : tb.find? fun kv => kv.1 == k with
  | none => rw [hf] at hk; cases hk
  | some kv =>
    rw [hf] at hk
    have hv : kv.2 = v := Option.some.inj hk
    have q := List.all_eq_true.mp h kv (List.mem_of_find?_eq_some hf)
    have e0 := List.find?_some hf
    have e1 : kv.1 = k := eq_of_beq e0
    rw [e1] at q
    split at q
    · rename_i w t e
      exact ⟨t, by rw [e, show w = kv.2 from eq_of_beq q, hv]⟩
    · cases q
end
end Y

set_option Elab.async false
set_option linter.all false
set_option maxRecDepth 100000
namespace Y
open PySem L2
/-! ### a dict of one's own: new, set, setdefault, walked by its items -/
def itemsS {β : Type} : List (Key × β) → Option (List (Str × β))
  | [] => some []
  | (.inr s, v) :: q => (itemsS q).map ((s, v) :: ·)
  | (.inl _, _) :: _ => none
theorem itemsS_get {β : Type} : ∀ {kvs : List (Key × β)} {zs : List (Str × β)}, itemsS kvs = some zs → kvs.length = zs.length ∧ ∀ j : Nat, kvs[j]? = (zs[j]?).map fun z => ((.inr z.1 : Key), z.2)
  | [], zs, h => by
    cases h
    exact ⟨rfl, fun j => rfl⟩
  | (.inr s, v) :: q, zs, h => by
    have h' : (itemsS q).map ((s, v) :: ·) = some zs := h
    cases hq : itemsS q with
    | none => rw [hq] at h'; cases h'
    | some ws =>
      rw [hq] at h'
      cases h'
      obtain ⟨l1, l2⟩ := itemsS_get hq
      refine ⟨congrArg Nat.succ l1, fun j => ?_⟩
      cases j with
      | zero => rfl
      | succ j => simpa using l2 j
  | (.inl _, _) :: _, zs, h => by cases h
theorem satK_get {H : Hp} {α : Type} {r : α → Pr} : ∀ {vs : List (Key × V)} {kvs : List (Key × α)} {j : Nat} {k : Key} {v : V}, SatK H vs (kvs.map (rK r)) → vs[j]? = some (k, v) → ∃ a, kvs[j]? = some (k, a) ∧ (r a).p H v
  | [], [], _, _, _, _, e => by simp at e
  | x :: vs, y :: kvs, 0, k, v, h, e => by
    simp at e
    subst e
    refine ⟨y.2, ?_, h.2.1⟩
    rw [List.getElem?_cons_zero, show k = y.1 from h.1]
  | x :: vs, y :: kvs, j + 1, k, v, h, e => by
    obtain ⟨a, h1, h2⟩ := satK_get (j := j) h.2.2 (by simpa using e)
    exact ⟨a, by simpa using h1, h2⟩
  | [], _ :: _, _, _, _, h, _ => h.elim
  | _ :: _, [], _, _, _, h, _ => h.elim
def wFz (od : Obj) (vs : List (Key × V)) (Ps : List (Key × Pr)) (G : Hp) (o : HO) : Prop := o = .frz od (.dK vs) ∧ SatK G vs Ps
theorem wFz.m {od : Obj} {vs : List (Key × V)} {Ps : List (Key × Pr)} {G G' : Hp} {o : HO} (e : Gw G G') : wFz od vs Ps G o → wFz od vs Ps G' o := fun ⟨h1, h2⟩ => ⟨h1, h2.m e⟩
section
variable {K : PySem.W.Frag} {Γ : Ctx} {td tk tv te : TE} {i : Nat} {P : Pr} {Ps : List (Key × Pr)} {k : Key}
theorem w_dnew : EvW tDNewK Γ (oD []) := fun F σ G H e Q q => fun p hp =>
  q (.ref p) [p] G (upd H p (.dK [])) (Gr.lay e.s hp) (fun a ha => by
    rw [List.mem_singleton.mp ha, upd_same]
    exact ⟨hp, e.s.free hp, fun z => nomatch z⟩) ⟨p, _, rfl, rfl, upd_same, [], rfl, trivial⟩
theorem own_dict {F : Fm} {σ : St} {G H : Hp} (e : EOk F Γ σ G H) (hi : Γ[i]? = some (.own (oD Ps))) : ∃ a vs, σ[i]? = some (some (.ref a)) ∧ H a = some (.dK vs) ∧ SatK G vs Ps ∧ ∀ ws Qs, SatK G ws Qs → EOk F (Γ.set i (.own (oD Qs))) σ G (upd H a (.dK ws)) := by
  obtain ⟨Ls, e1⟩ := e
  obtain ⟨v, h1, a, ob, h2, h3, h4, vs, h5, h6⟩ := (e1.at_ i _ hi).own_
  subst h2 h5
  refine ⟨a, vs, h1, h4, h6, fun ws Qs s => ?_⟩
  refine e1.mut (L := [a]) hi h1 (fun b hb _ => upd_ne fun z => hb (by rw [h3, z]; exact List.mem_singleton.mpr rfl)) ⟨a, .dK ws, rfl, rfl, upd_same, ws, rfl, s⟩ (fun b hb => .inl (h3 ▸ hb)) (fun b hb => ?_)
  rw [List.mem_singleton.mp hb, upd_same]
  exact fun z => nomatch z
/-- d[k] = e -/
theorem s_dput (hi : Γ[i]? = some (.own (oD Ps))) (hv : EvE tv Γ P) (hk : EvE tk Γ (pK k)) (hz : Ps.length < sizeLine) : StS (sDPut (tVar i) tk tv) Γ (.nx (Γ.set i (.own (oD (putT Ps k P))))) := fun F σ G H D e g =>
  hv F σ G H e _ fun v G1 H1 g1 p1 => by
    obtain ⟨a, vs, h1, _⟩ := own_dict (e.grow g1) hi
    refine ⟨.ref a, h1, hk F σ G1 H1 (e.grow g1) _ fun y G2 H2 g2 p2 => ?_⟩
    obtain ⟨b, ws, k1, k2, k3, k4⟩ := own_dict ((e.grow g1).grow g2) hi
    rw [h1] at k1
    cases k1
    exact ⟨a, _, rfl, .inl ⟨ws, k, k2, p2, by rw [k3.len]; exact hz, rfl⟩, g σ G2 _ (k4 _ _ (k3.put (P.m g2.g p1)))⟩
/-- d.setdefault(k, e) -/
theorem s_dsetd (hi : Γ[i]? = some (.own (oD Ps))) (hk : EvE tk Γ (pK k)) (hv : EvE tv Γ P) (hz : Ps.length < sizeLine) : StS (tDrop (tDSetd (tVar i) tk tv)) Γ (.nx (Γ.set i (.own (oD (if (valT Ps k).isSome = true then Ps else putT Ps k P))))) := fun F σ G H D e g => by
  obtain ⟨a, vs, h1, h2, _⟩ := own_dict e hi
  refine ⟨.ref a, h1, a, rfl, .inl ⟨vs, .inl h2⟩, hk F σ G H e _ fun y G1 H1 g1 p1 => hv F σ G1 H1 (e.grow g1) _ fun z G2 H2 g2 p2 => ?_⟩
  have e2 := (e.grow g1).grow g2
  obtain ⟨b, ws, k1, k2, k3, k4⟩ := own_dict e2 hi
  rw [h1] at k1
  cases k1
  have q := k3.val (k := k)
  refine ⟨ws, k, k2, p1, by rw [k3.len]; exact hz, fun v hv => ?_, fun hn => ?_⟩
  · have hs : (valT Ps k).isSome = true := by
      cases hq : valT Ps k with
      | none => rw [q.1 hq] at hv; cases hv
      | some _ => rfl
    refine g σ G2 H2 ?_
    rw [if_pos hs]
    have e3 := k4 ws Ps k3
    rw [show upd H2 a (.dK ws) = H2 from funext fun b => by
      by_cases z : b = a
      · rw [z, upd_same, k2]
      · rw [upd_ne z]] at e3
    exact e3
  · have hs : ¬(valT Ps k).isSome = true := fun hs => by
      cases hq : valT Ps k with
      | none => rw [hq] at hs; cases hs
      | some P =>
        obtain ⟨v, h, _⟩ := q.2 P hq
        rw [hn] at h
        cases h
    refine g σ G2 _ ?_
    rw [if_neg hs]
    exact k4 _ _ (k3.put p2)
/-- for k, v in d.items() -/
theorem s_forItems {S β : Type} {r : β → Pr} {kvs : List (Key × β)} {zs : List (Str × β)} {g : TG} {js : List Nat} {ts : TS} (Γs : Ow → S → Ctx) (Γx : Ow → S → Str × β → Ctx) (f : S → Str × β → Option S) (s0 : S) {out : S} (hi : ∀ W s, (Γs W s)[i]? = some (.own W)) (hset : ∀ W W' s, (Γs W s).set i (.own W') = Γs W' s)
    (hz : itemsS kvs = some zs) (hg : ∀ W s x, EvG g js (Γs W s) (r2 pS r x) (Γx W s x)) (hb : ∀ W s x s', x ∈ zs → f s x = some s' → StS ts (Γx W s x) (.nc (Γs W s'))) (hm : zs.foldlM f s0 = some out) :
    StS (tLock (tFor (iItems (tVar i)) g ts)) (Γs (oD (kvs.map (rK r))) s0) (.nx (Γs (oD (kvs.map (rK r))) out)) := fun F σ G H D ⟨Ls, e1⟩ gl => by
  obtain ⟨v, h1, d, ob, h2, h3, h4, vs, h5, h6⟩ := (e1.at_ i _ (hi _ _)).own_
  subst h2 h5
  refine ⟨d, .dK vs, h4, trivial, fun od => ?_⟩
  have lv : vs.length = kvs.length := by rw [h6.len, List.length_map]
  obtain ⟨l1, l2⟩ := itemsS_get hz
  let W : Ow := oAt (.ref d) (oW (wFz od vs (kvs.map (rK r))) wFz.m)
  have e2 : EOk F (Γs W s0) σ G (upd H d (.frz od (.dK vs))) := by
    rw [← hset (oD (kvs.map (rK r))) W s0]
    refine e1.mut (L := [d]) (hi _ _) h1 (fun b hb _ => upd_ne fun z => hb (by rw [h3, z]; exact List.mem_singleton.mpr rfl)) ⟨rfl, d, _, rfl, rfl, upd_same, rfl, h6⟩ (fun b hb => .inl (h3 ▸ hb)) (fun b hb => ?_)
    rw [List.mem_singleton.mp hb, upd_same]
    exact fun z => nomatch z
  have look : ∀ {σ' : St} {G' H' : Hp} {s : S}, EOk F (Γs W s) σ' G' H' → H' d = some (.frz od (.dK vs)) ∧ SatK G' vs (kvs.map (rK r)) ∧ EOk F (Γs (oD (kvs.map (rK r))) s) σ' G' (upd H' d (.dK vs)) := fun {σ' G' H' s} ⟨Ls', e'⟩ => by
    obtain ⟨v, q1, q2, d', ob, q3, q4, q5, q6, q7⟩ := (e'.at_ i _ (hi _ _)).own_
    subst q2 q6
    cases ref_inj q3
    refine ⟨q5, q7, ?_⟩
    rw [← hset W (oD (kvs.map (rK r))) s]
    refine e'.mut (L := [d]) (hi _ _) q1 (fun b hb _ => upd_ne fun z => hb (by rw [q4, z]; exact List.mem_singleton.mpr rfl)) ⟨d, _, rfl, rfl, upd_same, vs, rfl, q7⟩ (fun b hb => .inl (q4 ▸ hb)) (fun b hb => ?_)
    rw [List.mem_singleton.mp hb, upd_same]
    exact fun z => nomatch z
  refine ⟨.ref d, h1, d, od, vs, rfl, upd_same, ?_⟩
  refine for_it walk_items (fun j σ' H' => ∃ s G', (zs.drop j).foldlM f s = some out ∧ EOk F (Γs W s) σ' G' H') ⟨s0, G, hm, e2⟩ ?_ ?_ ?_
  · rintro j σ' H' _ ⟨s, G', _, e'⟩
    exact (look e').1
  · rintro j x σ' H' H2 hj ⟨s, G', hs, e'⟩ hy
    obtain ⟨T, a, b, hx, hT, hH, ha, hb'⟩ := hy
    subst hx hH
    obtain ⟨q1, q2, _⟩ := look e'
    have ha' : (vs[j]?).map (fun kv => kV kv.1) = some a := ha
    have hb2 : (vs[j]?).map Prod.snd = some b := hb'
    cases hv : vs[j]? with
    | none => rw [hv] at ha'; cases ha'
    | some kv =>
      rw [hv] at ha' hb2
      cases ha'
      cases hb2
      obtain ⟨y, hy1, hy2⟩ := satK_get (k := kv.1) (v := kv.2) q2 hv
      rw [l2 j] at hy1
      cases hzj : zs[j]? with
      | none => rw [hzj] at hy1; cases hy1
      | some z =>
        rw [hzj] at hy1
        have hy3 : (Sum.inr z.1, z.2) = (kv.1, y) := Option.some.inj hy1
        have gr : Gr G' H' _ _ := Gr.new (o := .tup [kV kv.1, kv.2]) e'.s hT
        obtain ⟨Ls', e''⟩ := e'.grow gr
        rw [drop_cons hzj, List.foldlM_cons] at hs
        have px : (r2 pS r z).p (upd G' T (.tup [kV kv.1, kv.2])) (.ref T) := ⟨T, _, rfl, upd_same, by
          rw [← congrArg Prod.fst hy3]; rfl, by
          have := (r y).m gr.g hy2
          rw [show z.2 = y from congrArg Prod.snd hy3]
          exact this, trivial⟩
        refine hg W s z F σ' _ _ Ls' (.ref T) e'' px _ fun σ3 e3 _ => ?_
        cases hf : f s z with
        | none => rw [hf] at hs; cases hs
        | some s' =>
          rw [hf] at hs
          exact hb W s z s' (List.mem_of_getElem? hzj) hf F σ3 _ _ _ ⟨Ls', e3⟩ fun σ4 G4 H4 e4 => ⟨⟨s', G4, hs, e4⟩, ⟨s', G4, hs, e4⟩⟩
  · rintro σ' H' ⟨s, G', hs, e'⟩
    rw [lv, l1, List.drop_length] at hs
    cases hs
    obtain ⟨q1, _, q3⟩ := look e'
    exact ⟨q1, gl _ _ _ q3⟩
end
end Y

set_option Elab.async false
set_option linter.all false
set_option maxRecDepth 100000
namespace Y
open PySem L2
section
variable {X : Cx} {K : PySem.W.Frag} {w : World} {Γ : Ctx} {te : TE}
theorem ix_kdictK (hK : X.K = K) (hw : X.w = w) : IxR X (rIxD K w) := by
  subst hK hw
  exact ix_kdict
/-- D[k], D a dict of texts of the module's own -/
theorem e_dicC {a : Addr} {tb : List (Str × Str)} {k v : Str} (hd : ∃ es n, KDict K w a es n) (h : isDicS K a tb = true) (hk : EvE te Γ (pS k)) (hv : lookS tb k = some v) : EvE (tOp (rIxD K w) (tC (.ref a)) te) Γ (pS v) := fun F σ G H e Q q =>
  hk F σ G H e _ fun y G1 H1 g1 p1 => by
    obtain ⟨es, n, D⟩ := hd
    obtain ⟨t, ht⟩ := isDicS_of h hv
    exact ⟨a, k, .str v, rfl, p1, ⟨es, n, _, D.at_, D.lit, ht, t, rfl⟩, q _ G1 H1 g1 rfl⟩
theorem k_P {k : Key} (h : EvE te Γ (pK k)) : EvE te Γ (pK k) := h
end
section
variable {K : PySem.W.Frag} {Γ Γ' : Ctx} {tk tv te : TE} {i : Nat} {α : Type} {r : α → Pr} {kvs zs : List (Key × α)} {a : α} {k : Key}
def dputM (kvs : List (Key × α)) (k : Key) (a : α) : Option (List (Key × α)) := if kvs.length < sizeLine then some (putT kvs k a) else none
def dsetdM (kvs : List (Key × α)) (k : Key) (a : α) : Option (List (Key × α)) := if kvs.length < sizeLine then some (if (valT kvs k).isSome = true then kvs else putT kvs k a) else none
theorem s_dputM (hi : Γ[i]? = some (.own (oD (kvs.map (rK r))))) (hv : EvE tv Γ (r a)) (hk : EvE tk Γ (pK k)) (h : dputM kvs k a = some zs) : StS (sDPut (tVar i) tk tv) Γ (.nx (Γ.set i (.own (oD (zs.map (rK r)))))) := by
  unfold dputM at h
  split at h
  · rename_i hz
    cases h
    rw [show (putT kvs k a).map (rK r) = putT (kvs.map (rK r)) k (r a) from putT_map r kvs k a]
    exact s_dput hi hv hk (by rw [List.length_map]; exact hz)
  · cases h
theorem s_dsetdM (hi : Γ[i]? = some (.own (oD (kvs.map (rK r))))) (hk : EvE tk Γ (pK k)) (hv : EvE tv Γ (r a)) (h : dsetdM kvs k a = some zs) : StS (tDrop (tDSetd (tVar i) tk tv)) Γ (.nx (Γ.set i (.own (oD (zs.map (rK r)))))) := by
  unfold dsetdM at h
  split at h
  · rename_i hz
    cases h
    have q := s_dsetd (Γ := Γ) (i := i) (tk := tk) (tv := tv) hi hk hv (by rw [List.length_map]; exact hz)
    have e : (valT (kvs.map (rK r)) k).isSome = (valT kvs k).isSome := by rw [show valT (kvs.map (rK r)) k = (valT kvs k).map r from valT_map r k kvs, Option.isSome_map]
    rw [e] at q
    by_cases hc : (valT kvs k).isSome = true
    · rw [if_pos hc] at q ⊢
      exact q
    · rw [if_neg hc] at q ⊢
      rw [show (putT kvs k a).map (rK r) = putT (kvs.map (rK r)) k (r a) from putT_map r kvs k a]
      exact q
  · cases h
theorem w_dnewM : EvW tDNewK Γ (oD (([] : List (Key × α)).map (rK r))) := w_dnew
end
end Y

set_option Elab.async false
set_option linter.all false
set_option maxRecDepth 100000
namespace Y
open PySem L2
/-! ### regions lent to what holds tuples at most -/
def NotT (o : HO) : Prop := ∀ vs, o ≠ .tup vs
def Ltx (G G' : Hp) : Prop := Gw G G' ∧ ∀ a o, G' a = some o → G a = some o ∨ NotT o
def NoX (P : Pr) : Prop := ∀ (G G' : Hp) (v : V), Ltx G G' → P.p G' v → P.p G v
theorem nx_pure {P : Pr} (h : Pure P) : NoX P := fun G G' v _ p => h _ _ v p
theorem sat_nx {Ps : List Pr} (h : ∀ P ∈ Ps, NoX P) {G G' : Hp} (g : Ltx G G') : ∀ {vs : List V}, Sat G' vs Ps → Sat G vs Ps := by
  induction Ps with
  | nil => intro vs s; cases vs with
    | nil => trivial
    | cons _ _ => exact s.elim
  | cons P Ps ih => intro vs s; cases vs with
    | nil => exact s.elim
    | cons v vs => exact ⟨h P List.mem_cons_self _ _ v g s.1, ih (fun P hP => h P (List.mem_cons_of_mem _ hP)) s.2⟩
theorem nx_T {Ps : List Pr} (h : ∀ P ∈ Ps, NoX P) : NoX (pT Ps) := fun G G' v g ⟨a, vs, h1, h2, h4⟩ => by
  rcases g.2 a _ h2 with q | q
  · exact ⟨a, vs, h1, q, sat_nx h g h4⟩
  · exact absurd rfl (q vs)
theorem nx_Opt {α : Type} {r : α → Pr} (h : ∀ a, NoX (r a)) : ∀ o : Option α, NoX (pOpt r o)
  | none => fun _ _ _ _ p => p
  | some a => h a
theorem nx_map {α : Type} {r : α → Pr} (h : ∀ a, NoX (r a)) (xs : List α) : ∀ P ∈ xs.map r, NoX P := fun P hP => by
  obtain ⟨y, _, e⟩ := List.mem_map.mp hP
  exact e ▸ h y
theorem nx_cons {P : Pr} {Ps : List Pr} (h : NoX P) (hs : ∀ P ∈ Ps, NoX P) : ∀ Q ∈ P :: Ps, NoX Q := fun Q hQ => by
  rcases List.mem_cons.mp hQ with e | e
  · exact e ▸ h
  · exact hs Q e
theorem nx_nil : ∀ Q ∈ ([] : List Pr), NoX Q := fun _ h => nomatch h
def NoXW (W : Ow) : Prop := ∀ (G G' H : Hp) (v : V) (L : List Addr), Ltx G G' → W.p G' H v L → W.p G H v L
theorem nxw_L {Ps : List Pr} (h : ∀ P ∈ Ps, NoX P) : NoXW (oL Ps) := fun G G' H v L g ⟨a, ob, h1, h2, h3, vs, h4, h5, h6⟩ => ⟨a, ob, h1, h2, h3, vs, h4, sat_nx h g h5, h6⟩
/-! no tuple within a region -/
def NtW (W : Ow) : Prop := ∀ (G H : Hp) (v : V) (L : List Addr), W.p G H v L → ∀ a ∈ L, ∃ o, H a = some o ∧ NotT o
theorem nt_V {P : Pr} : NtW (oV P) := fun G H v L ⟨h, _⟩ a ha => by rw [h] at ha; cases ha
theorem nt_At {x : V} {W : Ow} (h : NtW W) : NtW (oAt x W) := fun G H v L ⟨_, h2⟩ => h G H v L h2
theorem nt_L {Ps : List Pr} : NtW (oL Ps) := fun G H v L ⟨a, ob, h1, h2, h3, vs, h4, _⟩ b hb => by
  subst h2 h4
  rw [List.mem_singleton.mp hb]
  exact ⟨_, h3, fun _ z => nomatch z⟩
theorem nt_D {Ps : List (Key × Pr)} : NtW (oD Ps) := fun G H v L ⟨a, ob, h1, h2, h3, vs, h4, _⟩ b hb => by
  subst h2 h4
  rw [List.mem_singleton.mp hb]
  exact ⟨_, h3, fun _ z => nomatch z⟩
theorem nt_O {C : Addr} {ns : List Str} {Ps : List Pr} : NtW (oO C ns Ps) := fun G H v L ⟨a, ob, h1, h2, h3, dx, vs, h4, _⟩ b hb => by
  subst h2 h4
  rw [List.mem_singleton.mp hb]
  exact ⟨_, h3, fun _ z => nomatch z⟩
theorem sw_nt {Ws : List Ow} (h : ∀ W ∈ Ws, NtW W) {G H : Hp} : ∀ {vs : List V} {Ls : List (List Addr)}, SW G H vs Ws Ls → ∀ a ∈ Ls.flatten, ∃ o, H a = some o ∧ NotT o := by
  induction Ws with
  | nil => intro vs Ls s; match vs, Ls, s with
    | [], [], _ => exact fun a ha => nomatch ha
    | _ :: _, [], s => exact s.elim
    | [], _ :: _, s => exact s.elim
    | _ :: _, _ :: _, s => exact s.elim
  | cons W Ws ih => intro vs Ls s; match vs, Ls, s with
    | v :: vs, L :: Ls, s =>
      intro a ha
      rcases mem_fl.mp ha with q | q
      · exact h W List.mem_cons_self _ _ _ _ s.1 a q
      · exact ih (fun W hW => h W (List.mem_cons_of_mem _ hW)) s.2.2 a q
    | [], [], s => exact s.elim
    | _ :: _, [], s => exact s.elim
    | [], _ :: _, s => exact s.elim
theorem nt_Ls {Ws : List Ow} (h : ∀ W ∈ Ws, NtW W) : NtW (oLs Ws) := fun G H v L ⟨a, vs, Ls, h1, h2, h3, h4, h5, h6⟩ b hb => by
  subst h6
  rcases List.mem_cons.mp hb with q | q
  · rw [q]
    exact ⟨_, h2, fun _ z => nomatch z⟩
  · exact sw_nt h h3 b q
theorem nt_Os {C : Addr} {ns : List Str} {Ws : List Ow} (h : ∀ W ∈ Ws, NtW W) : NtW (oOs C ns Ws) := fun G H v L ⟨a, dx, vs, Ls, h1, h2, h3, h5, h6⟩ b hb => by
  subst h6
  rcases List.mem_cons.mp hb with q | q
  · rw [q]
    exact ⟨_, h2, fun _ z => nomatch z⟩
  · exact sw_nt h h3 b q
theorem nt_Ds {Ws : List (Key × Ow)} (h : ∀ W ∈ Ws.map (·.2), NtW W) : NtW (oDs Ws) := fun G H v L ⟨a, vs, Ls, h1, h2, h3, h4, h5, h6⟩ b hb => by
  subst h6
  rcases List.mem_cons.mp hb with q | q
  · rw [q]
    exact ⟨_, h2, fun _ z => nomatch z⟩
  · exact sw_nt h h4 b q
theorem nt_map {α : Type} {o : α → Ow} (h : ∀ a, NtW (o a)) (xs : List α) : ∀ W ∈ xs.map o, NtW W := fun W hW => by
  obtain ⟨y, _, e⟩ := List.mem_map.mp hW
  exact e ▸ h y
theorem nt_mapK {α : Type} {o : α → Ow} (h : ∀ a, NtW (o a)) (xs : List (Key × α)) : ∀ W ∈ (xs.map (oK o)).map (·.2), NtW W := by
  rw [map_rK_v]
  exact nt_map h _
theorem nt_cons {W : Ow} {Ws : List Ow} (h : NtW W) (hs : ∀ W ∈ Ws, NtW W) : ∀ Q ∈ W :: Ws, NtW Q := fun Q hQ => by
  rcases List.mem_cons.mp hQ with e | e
  · exact e ▸ h
  · exact hs Q e
theorem nt_nil : ∀ Q ∈ ([] : List Ow), NtW Q := fun _ h => nomatch h
section
variable {F : Fm} {Γ : Ctx} {σ : St} {G H G2 H2 : Hp} {Ls : Nat → List Addr} {i : Nat} {P : Pr} {W U : Ow} {te : TE} {Q1 : Pr}
theorem back_ltx {G' : Hp} (e : EOk1 F Γ σ G H Ls) (hi : Γ[i]? = some (.own U)) (l : NtW U) (g1 : Gw G G') (g3 : ∀ a, a ∉ Ls i → G' a = G a) (g : Gr G' H G2 H2) : ∃ G3, Gr G H G3 H2 ∧ Ltx G3 G2 := by
  obtain ⟨v, s1, hw⟩ := (e.at_ i _ hi).own_
  have hl := l _ _ _ _ hw
  have hG : ∀ a ∈ Ls i, G a = none := fun a ha => (e.fr i U hi a ha).1
  refine ⟨fun a => if a ∈ Ls i then none else G2 a, ⟨fun a o h => ?_, g.h, fun a o h => ?_, fun a ha ga => ?_⟩, fun a o h => ?_, fun a o h => ?_⟩
  · have : a ∉ Ls i := fun q => by rw [hG a q] at h; cases h
    show (if a ∈ Ls i then none else G2 a) = some o
    rw [if_neg this]
    exact g.g a o (g1 a o h)
  · have h : (if a ∈ Ls i then none else G2 a) = some o := h
    by_cases q : a ∈ Ls i
    · rw [if_pos q] at h
      cases h
    · rw [if_neg q] at h
      exact g.s a o h
  · show (if a ∈ Ls i then none else G2 a) = none
    by_cases q : a ∈ Ls i
    · rw [if_pos q]
    · rw [if_neg q]
      exact g.f a ha (by rw [g3 a q]; exact ga)
  · have h : (if a ∈ Ls i then none else G2 a) = some o := h
    by_cases q : a ∈ Ls i
    · rw [if_pos q] at h
      cases h
    · rw [if_neg q] at h
      exact h
  · show (if a ∈ Ls i then none else G2 a) = some o ∨ _
    by_cases q : a ∈ Ls i
    · obtain ⟨ob, z, nt⟩ := hl a q
      have := g.s a o h
      rw [g.h a _ z] at this
      cases this
      exact .inr nt
    · rw [if_neg q]
      exact .inl h
theorem w_lendX (hi : Γ[i]? = some (.own U)) (f : Frz U P) (l : NtW U) (p : NoXW W) (h : EvW te (Γ.set i (.val P)) W) : EvW te Γ W := fun F σ G H e R q => by
  obtain ⟨Ls, e1⟩ := id e
  obtain ⟨G', g1, g3, e'⟩ := e1.frz f hi
  exact h F σ G' H e' R fun v L G2 H2 g2 hL hw => by
    obtain ⟨G3, k1, k2⟩ := back_ltx e1 hi l g1 g3 g2
    exact q v L G3 H2 k1 (fun a ha => ⟨(hL a ha).1, k2.1.free (hL a ha).2.1, (hL a ha).2.2⟩) (p _ _ _ _ _ k2 hw)
theorem e_lendX (hi : Γ[i]? = some (.own U)) (f : Frz U P) (l : NtW U) (p : NoX Q1) (h : EvE te (Γ.set i (.val P)) Q1) : EvE te Γ Q1 := fun F σ G H e R q => by
  obtain ⟨Ls, e1⟩ := id e
  obtain ⟨G', g1, g3, e'⟩ := e1.frz f hi
  exact h F σ G' H e' R fun v G2 H2 g2 hw => by
    obtain ⟨G3, k1, k2⟩ := back_ltx e1 hi l g1 g3 g2
    exact q v G3 H2 k1 (p _ _ _ k2 hw)
end
end Y

set_option Elab.async false
set_option linter.all false
set_option maxRecDepth 100000
namespace Y
open PySem L2
/-! ### a dict's region by its key; pop as an expression; a packet that goes from one list of an object to another -/
def atK {α : Type} (kvs : List (Key × α)) (k : Key) : Option (Nat × α) := match ixK kvs k with
  | none => none
  | some j => (kvs[j]?).map fun kv => (j, kv.2)
def popM {α : Type} (xs : List α) (k : Int) : Option (α × List α) := if -(2 ^ 63) ≤ k ∧ k < 2 ^ 63 then (match seqIndex? k xs.length with
  | none => none
  | some m => (xs[m]?).map fun x => (x, xs.eraseIdx m)) else none
theorem atK_ix {α : Type} {kvs : List (Key × α)} {k : Key} {jv : Nat × α} (h : atK kvs k = some jv) : ixK kvs k = some jv.1 ∧ (kvs.map (·.2))[jv.1]? = some jv.2 := by
  unfold atK at h
  cases hq : ixK kvs k with
  | none => rw [hq] at h; cases h
  | some j =>
    rw [hq] at h
    cases hg : kvs[j]? with
    | none =>
      have h' : (kvs[j]?).map (fun kv => (j, kv.2)) = some jv := h
      rw [hg] at h'
      cases h'
    | some kv =>
      have h' : (kvs[j]?).map (fun kv => (j, kv.2)) = some jv := h
      rw [hg] at h'
      cases h'
      exact ⟨rfl, by rw [List.getElem?_map, hg]; rfl⟩
theorem ixK_map {α β : Type} {o : α → β} {k : Key} {kvs : List (Key × α)} : ixK (kvs.map fun kv => (kv.1, o kv.2)) k = ixK kvs k := ixK_keys (map_rK_k kvs)
theorem popM_ix {α : Type} {xs : List α} {k : Int} {xy : α × List α} (h : popM xs k = some xy) : (-(2 ^ 63) ≤ k ∧ k < 2 ^ 63) ∧ ∃ m, seqIndex? k xs.length = some m ∧ xs[m]? = some xy.1 ∧ xy.2 = xs.eraseIdx m := by
  unfold popM at h
  split at h
  · rename_i hb
    refine ⟨hb, ?_⟩
    cases hq : seqIndex? k xs.length with
    | none => rw [hq] at h; cases h
    | some m =>
      rw [hq] at h
      have h' : (xs[m]?).map (fun x => (x, xs.eraseIdx m)) = some xy := h
      cases hg : xs[m]? with
      | none => rw [hg] at h'; cases h'
      | some x =>
        rw [hg] at h'
        cases h'
        exact ⟨m, rfl, hg, rfl⟩
  · cases h
theorem erase_map {α β : Type} {r : α → β} : ∀ {xs : List α} (m : Nat), (xs.map r).eraseIdx m = (xs.eraseIdx m).map r
  | [], _ => rfl
  | _ :: _, 0 => rfl
  | _ :: xs, m + 1 => congrArg (_ :: ·) (erase_map (xs := xs) m)
theorem setK_setK {α : Type} {x y : α} : ∀ {xs : List (Key × α)} {j : Nat}, setK (setK xs j x) j y = setK xs j y
  | [], j => by cases j <;> rfl
  | _ :: _, 0 => rfl
  | p :: q, j + 1 => congrArg (p :: ·) (setK_setK (xs := q) (j := j))
section
variable {K : PySem.W.Frag} {Γ Γ1 : Ctx} {tp te ti t0 t1 t2 tk : TE} {i j n : Nat} {U U' W : Ow} {put : Ow → Ow → Prop} {W' : Ow} {P : Pr} {k : Key} {α : Type} {o : α → Ow} {r : α → Pr} {kvs : List (Key × α)} {xs : List α}
theorem f_dkM {jv : Nat × α} (hp : EvF tp Γ i (oDs (kvs.map (oK o))) put) (hi : EvE ti Γ (pK k)) (h : atK kvs k = some jv) : EvF (tDGet tp ti) Γ i (o jv.2) (fun U' W' => ∃ x', U' = o x' ∧ put (oDs ((setK kvs jv.1 x').map (oK o))) W') := by
  obtain ⟨h1, h2⟩ := atK_ix h
  refine (f_dk (j := jv.1) hp hi (by rw [ixK_map]; exact h1) (by rw [map_rK_v, List.getElem?_map, h2]; rfl)).mono fun U' W' ⟨x', e1, e2⟩ => ?_
  subst e1
  show put (oDs (setK (kvs.map fun kv => (kv.1, o kv.2)) jv.1 (o x'))) W'
  rw [setK_map]
  exact e2
theorem v_popM {c : Int} {xy : α × List α} (hp : EvF tp Γ i (oL (xs.map r)) put) (hk : EvE ti Γ (pI c)) (h : popM xs c = some xy) (pw : put (oL (xy.2.map r)) W') (hc : Γ.set i (.own W') = Γ1) : EvV (tBM K "list" rPopAt tp (tCons ti tNil)) Γ Γ1 (r xy.1) := by
  obtain ⟨hb, m, h1, h2, h3⟩ := popM_ix h
  refine v_popAt (m := m) hp hk hb (by rw [List.length_map]; exact h1) (by rw [List.getElem?_map, h2]; rfl) ?_ hc
  rw [h3] at pw
  have e : (xs.map r).eraseIdx m = (xs.eraseIdx m).map r := erase_map m
  rw [e]
  exact pw
abbrev oQ (r : α → Pr) : List α → Ow := fun l => oL (l.map r)
abbrev oQD (r : α → Pr) : List (Key × List α) → Ow := fun q => oDs (q.map (oK (oQ r)))
/-- root.f1[c1][k].append(root.f2[c2].pop(p0)) -/
theorem s_moveQ {C : Addr} {ns : List Str} {Ws : List Ow} {j1 j2 : Nat} {z : V} {f1 f2 : Str} {qs qs' : List (List (Key × List α))} {os os' : List (List α)} {q0 : List (Key × List α)} {o0 l1 : List α} {jv : Nat × List α} {xo : α × List α} {c1 c2 p0 : Int}
    (hi : Γ[i]? = some (.own (oAt z (oOs C ns Ws)))) (hW1 : Ws[j1]? = some (oLs (qs.map (oQD r)))) (hW2 : Ws[j2]? = some (oLs (os.map (oQ r)))) (hne : j1 ≠ j2) (c : Cls K C) (n1 : NoAttr K C f1) (n2 : NoAttr K C f2) (nd : ns.Nodup) (hf1 : ns[j1]? = some f1) (hf2 : ns[j2]? = some f2)
    (hc1 : EvE t1 Γ (pI c1)) (hk : EvE tk Γ (pK k)) (hc2 : ∀ W, EvE t2 (Γ.set i (.own W)) (pI c2)) (h0 : ∀ W, EvE t0 (Γ.set i (.own W)) (pI p0))
    (m1 : atI qs c1 = some q0) (m2 : atK q0 k = some jv) (m3 : atI os c2 = some o0) (m4 : popM o0 p0 = some xo) (m5 : appM jv.2 xo.1 = some l1) (m6 : setM os c2 xo.2 = some os') (m7 : setM qs c1 (setK q0 jv.1 l1) = some qs') (hc : Γ.set i (.own (oAt z (oOs C ns ((Ws.set j1 (oLs (qs'.map (oQD r)))).set j2 (oLs (os'.map (oQ r))))))) = Γ1) :
    StS (tDrop (tBM K "list" rAppend (tDGet (tOp (rIxL K) (tFld K (tVar i) f1) t1) tk) (tCons (tBM K "list" rPopAt (tOp (rIxL K) (tFld K (tVar i) f2) t2) (tCons t0 tNil)) tNil))) Γ (.nx Γ1) := by
  subst hc
  obtain ⟨i1, a1, a2⟩ := atI_ix m1
  obtain ⟨b1, b2⟩ := atK_ix m2
  obtain ⟨i2, d1, d2⟩ := setM_ix m6
  obtain ⟨i1', e1, e2⟩ := setM_ix m7
  rw [a1] at e1
  cases e1
  obtain ⟨g1, g2⟩ := if_some m5
  have hil : i < Γ.length := lt_of_get hi
  have hj1 : j1 < Ws.length := lt_of_get hW1
  have hj2 : j2 < Ws.length := lt_of_get hW2
  have hi1 : i1 < qs.length := lt_of_get a2
  -- the first way
  have w0 := f_fld c n1 nd hf1 hW1 (f_at (f_var hi))
  have w1 := f_ix (K := K) (j := i1) w0 hc1 (by rw [List.length_map]; exact a1) (by rw [List.getElem?_map, a2]; rfl)
  have w2 := f_dk (j := jv.1) w1 hk (by rw [ixK_map]; exact b1) (U := oQ r jv.2) (by rw [map_rK_v, List.getElem?_map, b2]; rfl)
  let A (u : Ow) : Ow := oLs ((qs.map (oQD r)).set i1 (oDs (setK (q0.map (oK (oQ r))) jv.1 u)))
  let B : Ow := oLs (os'.map (oQ r))
  have hB : B = oLs ((os.map (oQ r)).set i2 (oQ r xo.2)) := by
    show oLs _ = _
    rw [d2, List.map_set]
  refine s_appFV (W' := oAt z (oOs C ns ((Ws.set j1 (oLs (qs'.map (oQD r)))).set j2 (oLs (os'.map (oQ r)))))) (P := r xo.1) (Qs := jv.2.map r) (Ps := jv.2.map r) (Wx := fun x => oAt z (oOs C ns (Ws.set j1 (A (oAt x (oQ r jv.2)))))) (W1 := fun x => oAt z (oOs C ns ((Ws.set j1 (A (oAt x (oQ r jv.2)))).set j2 B)))
    (Γx := fun x => (Γ.set i (.own (oAt z (oOs C ns (Ws.set j1 (A (oAt x (oQ r jv.2)))))))).set i (.own (oAt z (oOs C ns ((Ws.set j1 (A (oAt x (oQ r jv.2)))).set j2 B)))))
    (put1 := fun x U' N => ∃ M1, (∃ M2, (∃ M3, (∃ M4, M4 = U' ∧ M3 = oDs (setK (setK (q0.map (oK (oQ r))) jv.1 (oAt x (oQ r jv.2))) jv.1 M4)) ∧ M2 = oLs (((qs.map (oQD r)).set i1 (oDs (setK (q0.map (oK (oQ r))) jv.1 (oAt x (oQ r jv.2))))).set i1 M3)) ∧ M1 = oOs C ns (((Ws.set j1 (A (oAt x (oQ r jv.2)))).set j2 B).set j1 M2)) ∧ N = oAt z M1)
    w2 (fun x => rfl) (fun x => ?_) (fun x => ?_) (fun x => ?_) (by rw [List.length_map]; exact g1) (fun x => ⟨_, ⟨_, ⟨_, ⟨_, rfl, rfl⟩, rfl⟩, rfl⟩, ?_⟩) (fun x => ?_)
  · have s1 : (Γ.set i (.own (oAt z (oOs C ns (Ws.set j1 (A (oAt x (oQ r jv.2))))))))[i]? = some (.own (oAt z (oOs C ns (Ws.set j1 (A (oAt x (oQ r jv.2))))))) := List.getElem?_set_self hil
    obtain ⟨i2', q1, q2⟩ := atI_ix m3
    rw [d1] at q1
    cases q1
    have v0 := f_fld c n2 nd hf2 (U := oLs (os.map (oQ r))) (by rw [List.getElem?_set_ne hne]; exact hW2) (f_at (f_var s1))
    have v1 := f_ix (K := K) (j := i2) v0 (hc2 _) (by rw [List.length_map]; exact d1) (U := oQ r o0) (by rw [List.getElem?_map, q2]; rfl)
    refine v_popM (xs := o0) (r := r) v1 (h0 _) m4 ?_ rfl
    show oAt z (oOs C ns ((Ws.set j1 _).set j2 (oLs ((os.map (oQ r)).set i2 (oQ r xo.2))))) = _
    rw [← hB]
  · rw [List.set_set]
    exact List.getElem?_set_self hil
  · refine nav_under (nav_os (j := j1) (M := A (oAt x (oQ r jv.2))) ?_ (nav_ls (j := i1) (M := oDs (setK (q0.map (oK (oQ r))) jv.1 (oAt x (oQ r jv.2)))) ?_ (nav_ds (j := jv.1) ?_ nav_at0)))
    · rw [List.getElem?_set_ne (Ne.symm hne), List.getElem?_set_self hj1]
    · exact List.getElem?_set_self (by rw [List.length_map]; exact hi1)
    · have hl : jv.1 < ((q0.map (oK (oQ r))).map (·.2)).length := by
        rw [map_rK_v, List.length_map]
        exact lt_of_get b2
      rw [setK_v, List.getElem?_set_self hl]
  · rw [setK_setK, List.set_set]
    have h1 : (oDs (setK (q0.map (oK (oQ r))) jv.1 (oL (jv.2.map r ++ [r xo.1])))) = oQD r (setK q0 jv.1 l1) := by
      show _ = oDs _
      rw [← g2]
      show _ = oDs ((setK q0 jv.1 (jv.2 ++ [xo.1])).map fun kv => (kv.1, oQ r kv.2))
      rw [← setK_map]
      show _ = oDs (setK _ _ (oL ((jv.2 ++ [xo.1]).map r)))
      rw [List.map_append]
      rfl
    rw [h1, ← List.map_set, ← e2, List.set_comm _ _ (Ne.symm hne), List.set_set]
  · rw [List.set_set, List.set_set]
end
end Y

set_option Elab.async false
set_option linter.all false
set_option maxRecDepth 100000
namespace Y
open PySem L2
/-! ### dicts within a region, locked while their values are walked -/
def lockH (H : Hp) (ds : List Addr) (ods : Addr → Obj) : Hp := fun a => if a ∈ ds then (H a).map (HO.frz (ods a)) else H a
def unlk (H' : Hp) (ds : List Addr) (H : Hp) : Hp := fun a => if a ∈ ds then H a else H' a
theorem lockH_out {H : Hp} {ds : List Addr} {ods : Addr → Obj} {a : Addr} (h : a ∉ ds) : lockH H ds ods a = H a := if_neg h
theorem lockH_in {H : Hp} {ds : List Addr} {ods : Addr → Obj} {a : Addr} {u : HO} (h : a ∈ ds) (e : H a = some u) : lockH H ds ods a = some (.frz (ods a) u) := by
  unfold lockH
  rw [if_pos h, e]; rfl
def lockN : Nat → TE → TE
  | 0, t => t
  | n + 1, t => tLockE (lockN n t)
def tLocks (t : TE) : TE := fun σ H Q => ∃ n, lockN n t σ H Q
theorem pe_lockN {X : Cx} {e : Expr} {t : TE} (h : PE X e t) : ∀ n, PE X e (lockN n t)
  | 0 => h
  | n + 1 => pe_lock (pe_lockN h n)
theorem pe_locks {X : Cx} {e : Expr} {t : TE} (h : PE X e t) : PE X e (tLocks t) :=
  ⟨fun a b c H d I hn => let ⟨n, hn⟩ := hn; (pe_lockN h n).run a b c H d I hn⟩
theorem lockN_read {te : TE} {σ : St} : ∀ {ds : List Addr} {H : Hp} {R : VK} (post : (Addr → Obj) → V → Hp → Prop), ds.Nodup → (∀ a ∈ ds, ∃ kvs, H a = some (.dK kvs)) → (∀ (ods : Addr → Obj) (Q : VK), (∀ v H', post ods v H' → Q v H') → te σ (lockH H ds ods) Q) →
    (∀ ods v H', post ods v H' → (∀ a ∈ ds, H' a = lockH H ds ods a) ∧ R v (unlk H' ds H)) → lockN ds.length te σ H R
  | [], H, R, post, _, _, ht, hp => by
    have o0 : Obj := ⟨.none, none, .plain, #[]⟩
    have e : lockH H [] (fun _ => o0) = H := rfl
    have q := ht (fun _ => o0) R fun v H' h => (hp _ v H' h).2
    rw [e] at q
    exact q
  | d :: ds, H, R, post, nd, hd, ht, hp => by
    obtain ⟨nd1, nd2⟩ := List.nodup_cons.mp nd
    obtain ⟨kvs, hk⟩ := hd d List.mem_cons_self
    refine ⟨d, .dK kvs, hk, trivial, fun od => ?_⟩
    have ne : ∀ {a : Addr}, a ∈ ds → a ≠ d := fun ha z => nd1 (z ▸ ha)
    have eq : ∀ ods : Addr → Obj, lockH (upd H d (.frz od (.dK kvs))) ds ods = lockH H (d :: ds) (fun a => if a = d then od else ods a) := fun ods => funext fun a => by
      unfold lockH
      by_cases z : a = d
      · subst z
        rw [if_neg nd1, if_pos List.mem_cons_self, upd_same, hk]
        show _ = some (HO.frz (if a = a then od else ods a) _)
        rw [if_pos rfl]
      · rw [upd_ne z, show (fun a => if a = d then od else ods a) a = ods a from if_neg z]
        by_cases q : a ∈ ds
        · rw [if_pos q, if_pos (List.mem_cons_of_mem _ q)]
        · rw [if_neg q, if_neg fun m => (List.mem_cons.mp m).elim z q]
    refine lockN_read (fun ods => post (fun a => if a = d then od else ods a)) nd2 (fun a ha => ?_) (fun ods Q hQ => ?_) (fun ods v H' h => ?_)
    · rw [upd_ne (ne ha)]
      exact hd a (List.mem_cons_of_mem _ ha)
    · rw [eq]
      exact ht _ Q hQ
    · obtain ⟨h1, h2⟩ := hp _ v H' h
      refine ⟨fun a ha => by rw [eq]; exact h1 a (List.mem_cons_of_mem _ ha), ?_, ?_⟩
      · unfold unlk
        rw [if_neg nd1, h1 d List.mem_cons_self, lockH_in List.mem_cons_self hk, if_pos rfl]
      · have e : upd (unlk H' ds (upd H d (.frz od (.dK kvs)))) d (.dK kvs) = unlk H' (d :: ds) H := funext fun a => by
          by_cases z : a = d
          · subst z
            rw [upd_same]
            unfold unlk
            rw [if_pos List.mem_cons_self, hk]
          · rw [upd_ne z]
            unfold unlk
            by_cases q : a ∈ ds
            · rw [if_pos q, if_pos (List.mem_cons_of_mem _ q), upd_ne z]
            · rw [if_neg q, if_neg fun m => (List.mem_cons.mp m).elim z q]
        rw [e]
        exact h2
/-! a region read with its dicts locked -/
def pDz (Ps : List (Key × Pr)) : Pr := ⟨fun H v => ∃ a od vs, v = .ref a ∧ H a = some (.frz od (.dK vs)) ∧ SatK H vs Ps, fun e ⟨a, od, vs, h1, h2, h3⟩ => ⟨a, od, vs, h1, e _ _ h2, h3.m e⟩⟩
structure LkIn (G H : Hp) (vs : List V) (L : List Addr) (ds : List Addr) (Ps : List Pr) : Prop where
  sub : ∀ a ∈ ds, a ∈ L
  nd : ds.Nodup
  di : ∀ a ∈ ds, ∃ kvs, H a = some (.dK kvs)
  go : ∀ (G' H' : Hp) (ods : Addr → Obj), Gw G G' → Gw G' H' → (∀ a ∈ L, H' a = H a) → (∀ a ∈ L, G' a = none) → ∃ G2, Gw G' G2 ∧ Gw G2 (lockH H' ds ods) ∧ (∀ a, a ∉ L → G2 a = G' a) ∧ Sat G2 vs Ps
def Lk (W : Ow) (P : Pr) : Prop := ∀ (G H : Hp) (v : V) (L : List Addr), W.p G H v L → ∃ ds, LkIn G H [v] L ds [P]
theorem lk_frz {W : Ow} {P : Pr} (f : Frz W P) : Lk W P := fun G H v L h => ⟨[], (fun _ z => nomatch z), List.nodup_nil, (fun _ z => nomatch z), fun G' H' ods g s e n => by
  obtain ⟨G2, g1, g2, g3, g4⟩ := f G' H' v L s n (W.m g e h)
  exact ⟨G2, g1, g2, g3, g4, trivial⟩⟩
theorem lk_At {x : V} {W : Ow} {P : Pr} (f : Lk W P) : Lk (oAt x W) P := fun G H v L h => f G H v L h.2
inductive LkA : List Ow → List Pr → Prop where
  | nil : LkA [] []
  | cons {W : Ow} {P : Pr} {Ws : List Ow} {Ps : List Pr} : Lk W P → LkA Ws Ps → LkA (W :: Ws) (P :: Ps)
theorem lkA_map {α : Type} {o : α → Ow} {r : α → Pr} (h : ∀ a, Lk (o a) (r a)) : ∀ xs : List α, LkA (xs.map o) (xs.map r)
  | [] => .nil
  | x :: xs => .cons (h x) (lkA_map h xs)
theorem lk_A {Ws : List Ow} {Ps : List Pr} (f : LkA Ws Ps) : ∀ {G H : Hp} {vs : List V} {Ls : List (List Addr)}, SW G H vs Ws Ls → ∃ ds, LkIn G H vs Ls.flatten ds Ps := by
  induction f with
  | nil =>
    intro G H vs Ls h
    match vs, Ls, h with
    | [], [], _ => exact ⟨[], (fun _ z => nomatch z), List.nodup_nil, (fun _ z => nomatch z), fun G' H' ods g s e n => ⟨G', Gw.refl _, s, fun _ _ => rfl, trivial⟩⟩
  | cons f _ ih =>
    intro G H vs Ls h
    match vs, Ls, h with
    | v :: vs, L :: Ls, h =>
      obtain ⟨d1, k1⟩ := f G H v L h.1
      obtain ⟨d2, k2⟩ := ih h.2.2
      have dj : ∀ a ∈ d1, a ∉ d2 := fun a h1 h2 => h.2.1 a (k1.sub a h1) (k2.sub a h2)
      refine ⟨d1 ++ d2, fun a ha => ?_, ?_, fun a ha => ?_, fun G' H' ods g s e n => ?_⟩
      · rcases List.mem_append.mp ha with z | z
        · exact mem_fl.mpr (.inl (k1.sub a z))
        · exact mem_fl.mpr (.inr (k2.sub a z))
      · exact List.nodup_append.mpr ⟨k1.nd, k2.nd, fun a ha b hb z => dj a ha (z ▸ hb)⟩
      · rcases List.mem_append.mp ha with z | z
        · exact k1.di a z
        · exact k2.di a z
      · obtain ⟨G2, a1, a2, a3, a4⟩ := k1.go G' H' ods g s (fun a ha => e a (mem_fl.mpr (.inl ha))) (fun a ha => n a (mem_fl.mpr (.inl ha)))
        have off1 : ∀ a ∈ Ls.flatten, a ∉ L := fun a ha z => h.2.1 a z ha
        obtain ⟨G3, b1, b2, b3, b4⟩ := k2.go G2 (lockH H' d1 ods) ods (g.trans a1) a2 (fun a ha => by
          rw [lockH_out fun z => off1 a ha (k1.sub a z)]
          exact e a (mem_fl.mpr (.inr ha))) (fun a ha => by
          rw [a3 a (off1 a ha)]
          exact n a (mem_fl.mpr (.inr ha)))
        refine ⟨G3, a1.trans b1, ?_, fun a ha => ?_, Pr.m _ b1 a4.1, b4⟩
        · have eq : lockH (lockH H' d1 ods) d2 ods = lockH H' (d1 ++ d2) ods := funext fun a => by
            unfold lockH
            by_cases z : a ∈ d2
            · rw [if_pos z, if_neg fun q => dj a q z, if_pos (List.mem_append.mpr (.inr z))]
            · rw [if_neg z]
              by_cases q : a ∈ d1
              · rw [if_pos q, if_pos (List.mem_append.mpr (.inl q))]
              · rw [if_neg q, if_neg fun m => (List.mem_append.mp m).elim q z]
          rw [← eq]
          exact b2
        · rw [b3 a fun z => ha (mem_fl.mpr (.inr z)), a3 a fun z => ha (mem_fl.mpr (.inl z))]
theorem lk_Ls {Ws : List Ow} {Ps : List Pr} (f : LkA Ws Ps) : Lk (oLs Ws) (pL Ps) := fun G H v L ⟨a, vs, Ls, h1, h2, h3, h4, h5, h6⟩ => by
  subst h6
  obtain ⟨ds, k⟩ := lk_A f h3
  have na : a ∉ ds := fun z => h5 (k.sub a z)
  refine ⟨ds, fun b hb => List.mem_cons_of_mem _ (k.sub b hb), k.nd, k.di, fun G' H' ods g s e n => ?_⟩
  obtain ⟨G2, a1, a2, a3, a4⟩ := k.go G' H' ods g s (fun b hb => e b (List.mem_cons_of_mem _ hb)) (fun b hb => n b (List.mem_cons_of_mem _ hb))
  have ga : G2 a = none := by rw [a3 a h5]; exact n a List.mem_cons_self
  refine ⟨upd G2 a (.lst vs), a1.trans (Gw.new ga), fun b u hb => ?_, fun b hb => ?_, ⟨a, _, h1, upd_same, vs, rfl, a4.m (Gw.new ga), h4⟩, trivial⟩
  · by_cases z : b = a
    · subst z
      rw [upd_same] at hb
      cases hb
      rw [lockH_out na, e b List.mem_cons_self]
      exact h2
    · rw [upd_ne z] at hb
      exact a2 b u hb
  · rw [upd_ne fun z => hb (by rw [z]; exact List.mem_cons_self)]
    exact a3 b fun z => hb (List.mem_cons_of_mem _ z)
theorem lk_Os {C : Addr} {ns : List Str} {Ws : List Ow} {Ps : List Pr} (f : LkA Ws Ps) : Lk (oOs C ns Ws) (pO C ns Ps) := fun G H v L ⟨a, dx, vs, Ls, h1, h2, h3, h5, h6⟩ => by
  subst h6
  obtain ⟨ds, k⟩ := lk_A f h3
  have na : a ∉ ds := fun z => h5 (k.sub a z)
  refine ⟨ds, fun b hb => List.mem_cons_of_mem _ (k.sub b hb), k.nd, k.di, fun G' H' ods g s e n => ?_⟩
  obtain ⟨G2, a1, a2, a3, a4⟩ := k.go G' H' ods g s (fun b hb => e b (List.mem_cons_of_mem _ hb)) (fun b hb => n b (List.mem_cons_of_mem _ hb))
  have ga : G2 a = none := by rw [a3 a h5]; exact n a List.mem_cons_self
  refine ⟨upd G2 a (.ins C dx (ns.zip vs)), a1.trans (Gw.new ga), fun b u hb => ?_, fun b hb => ?_, ⟨a, _, h1, upd_same, dx, vs, rfl, a4.m (Gw.new ga)⟩, trivial⟩
  · by_cases z : b = a
    · subst z
      rw [upd_same] at hb
      cases hb
      rw [lockH_out na, e b List.mem_cons_self]
      exact h2
    · rw [upd_ne z] at hb
      exact a2 b u hb
  · rw [upd_ne fun z => hb (by rw [z]; exact List.mem_cons_self)]
    exact a3 b fun z => hb (List.mem_cons_of_mem _ z)
theorem lk_Ds {Ws : List (Key × Ow)} {Ps : List (Key × Pr)} (hk : Ws.map (·.1) = Ps.map (·.1)) (f : LkA (Ws.map (·.2)) (Ps.map (·.2))) : Lk (oDs Ws) (pDz Ps) := fun G H v L ⟨a, vs, Ls, h1, h2, h0, h3, h5, h6⟩ => by
  subst h6
  obtain ⟨ds, k⟩ := lk_A f h3
  have na : a ∉ ds := fun z => h5 (k.sub a z)
  refine ⟨a :: ds, fun b hb => ?_, List.nodup_cons.mpr ⟨na, k.nd⟩, fun b hb => ?_, fun G' H' ods g s e n => ?_⟩
  · rcases List.mem_cons.mp hb with z | z
    · rw [z]; exact List.mem_cons_self
    · exact List.mem_cons_of_mem _ (k.sub b z)
  · rcases List.mem_cons.mp hb with z | z
    · rw [z]; exact ⟨vs, h2⟩
    · exact k.di b z
  obtain ⟨G2, a1, a2, a3, a4⟩ := k.go G' H' ods g s (fun b hb => e b (List.mem_cons_of_mem _ hb)) (fun b hb => n b (List.mem_cons_of_mem _ hb))
  have ga : G2 a = none := by rw [a3 a h5]; exact n a List.mem_cons_self
  have ha : H' a = some (.dK vs) := by rw [e a List.mem_cons_self]; exact h2
  refine ⟨upd G2 a (.frz (ods a) (.dK vs)), a1.trans (Gw.new ga), fun b u hb => ?_, fun b hb => ?_, ⟨a, _, vs, h1, upd_same, (satK_of (h0.trans hk) a4).m (Gw.new ga)⟩, trivial⟩
  · by_cases z : b = a
    · subst z
      rw [upd_same] at hb
      cases hb
      exact lockH_in List.mem_cons_self ha
    · rw [upd_ne z] at hb
      have q := a2 b u hb
      unfold lockH at q ⊢
      by_cases m : b ∈ ds
      · rw [if_pos m] at q
        rw [if_pos (List.mem_cons_of_mem _ m)]
        exact q
      · rw [if_neg m] at q
        rw [if_neg fun w => (List.mem_cons.mp w).elim z m]
        exact q
  · rw [upd_ne fun z => hb (by rw [z]; exact List.mem_cons_self)]
    exact a3 b fun z => hb (List.mem_cons_of_mem _ z)
theorem lk_DsM {α : Type} {o : α → Ow} {r : α → Pr} (h : ∀ a, Lk (o a) (r a)) (kvs : List (Key × α)) : Lk (oDs (kvs.map (oK o))) (pDz (kvs.map (rK r))) :=
  lk_Ds (by rw [map_rK_k, map_rK_k]) (by rw [map_rK_v, map_rK_v]; exact lkA_map h _)
end Y

set_option Elab.async false
set_option linter.all false
set_option maxRecDepth 100000
namespace Y
open PySem L2
section
variable {F : Fm} {Γ : Ctx} {σ : St} {G H : Hp} {Ls : Nat → List Addr} {i : Nat} {P Q1 : Pr} {W : Ow} {te : TE}
theorem EOk1.lock (e : EOk1 F Γ σ G H Ls) (f : Lk W P) (hi : Γ[i]? = some (.own W)) : ∃ ds, ds.Nodup ∧ (∀ a ∈ ds, ∃ kvs, H a = some (.dK kvs)) ∧ (∀ a ∈ ds, G a = none) ∧ ∀ ods, ∃ G', EOk F (Γ.set i (.val P)) σ G' (lockH H ds ods) := by
  obtain ⟨v, s1, hw⟩ := (e.at_ i _ hi).own_
  obtain ⟨ds, k⟩ := f G H v (Ls i) hw
  refine ⟨ds, k.nd, k.di, fun a ha => (e.fr i W hi a (k.sub a ha)).1, fun ods => ?_⟩
  obtain ⟨G', g1, g2, g3, hp⟩ := k.go G H ods (Gw.refl G) e.gr.s (fun _ _ => rfl) (fun a ha => (e.fr i W hi a ha).1)
  have bk : ∀ {j : Nat} {W1 : Ow}, (Γ.set i (.val P))[j]? = some (.own W1) → i ≠ j ∧ Γ[j]? = some (.own W1) := fun {j W1} hj => by
    rcases set_get hj with ⟨_, _, z⟩ | ⟨z, h⟩
    · cases z
    · exact ⟨z, h⟩
  have lo : ∀ {a : Addr}, (a ∈ Ls i → False) → lockH H ds ods a = H a := fun {a} n => lockH_out fun z => n (k.sub a z)
  have nn : ∀ {a : Addr}, H a ≠ none → lockH H ds ods a ≠ none := fun {a} h => by
    unfold lockH
    split
    · cases hq : H a with
      | none => exact absurd hq h
      | some o => exact fun z => nomatch z
    · exact h
  refine ⟨G', Ls, ⟨e.gr.g.trans g1, fun a o h => ?_, g2, fun a ha ga => ?_⟩, F.m g1 e.x, by rw [List.length_set]; exact e.len, fun j sl hj => ?_, fun j W1 hj a ha => ?_, fun j k W1 W2 hj hk => e.dis j k W1 W2 (bk hj).2 (bk hk).2⟩
  · rw [lo fun q => by rw [(e.fr i W hi a q).2.1] at h; cases h]
    exact e.gr.h a o h
  · rw [g3 a fun q => ha (e.fr i W hi a q).2.1]
    exact e.gr.f a ha ga
  · rcases set_get hj with ⟨rfl, _, rfl⟩ | ⟨z, hj⟩
    · rw [s1]
      exact hp.1
    · exact (e.at_ j sl hj).go g1 (fun W1 hW a ha => lo fun q => e.dis j i W1 W (hW ▸ hj) hi (Ne.symm z) a ha q)
  · obtain ⟨z, hj⟩ := bk hj
    have fr := e.fr j W1 hj a ha
    exact ⟨by rw [g3 a fun q => e.dis j i W1 W hj hi (Ne.symm z) a ha q]; exact fr.1, fr.2.1, nn fr.2.2⟩
theorem e_lendZ (hi : Γ[i]? = some (.own W)) (f : Lk W P) (p : Pure Q1) (h : EvE te (Γ.set i (.val P)) Q1) : EvE (tLocks te) Γ Q1 := fun F σ G H e R q => by
  obtain ⟨Ls, e1⟩ := id e
  obtain ⟨ds, nd, di, dg, go⟩ := e1.lock f hi
  refine ⟨ds.length, lockN_read (fun ods v H' => ∃ G2 G3, Gr G2 (lockH H ds ods) G3 H' ∧ Q1.p G3 v) nd di (fun ods Q hQ => ?_) fun ods v H' ⟨G2, G3, g, pv⟩ => ?_⟩
  · obtain ⟨G2, e2⟩ := go ods
    exact h F σ G2 _ e2 Q fun v G3 H' g pv => hQ v H' ⟨G2, G3, g, pv⟩
  · have gh : Gw H (unlk H' ds H) := fun a o ha => by
      unfold unlk
      by_cases z : a ∈ ds
      · rw [if_pos z]
        exact ha
      · rw [if_neg z]
        exact g.h a o (by rw [lockH_out z]; exact ha)
    refine ⟨fun a ha => ?_, q v G _ ⟨Gw.refl G, gh, e.s.trans gh, fun _ _ h => h⟩ (p _ _ v pv)⟩
    obtain ⟨kvs, hk⟩ := di a ha
    rw [lockH_in ha hk]
    exact g.h a _ (lockH_in ha hk)
end
section
variable {K : PySem.W.Frag} {Γ : Ctx} {α : Type} {r : α → Pr} {kvs : List (Key × α)} {td : TE}
theorem satK_v {H : Hp} : ∀ {vs : List (Key × V)} {Ps : List (Key × Pr)}, SatK H vs Ps → Sat H (vs.map (·.2)) (Ps.map (·.2))
  | [], [], _ => trivial
  | _ :: _, _ :: _, h => ⟨h.2.1, satK_v h.2.2⟩
  | [], _ :: _, h => h.elim
  | _ :: _, [], h => h.elim
abbrev rZ (r : α → Pr) : List (Key × α) → Pr := fun kvs => pDz (kvs.map (rK r))
theorem i_valsZ (h : EvE td Γ (rZ r kvs)) : EvI (iVals td) Γ r (kvs.map (·.2)) := fun F σ G H e R q =>
  h F σ G H e _ fun v G1 H1 g1 ⟨a, od, vs, h1, h2, h3⟩ => by
    subst h1
    have lv : vs.length = kvs.length := by rw [h3.len, List.length_map]
    refine ⟨a, od, vs, rfl, g1.s _ _ h2, q _ (fun H => H a = some (.frz od (.dK vs)) ∧ SatK H vs (kvs.map (rK r))) G1 H1 g1 ⟨fun g q => ⟨g _ _ q.1, q.2.m g⟩, fun H => H a = some (.frz od (.dK vs)), (fun i H x H' => H' = H ∧ ∃ k, vs[i]? = some (k, x)), by
      rw [List.length_map, ← lv]
      exact walk_values, fun G H x s => s _ _ x.1, fun i G H v H' x s hi y => ?_⟩ ⟨h2, h3⟩⟩
    obtain ⟨rfl, k, y2⟩ := y
    obtain ⟨b, hb1, hb2⟩ := satK_get x.2 y2
    exact ⟨G, b, Gr.refl s, by rw [List.getElem?_map, hb1]; rfl, hb2⟩
end
end Y

set_option Elab.async false
set_option linter.all false
set_option maxRecDepth 100000
namespace Y
open PySem L2
section
variable {K : PySem.W.Frag} {Γ Γ1 : Ctx} {ta tb : TE} {P P1 P2 : Pr} {Ps : List Pr} {r : R2}
/-! ### an operation whose left side changes a region -/
theorem u_op (hr : RR r P1 P2 P) (ha : EvU ta Γ Γ1 P1) (hb : EvE tb Γ1 P2) : EvU (tOp r ta tb) Γ Γ1 P := fun F σ G H e Q q =>
  ha F σ G H e _ fun x G1 H1 e1 p1 => hb F σ G1 H1 e1 _ fun y G2 H2 g2 p2 => hr G2 H2 x y Q g2.s (P1.m g2.g p1) p2 fun v G3 H3 g3 p3 => q v G3 H3 (e1.grow (g2.trans g3)) p3
theorem v_op (hr : RR r P1 P2 P) (ha : EvV ta Γ Γ1 P1) (hb : EvE tb Γ1 P2) : EvV (tOp r ta tb) Γ Γ1 P := fun F σ G H e Q q =>
  ha F σ G H e _ fun x G1 H1 g1 e1 p1 => hb F σ G1 H1 e1 _ fun y G2 H2 g2 p2 => hr G2 H2 x y Q g2.s (P1.m g2.g p1) p2 fun v G3 H3 g3 p3 => q v G3 H3 ((g1.trans g2.g).trans g3.g) (e1.grow (g2.trans g3)) p3
theorem rr_ixT {k : Int} (h : atI Ps k = some P) : RR (rIxT K) (pT Ps) (pI k) P := fun G H x y Q s ⟨a, vs, e1, s1, s2⟩ hy q => by
  obtain ⟨v, h1, h2⟩ := sat_atI s2 h
  exact ⟨a, vs, k, v, e1, hy, SqT.of (s _ _ s1), h1, q v G H (Gr.refl s) h2⟩
theorem rr_eqEn {α : Type} [DecidableEq α] {r : α → Pr} (E : En K r) (h : E.n ≤ 64) {a b : α} : RR (rEqD K) (r a) (r b) (pB (decide (a = b))) := fun G H x y Q s hx hy q =>
  ⟨E.d a, E.d b, E.ok a H x ((r a).m s hx), E.ok b H y ((r b).m s hy), E.sh h a, E.sh h b, q _ G H (Gr.refl s) (by rw [E.eq]; rfl)⟩
theorem rr_neEn {α : Type} [DecidableEq α] {r : α → Pr} (E : En K r) (h : E.n ≤ 64) {a b : α} : RR (rNeD K) (r a) (r b) (pB (!decide (a = b))) := fun G H x y Q s hx hy q =>
  ⟨E.d a, E.d b, E.ok a H x ((r a).m s hx), E.ok b H y ((r b).m s hy), E.sh h a, E.sh h b, q _ G H (Gr.refl s) (by rw [E.eq]; rfl)⟩
end
/-! ### a name for xs[j1][j2], a part of a region of one's own -/
section
variable {K : PySem.W.Frag} {Γ : Ctx} {α : Type} {o : α → Ow} {xs : List (List α)} {l : List α} {v v' : α} {j1 j2 : Nat} {al : V}
abbrev o2 (o : α → Ow) : List (List α) → Ow := fun xs => oLs (xs.map fun l => oLs (l.map o))
def set2 (xs : List (List α)) (j1 j2 : Nat) (v : α) : List (List α) := xs.modify j1 fun l => l.set j2 v
theorem set2_eq (h : xs[j1]? = some l) : set2 xs j1 j2 v = xs.set j1 (l.set j2 v) := by
  unfold set2
  refine List.ext_getElem? fun n => ?_
  rw [List.getElem?_modify]
  by_cases z : j1 = n
  · subst z
    rw [h, List.getElem?_set_self (lt_of_get h)]
    show some (if j1 = j1 then l.set j2 v else l) = _
    rw [if_pos rfl]
  · rw [List.getElem?_set_ne z]
    cases xs[n]? with
    | none => rfl
    | some a =>
      show some (if j1 = n then a.set j2 v else a) = _
      rw [if_neg z]
/-- xs, the part at [j1][j2] at a known place -/
def oPin2 (o : α → Ow) (xs : List (List α)) (l : List α) (v : α) (j1 j2 : Nat) (al : V) : Ow := oLs ((xs.map fun l => oLs (l.map o)).set j1 (oLs ((l.map o).set j2 (oAt al (o v)))))
theorem pin2_le (h1 : xs[j1]? = some l) (h2 : l[j2]? = some v) : Le (oPin2 o xs l v j1 j2 al) (o2 o xs) := by
  refine le_ls (U := oLs (l.map o)) (by rw [List.getElem?_map, h1]; rfl) (le_ls (U := o v) (by rw [List.getElem?_map, h2]; rfl) le_at)
theorem pin2_nav (h1 : xs[j1]? = some l) (h2 : l[j2]? = some v) : Nav (oPin2 o xs l v j1 j2 al) al (o v) (fun U' N => ∃ v', U' = o v' ∧ N = oPin2 o (set2 xs j1 j2 v') (l.set j2 v') v' j1 j2 al) := by
  have n := nav_ls (Ws := (xs.map fun l => oLs (l.map o)).set j1 (oLs ((l.map o).set j2 (oAt al (o v))))) (j := j1) (List.getElem?_set_self (by rw [List.length_map]; exact lt_of_get h1)) (nav_ls (Ws := (l.map o).set j2 (oAt al (o v))) (j := j2) (List.getElem?_set_self (by rw [List.length_map]; exact lt_of_get h2)) (nav_at (x := al) (U := o v)))
  intro F Γ σ i put0 Ls u L G H f
  obtain ⟨Lu, f2⟩ := n F Γ σ i put0 Ls u L G H f
  refine ⟨Lu, f2.put_imp fun {U' W'} ⟨M, ⟨v', e1, e2⟩, pw⟩ => ⟨M, ⟨_, ⟨_, rfl, rfl⟩, ?_⟩, pw⟩⟩
  subst e1
  rw [e2, List.set_set, List.set_set]
  show oLs _ = oLs _
  rw [set2_eq h1]
  congr 1
  rw [List.map_set, List.set_set]
  congr 2
  rw [List.map_set, List.set_set]
theorem pin2_get (h1 : xs[j1]? = some l) (h2 : l[j2]? = some v) : (set2 xs j1 j2 v')[j1]? = some (l.set j2 v') ∧ (l.set j2 v')[j2]? = some v' := by
  rw [set2_eq h1]
  exact ⟨List.getElem?_set_self (lt_of_get h1), List.getElem?_set_self (lt_of_get h2)⟩
/-- x = p[k1][k2], and what follows -/
theorem s_pin2 {tp t1 t2 : TE} {ts : TS} {out : Out} {i n : Nat} {k1 k2 : Int} {put : Ow → Ow → Prop} {Wx : V → Nat → Nat → Ow} (hp : EvF tp Γ i (o2 o xs) put) (hk1 : EvE t1 Γ (pI k1)) (hk2 : EvE t2 Γ (pI k2)) (h1 : atI xs k1 = some l) (h2 : atI l k2 = some v)
    (pw : ∀ x j1 j2, put (oPin2 o xs l v j1 j2 x) (Wx x j1 j2)) (hn : n < Γ.length) (h : ∀ x j1 j2, ixN xs.length k1 = some j1 → ixN l.length k2 = some j2 → xs[j1]? = some l → l[j2]? = some v → StS ts ((Γ.set i (.own (Wx x j1 j2))).set n (.val (pV x))) out) : StS (tSeq (tAsg (tOp (rIxL K) (tOp (rIxL K) tp t1) t2) (gName n)) ts) Γ out := by
  obtain ⟨j1, a1, a2⟩ := atI_ix h1
  obtain ⟨j2, b1, b2⟩ := atI_ix h2
  have w1 := f_ix (K := K) (j := j1) (U := oLs (l.map o)) hp hk1 (by rw [List.length_map]; exact a1) (by rw [List.getElem?_map, a2]; rfl)
  have w2 := f_ix (K := K) (j := j2) (U := o v) w1 hk2 (by rw [List.length_map]; exact b1) (by rw [List.getElem?_map, b2]; rfl)
  exact s_pin (Wx := fun x => Wx x j1 j2) w2 (fun x => pw x j1 j2) hn fun x => h x j1 j2 a1 b1 a2 b2
end
end Y

set_option Elab.async false
set_option linter.all false
set_option maxRecDepth 100000
namespace Y
open PySem L2
/-! ### defs that change two of their arguments -/
structure ArgsOk (G H : Hp) (vs : List V) (As : Ctx) (k1 k2 : Nat) (M1 M2 : List Addr) : Prop where
  len : vs.length = As.length
  s : Gw G H
  at_ : ∀ (i : Nat) (sl : Slot), As[i]? = some sl → SlotOk G H (if i = k1 then M1 else M2) sl ((vs[i]?).map some)
  own : ∀ (i : Nat) (W : Ow), As[i]? = some (.own W) → i = k1 ∨ i = k2
  fr : ∀ a, a ∈ M1 ∨ a ∈ M2 → G a = none ∧ H a ≠ none
  dis : ∀ a ∈ M1, a ∉ M2
def spU2 (k1 k2 : Nat) (R : V → V → Ctx → Ow → Ow → Pr → Prop) : Sp := fun vs H Q _ => ∃ v1 v2 As U1 U2 P G M1 M2, R v1 v2 As U1 U2 P ∧ vs[k1]? = some v1 ∧ vs[k2]? = some v2 ∧ k1 ≠ k2 ∧ ArgsOk G H vs As k1 k2 M1 M2 ∧
  ∀ r G' H' M1' M2', Gr G (delL H (M1 ++ M2)) G' H' → (∀ a, a ∈ M1' ∨ a ∈ M2' → ((a ∈ M1 ∨ a ∈ M2) ∨ H a = none) ∧ G' a = none ∧ H' a ≠ none) → (∀ a ∈ M1', a ∉ M2') → U1.p G' H' v1 M1' → U2.p G' H' v2 M2' → P.p G' r → Q r H'
def outU2 (k1 k2 : Nat) (v1 v2 : V) (U1 U2 : Ow) (P : Pr) : Out := .gn fun F D => ∀ r σ G H Γ, EOk F Γ σ G H → Γ[k1]? = some (.own (oAt v1 U1)) → Γ[k2]? = some (.own (oAt v2 U2)) → P.p G r → D.rt r H
theorem s_retU2 {k1 k2 : Nat} {v1 v2 : V} {U1 U2 : Ow} {P : Pr} {te : TE} {Γ : Ctx} (h : EvE te Γ P) (h1 : Γ[k1]? = some (.own (oAt v1 U1))) (h2 : Γ[k2]? = some (.own (oAt v2 U2))) : StS (tRet te) Γ (outU2 k1 k2 v1 v2 U1 U2 P) := fun F σ G H D e g =>
  h F σ G H e _ fun r G' H' gr p => g r σ G' H' Γ (e.grow gr) h1 h2 p
theorem eok_startU2 {G H : Hp} {vs : List V} {As : Ctx} {k1 k2 : Nat} {M1 M2 : List Addr} {N : List Str} (a : ArgsOk G H vs As k1 k2 M1 M2) (ne : k1 ≠ k2) (hn : As.length ≤ N.length) :
    EOk ⟨G, delL H (M1 ++ M2), fun _ => True, fun _ h => h⟩ (As ++ List.replicate (N.length - As.length) Slot.any) (L2.start N vs) G H := by
  have ix : ∀ {i : Nat} {sl : Slot}, (As ++ List.replicate (N.length - As.length) Slot.any)[i]? = some sl → (i < As.length ∧ As[i]? = some sl) ∨ sl = .any := fun {i sl} h => by
    by_cases hi : i < As.length
    · rw [List.getElem?_append_left hi] at h
      exact .inl ⟨hi, h⟩
    · rw [List.getElem?_append_right (by omega)] at h
      exact .inr (List.eq_of_mem_replicate (List.mem_of_getElem? h))
  have own : ∀ {i : Nat} {W : Ow}, (As ++ List.replicate (N.length - As.length) Slot.any)[i]? = some (.own W) → i = k1 ∨ i = k2 := fun {i W} h => by
    rcases ix h with ⟨_, q⟩ | q
    · exact a.own i W q
    · cases q
  have mem : ∀ {i : Nat} {x : Addr}, x ∈ (if i = k1 then M1 else M2) → x ∈ M1 ∨ x ∈ M2 := fun {i x} h => by
    split at h
    · exact .inl h
    · exact .inr h
  refine ⟨fun i => if i = k1 then M1 else M2, ⟨Gw.refl G, fun x o e => ?_, a.s, fun _ _ h => h⟩, trivial, ?_, fun i sl h => ?_, fun i W h x hx => ?_, fun i j W W' h h' nij x hx => ?_⟩
  · have e : delL H (M1 ++ M2) x = some o := e
    by_cases z : x ∈ M1 ++ M2
    · rw [delL_in z] at e
      cases e
    · rw [delL_out z] at e
      exact e
  · unfold L2.start
    rw [List.length_append, List.length_append, List.length_map, List.length_replicate, List.length_replicate, a.len]
  · rcases ix h with ⟨hi, q⟩ | q
    · have e : (L2.start N vs)[i]? = (vs[i]?).map some := by
        unfold L2.start
        rw [List.getElem?_append_left (by rw [List.length_map, a.len]; exact hi), List.getElem?_map]
      rw [e]
      exact a.at_ i sl q
    · subst q
      trivial
  · have q := a.fr x (mem hx)
    exact ⟨q.1, delL_in (List.mem_append.mpr (mem hx)), q.2⟩
  · have hx' : x ∈ (if i = k1 then M1 else M2) := hx
    show x ∉ (if j = k1 then M1 else M2)
    rcases own h with rfl | rfl
    · rw [if_pos rfl] at hx'
      rw [if_neg (Ne.symm nij)]
      exact a.dis x hx'
    · rw [if_neg (Ne.symm ne)] at hx'
      rcases own h' with rfl | rfl
      · rw [if_pos rfl]
        exact fun q => a.dis x q hx'
      · exact absurd rfl nij
section
variable {P : Program} {w : World} {K : PySem.W.Frag} {mg : Str → Option Value} {base : Heap} {x qual : Str} {params : Arguments} {body : List Stmt} {scope : Scope} {dvs : List V} {kws : List (Str × V)} {f : Addr} {fd : FuncData}
theorem fn_U2 {N ps : List Str} {n k1 k2 : Nat} {R : V → V → Ctx → Ow → Ow → Pr → Prop} (F : FunD K x qual params body scope dvs kws f fd) (S : FnScope N ps scope) (hl : ∀ v1 v2 As U1 U2 P, R v1 v2 As U1 U2 P → As.length = ps.length) (hn : ps.length ≤ N.length)
    (hb : ∀ (cdv : Value) (A : Around) (outer : List Env) (s : Shared) (H : Hp) (E : XK), Room n (A.deeper (PyProof.Rows.envOfC qual scope s.heap.objs.size f cdv)) →
      ∃ t, PSs (cxOf CX0 P w K mg base N qual scope f cdv A outer s H E).nox body t ∧ ∀ v1 v2 As U1 U2 P, R v1 v2 As U1 U2 P → StS t (As ++ List.replicate (N.length - As.length) Slot.any) (outU2 k1 k2 v1 v2 U1 U2 P)) : FnOk P w K mg base CX0 (n + 1) f fd ps (spU2 k1 k2 R) := by
  refine F.ok S (fun vs H Q E ⟨v1, v2, As, U1, U2, Pq, G, M1, M2, h1, h2, h3, ne, a, h4⟩ => a.len.trans (hl _ _ _ _ _ _ h1)) fun cdv A outer s H vs Q E hr ⟨v1, v2, As, U1, U2, Pq, G, M1, M2, h1, h2, h3, ne, a, h4⟩ => ?_
  obtain ⟨t, ht, hs⟩ := hb cdv A outer s H E hr
  have e0 := eok_startU2 (N := N) a ne (by rw [hl _ _ _ _ _ _ h1]; exact hn)
  refine ⟨t, ht.nox, hs _ _ _ _ _ _ h1 _ _ G H _ e0 fun r σ' G' H' Γ' ⟨Ls, e⟩ q1 q2 p => ?_⟩
  obtain ⟨u1, _, m1, m2⟩ := (e.at_ k1 _ q1).own_
  obtain ⟨u2, _, m3, m4⟩ := (e.at_ k2 _ q2).own_
  subst m1 m3
  refine h4 r G' H' (Ls k1) (Ls k2) e.gr (fun b hb => ?_) (e.dis k1 k2 _ _ q1 q2 ne) m2 m4 p
  have fr : G' b = none ∧ delL H (M1 ++ M2) b = none ∧ H' b ≠ none := hb.elim (e.fr k1 _ q1 b) (e.fr k2 _ q2 b)
  refine ⟨?_, fr.1, fr.2.2⟩
  by_cases z : b ∈ M1 ++ M2
  · exact .inl (List.mem_append.mp z)
  · have q := fr.2.1
    rw [delL_out z] at q
    exact .inr q
end
end Y

set_option Elab.async false
set_option linter.all false
set_option maxRecDepth 100000
namespace Y
open PySem L2
/-! ### the call of a def that changes two of its arguments -/
def ArgS (G : Hp) (σ : St) : List V → List (Pr ⊕ Nat) → Prop
  | [], [] => True
  | v :: vs, .inl P :: Xs => P.p G v ∧ ArgS G σ vs Xs
  | v :: vs, .inr s :: Xs => σ[s]? = some (some v) ∧ ArgS G σ vs Xs
  | _, _ => False
theorem ArgS.m {G G' : Hp} {σ : St} (g : Gw G G') : ∀ {vs : List V} {Xs : List (Pr ⊕ Nat)}, ArgS G σ vs Xs → ArgS G' σ vs Xs
  | [], [], _ => trivial
  | _ :: _, .inl P :: _, h => ⟨P.m g h.1, ArgS.m g h.2⟩
  | _ :: _, .inr _ :: _, h => ⟨h.1, ArgS.m g h.2⟩
  | [], _ :: _, h => h.elim
  | _ :: _, [], h => h.elim
theorem ArgS.len {G : Hp} {σ : St} : ∀ {vs : List V} {Xs : List (Pr ⊕ Nat)}, ArgS G σ vs Xs → vs.length = Xs.length
  | [], [], _ => rfl
  | _ :: _, .inl _ :: _, h => congrArg Nat.succ (ArgS.len h.2)
  | _ :: _, .inr _ :: _, h => congrArg Nat.succ (ArgS.len h.2)
  | [], _ :: _, h => h.elim
  | _ :: _, [], h => h.elim
theorem ArgS.get {G : Hp} {σ : St} : ∀ {vs : List V} {Xs : List (Pr ⊕ Nat)} {i : Nat} {X : Pr ⊕ Nat}, ArgS G σ vs Xs → Xs[i]? = some X → ∃ v, vs[i]? = some v ∧ match X with | .inl P => P.p G v | .inr s => σ[s]? = some (some v)
  | [], [], _, _, _, e => by simp at e
  | v :: _, .inl P :: _, 0, _, h, e => by
    simp at e
    subst e
    exact ⟨v, rfl, h.1⟩
  | v :: _, .inr s :: _, 0, _, h, e => by
    simp at e
    subst e
    exact ⟨v, rfl, h.1⟩
  | _ :: vs, .inl _ :: Xs, i + 1, X, h, e => by
    obtain ⟨v, h1, h2⟩ := ArgS.get (i := i) h.2 (by simpa using e)
    exact ⟨v, by simpa using h1, h2⟩
  | _ :: vs, .inr _ :: Xs, i + 1, X, h, e => by
    obtain ⟨v, h1, h2⟩ := ArgS.get (i := i) h.2 (by simpa using e)
    exact ⟨v, by simpa using h1, h2⟩
  | [], _ :: _, _, _, h, _ => h.elim
  | _ :: _, [], _, _, h, _ => h.elim
def EvAS (ta : TA) (Γ : Ctx) (Xs : List (Pr ⊕ Nat)) : Prop := ∀ (F : Fm) (σ : St) (G H : Hp), EOk F Γ σ G H → ∀ Q : List V → Hp → Prop, (∀ vs G' H', Gr G H G' H' → ArgS G' σ vs Xs → Q vs H') → ta σ H Q
def asCtx (k1 k2 : Nat) (W1 W2 : Ow) (v1 v2 : V) : Nat → List (Pr ⊕ Nat) → Ctx
  | _, [] => []
  | n, .inl P :: Xs => .val P :: asCtx k1 k2 W1 W2 v1 v2 (n + 1) Xs
  | n, .inr _ :: Xs => (if n = k1 then .own (oAt v1 W1) else if n = k2 then .own (oAt v2 W2) else .any) :: asCtx k1 k2 W1 W2 v1 v2 (n + 1) Xs
theorem asCtx_get {k1 k2 : Nat} {W1 W2 : Ow} {v1 v2 : V} : ∀ {Xs : List (Pr ⊕ Nat)} {n i : Nat} {sl : Slot}, (asCtx k1 k2 W1 W2 v1 v2 n Xs)[i]? = some sl → (∃ P, Xs[i]? = some (.inl P) ∧ sl = .val P) ∨ (∃ s, Xs[i]? = some (.inr s) ∧ sl = if n + i = k1 then .own (oAt v1 W1) else if n + i = k2 then .own (oAt v2 W2) else .any)
  | [], n, i, sl, h => by simp [asCtx] at h
  | .inl P :: Xs, n, 0, sl, h => by
    simp [asCtx] at h
    exact .inl ⟨P, rfl, h.symm⟩
  | .inr s :: Xs, n, 0, sl, h => by
    rw [asCtx, List.getElem?_cons_zero] at h
    exact .inr ⟨s, rfl, (Option.some.inj h).symm⟩
  | .inl P :: Xs, n, i + 1, sl, h => by
    rw [asCtx, List.getElem?_cons_succ] at h
    have := asCtx_get h
    rw [show n + (i + 1) = n + 1 + i by omega]
    simpa using this
  | .inr s :: Xs, n, i + 1, sl, h => by
    rw [asCtx, List.getElem?_cons_succ] at h
    have := asCtx_get h
    rw [show n + (i + 1) = n + 1 + i by omega]
    simpa using this
theorem asCtx_len {k1 k2 : Nat} {W1 W2 : Ow} {v1 v2 : V} : ∀ {Xs : List (Pr ⊕ Nat)} {n : Nat}, (asCtx k1 k2 W1 W2 v1 v2 n Xs).length = Xs.length
  | [], _ => rfl
  | .inl _ :: _, _ => congrArg Nat.succ asCtx_len
  | .inr _ :: _, _ => congrArg Nat.succ asCtx_len
section
variable {Γ Γ1 : Ctx} {te : TE} {tr tas : TA} {P : Pr} {Xs : List (Pr ⊕ Nat)} {s1 s2 k1 k2 : Nat} {W1 W2 U1 U2 : Ow} {E : XK} {R : V → V → Ctx → Ow → Ow → Pr → Prop}
theorem as_nil : EvAS tNil Γ [] := fun F σ G H e Q q => q [] G H (Gr.refl e.s) trivial
theorem as_val (h : EvE te Γ P) (hr : EvAS tr Γ Xs) : EvAS (tCons te tr) Γ (.inl P :: Xs) := fun F σ G H e Q q =>
  h F σ G H e _ fun v G1 H1 g1 p1 => hr F σ G1 H1 (e.grow g1) _ fun vs G2 H2 g2 a2 => q (v :: vs) G2 H2 (g1.trans g2) ⟨P.m g2.g p1, a2⟩
theorem as_own {W : Ow} (h : Γ[s1]? = some (.own W)) (hr : EvAS tr Γ Xs) : EvAS (tCons (tVar s1) tr) Γ (.inr s1 :: Xs) := fun F σ G H e Q q => by
  obtain ⟨Ls, e1⟩ := id e
  obtain ⟨v, hv, _⟩ := (e1.at_ s1 _ h).own_
  exact ⟨v, hv, hr F σ G H e _ fun vs G2 H2 g2 a2 => q (v :: vs) G2 H2 g2 ⟨hv, a2⟩⟩
theorem e_callU2 (h : EvAS tas Γ Xs) (hx1 : Xs[k1]? = some (.inr s1)) (hx2 : Xs[k2]? = some (.inr s2)) (hxo : ∀ i s, Xs[i]? = some (.inr s) → i = k1 ∨ i = k2) (nk : k1 ≠ k2) (nss : s1 ≠ s2) (h1 : Γ[s1]? = some (.own W1)) (h2 : Γ[s2]? = some (.own W2))
    (hR : ∀ v1 v2, R v1 v2 (asCtx k1 k2 W1 W2 v1 v2 0 Xs) U1 U2 P) (hc : (Γ.set s1 (.own U1)).set s2 (.own U2) = Γ1) : EvU (tCall (spU2 k1 k2 R) [] E tas) Γ Γ1 P := fun F σ G H e Q q =>
  h F σ G H e _ fun vs G1 H1 g1 as => by
    obtain ⟨Ls, e1⟩ := e.grow g1
    obtain ⟨v1, a1, b1⟩ := as.get hx1
    obtain ⟨v2, a2, b2⟩ := as.get hx2
    have b1 : σ[s1]? = some (some v1) := b1
    have b2 : σ[s2]? = some (some v2) := b2
    have w1 : W1.p G1 H1 v1 (Ls s1) := by
      have := e1.at_ s1 _ h1
      rw [b1] at this
      exact this
    have w2 : W2.p G1 H1 v2 (Ls s2) := by
      have := e1.at_ s2 _ h2
      rw [b2] at this
      exact this
    have n1 := e1.fr s1 _ h1
    have n2 := e1.fr s2 _ h2
    show spU2 k1 k2 R (vs ++ []) H1 _ _
    rw [List.append_nil]
    refine ⟨v1, v2, _, U1, U2, P, G1, Ls s1, Ls s2, hR v1 v2, a1, a2, nk, ⟨by rw [as.len, asCtx_len], e1.gr.s, fun i sl hi => ?_, fun i W hi => ?_, fun a ha => ?_, e1.dis s1 s2 _ _ h1 h2 nss⟩, fun r G' H' M1 M2 g hL dj u1 u2 p => q r G' H' ?_ p⟩
    · rcases asCtx_get hi with ⟨P', x1, x2⟩ | ⟨s, x1, x2⟩
      · obtain ⟨v, y1, y2⟩ := as.get x1
        subst x2
        rw [y1]
        exact y2
      · rw [Nat.zero_add] at x2
        rcases hxo i s x1 with rfl | rfl
        · rw [if_pos rfl] at x2 ⊢
          subst x2
          rw [a1]
          exact ⟨rfl, w1⟩
        · rw [if_neg (Ne.symm nk), if_pos rfl] at x2
          rw [if_neg (Ne.symm nk)]
          subst x2
          rw [a2]
          exact ⟨rfl, w2⟩
    · rcases asCtx_get hi with ⟨P', x1, x2⟩ | ⟨s, x1, x2⟩
      · cases x2
      · exact hxo i s x1
    · rcases ha with z | z
      · exact ⟨(n1 a z).1, (n1 a z).2.2⟩
      · exact ⟨(n2 a z).1, (n2 a z).2.2⟩
    · subst hc
      have hs1 : s1 < Γ.length := lt_of_get h1
      have hs2 : s2 < Γ.length := lt_of_get h2
      have out : ∀ {a : Addr}, a ∉ Ls s1 → a ∉ Ls s2 → delL H1 (Ls s1 ++ Ls s2) a = H1 a := fun {a} x y => delL_out fun z => (List.mem_append.mp z).elim x y
      have keep : ∀ {a : Addr}, a ∉ Ls s1 → a ∉ Ls s2 → H1 a ≠ none → H' a = H1 a := fun {a} x y z => by
        rw [g.h.at (a := a) (by rw [out x y]; exact z), out x y]
      have gnone : ∀ {a : Addr}, a ∉ Ls s1 → a ∉ Ls s2 → H1 a ≠ none → G1 a = none → G' a = none := fun {a} x y z w => g.f a (by rw [out x y]; exact z) w
      have cs : ∀ {j : Nat} {W : Ow}, ((Γ.set s1 (.own U1)).set s2 (.own U2))[j]? = some (.own W) → (j = s1 ∧ W = U1) ∨ (j = s2 ∧ W = U2) ∨ (j ≠ s1 ∧ j ≠ s2 ∧ Γ[j]? = some (.own W)) := fun {j W} hj => by
        rcases set_get hj with ⟨z, _, y⟩ | ⟨z, hj⟩
        · cases y
          exact .inr (.inl ⟨z.symm, rfl⟩)
        · rcases set_get hj with ⟨z2, _, y⟩ | ⟨z2, hj⟩
          · cases y
            exact .inl ⟨z2.symm, rfl⟩
          · exact .inr (.inr ⟨Ne.symm z2, Ne.symm z, hj⟩)
      have o1 : ∀ {j : Nat} {W : Ow}, Γ[j]? = some (.own W) → j ≠ s1 → ∀ a ∈ Ls j, a ∉ Ls s1 := fun {j W} hj z a ha => e1.dis j s1 _ _ hj h1 z a ha
      have o2 : ∀ {j : Nat} {W : Ow}, Γ[j]? = some (.own W) → j ≠ s2 → ∀ a ∈ Ls j, a ∉ Ls s2 := fun {j W} hj z a ha => e1.dis j s2 _ _ hj h2 z a ha
      have F1 : ∀ a, a ∈ M1 ∨ a ∈ M2 → F.H a = none := fun a ha => by
        rcases (hL a ha).1 with (z | z) | z
        · exact (n1 a z).2.1
        · exact (n2 a z).2.1
        · exact e1.gr.h.free z
      have new : ∀ {j : Nat} {W : Ow}, Γ[j]? = some (.own W) → j ≠ s1 → j ≠ s2 → ∀ a, a ∈ M1 ∨ a ∈ M2 → a ∉ Ls j := fun {j W} hj z1 z2 a ha q => by
        rcases (hL a ha).1 with (z | z) | z
        · exact o1 hj z1 a q z
        · exact o2 hj z2 a q z
        · exact (e1.fr j W hj a q).2.2 z
      refine ⟨fun j => if j = s1 then M1 else if j = s2 then M2 else Ls j, ⟨e1.gr.g.trans g.g, fun a o ha => ?_, g.s, fun a ha ga => ?_⟩, F.m g.g e1.x, by rw [List.length_set, List.length_set]; exact e1.len, fun j sl hj => ?_, fun j W hj a ha => ?_, fun j k W W' hj hk nj a ha => ?_⟩
      · have x := e1.gr.h a o ha
        have y1 : a ∉ Ls s1 := fun z => by rw [(n1 a z).2.1] at ha; cases ha
        have y2 : a ∉ Ls s2 := fun z => by rw [(n2 a z).2.1] at ha; cases ha
        rw [keep y1 y2 (by rw [x]; exact fun z => nomatch z)]
        exact x
      · have y1 : a ∉ Ls s1 := fun z => ha (n1 a z).2.1
        have y2 : a ∉ Ls s2 := fun z => ha (n2 a z).2.1
        exact gnone y1 y2 (fun z => ha (e1.gr.h.free z)) (e1.gr.f a ha ga)
      · rcases set_get hj with ⟨z, _, y⟩ | ⟨z, hj⟩
        · subst z y
          rw [if_neg (Ne.symm nss), if_pos rfl, b2]
          exact u2
        · rcases set_get hj with ⟨z2, _, y⟩ | ⟨z2, hj⟩
          · subst z2 y
            rw [if_pos rfl, b1]
            exact u1
          · rw [if_neg (Ne.symm z2), if_neg (Ne.symm z)]
            refine (e1.at_ j sl hj).go g.g fun W hW a ha => ?_
            subst hW
            exact keep (o1 hj (Ne.symm z2) a ha) (o2 hj (Ne.symm z) a ha) (e1.fr j W hj a ha).2.2
      · rcases cs hj with ⟨rfl, rfl⟩ | ⟨rfl, rfl⟩ | ⟨z1, z2, hj⟩
        · rw [if_pos rfl] at ha
          exact ⟨(hL a (.inl ha)).2.1, F1 a (.inl ha), (hL a (.inl ha)).2.2⟩
        · rw [if_neg (Ne.symm nss), if_pos rfl] at ha
          exact ⟨(hL a (.inr ha)).2.1, F1 a (.inr ha), (hL a (.inr ha)).2.2⟩
        · rw [if_neg z1, if_neg z2] at ha
          have fr := e1.fr j W hj a ha
          exact ⟨gnone (o1 hj z1 a ha) (o2 hj z2 a ha) fr.2.2 fr.1, fr.2.1, by rw [keep (o1 hj z1 a ha) (o2 hj z2 a ha) fr.2.2]; exact fr.2.2⟩
      · rcases cs hj with ⟨rfl, rfl⟩ | ⟨rfl, rfl⟩ | ⟨z1, z2, hj'⟩ <;> rcases cs hk with ⟨rfl, rfl⟩ | ⟨rfl, rfl⟩ | ⟨y1, y2, hk'⟩
        · exact absurd rfl nj
        · rw [if_pos rfl] at ha
          rw [if_neg (Ne.symm nss), if_pos rfl]
          exact dj a ha
        · rw [if_pos rfl] at ha
          rw [if_neg y1, if_neg y2]
          exact new hk' y1 y2 a (.inl ha)
        · rw [if_neg (Ne.symm nss), if_pos rfl] at ha
          rw [if_pos rfl]
          exact fun z => dj a z ha
        · exact absurd rfl nj
        · rw [if_neg (Ne.symm nss), if_pos rfl] at ha
          rw [if_neg y1, if_neg y2]
          exact new hk' y1 y2 a (.inr ha)
        · rw [if_neg z1, if_neg z2] at ha
          rw [if_pos rfl]
          exact fun z => new hj' z1 z2 a (.inl z) ha
        · rw [if_neg z1, if_neg z2] at ha
          rw [if_neg (Ne.symm nss), if_pos rfl]
          exact fun z => new hj' z1 z2 a (.inr z) ha
        · rw [if_neg z1, if_neg z2] at ha
          rw [if_neg y1, if_neg y2]
          exact e1.dis j k W W' hj' hk' nj a ha
end
end Y

set_option Elab.async false
set_option linter.all false
set_option maxRecDepth 100000
namespace Y
open PySem L2
section
variable {K : PySem.W.Frag} {Γ Γ1 Γ2 : Ctx} {te ti : TE} {n i : Nat} {al : V} {W W1 W' : Ow} {put0 put1 : Ow → Ow → Prop} {Qs Ps : List Pr} {P : Pr} {α : Type} {r : α → Pr} {xs zs : List α} {a : α}
/-- x.append(e), x a name for a part of a region, e changes something besides -/
theorem s_appNV (h0 : Γ[n]? = some (.val (pV al))) (hW : Γ[i]? = some (.own W)) (nv : Nav W al (oL Qs) put0) (h : EvV te Γ Γ1 P) (hi : Γ1[i]? = some (.own W1)) (hn : Nav W1 al (oL Ps) put1) (hz : Ps.length < sizeLine) (pw : put1 (oL (Ps ++ [P])) W') (hc : Γ1.set i (.own W') = Γ2) :
    StS (tDrop (tBM K "list" rAppend (tVar n) (tCons te tNil))) Γ (.nx Γ2) := fun F σ G H D ⟨Ls, e⟩ g => by
  obtain ⟨u, h1, h2⟩ := (e.at_ n _ h0).val_
  have h2 : u = al := h2
  subst h2
  obtain ⟨v0, _, f0⟩ := foc_slot e hW
  obtain ⟨Lu0, f1⟩ := nv F Γ σ i _ Ls v0 _ G H f0
  obtain ⟨p, vs, k1, k2, _⟩ := f1.list
  subst k1
  refine ⟨_, h1, .inl ⟨rfl, vs, SqL.of k2⟩, h F σ G H ⟨Ls, e⟩ _ fun v G' H' gg ⟨Ls2, e2⟩ pv => ?_⟩
  obtain ⟨v2, _, f2⟩ := foc_slot e2 hi
  obtain ⟨Lu, f3⟩ := hn F Γ1 σ i _ Ls2 v2 _ G' H' f2
  obtain ⟨b, ws, m1, m2, m3, m4, m5⟩ := f3.list
  cases ref_inj m1
  refine ⟨p, ws, v, rfl, rfl, m2, by rw [m3.len]; exact hz, g σ G' _ (hc ▸ m5 (ws ++ [v]) _ _ ⟨_, pw, rfl⟩ (m3.snoc pv) ?_)⟩
  rw [List.length_append, m3.len]
  exact hz
theorem s_appNVM (h0 : Γ[n]? = some (.val (pV al))) (hW : Γ[i]? = some (.own W)) (nv : Nav W al (oL Qs) put0) (h : EvV te Γ Γ1 (r a)) (hi : Γ1[i]? = some (.own W1)) (hn : Nav W1 al (oL (xs.map r)) put1) (hz : appM xs a = some zs) (pw : put1 (oL (zs.map r)) W') (hc : Γ1.set i (.own W') = Γ2) :
    StS (tDrop (tBM K "list" rAppend (tVar n) (tCons te tNil))) Γ (.nx Γ2) := by
  obtain ⟨q, rfl⟩ := if_some hz
  rw [List.map_append] at pw
  exact s_appNV h0 hW nv h hi hn (by rw [List.length_map]; exact q) pw hc
end
theorem s_retUV {Γ Γ1 : Ctx} {te : TE} {P : Pr} (h : EvU te Γ Γ1 P) : StS (tRet te) Γ (.rt P) := fun F σ G H D e g => h F σ G H e _ fun v G' H' ⟨_, e'⟩ p => g v G' H' e'.gr p
theorem sw_nx {Ws : List Ow} (h : ∀ W ∈ Ws, NoXW W) {G G' H : Hp} (g : Ltx G G') : ∀ {vs : List V} {Ls : List (List Addr)}, SW G' H vs Ws Ls → SW G H vs Ws Ls := by
  induction Ws with
  | nil => intro vs Ls s; match vs, Ls, s with
    | [], [], _ => trivial
    | _ :: _, [], s => exact s.elim
    | [], _ :: _, s => exact s.elim
    | _ :: _, _ :: _, s => exact s.elim
  | cons W Ws ih => intro vs Ls s; match vs, Ls, s with
    | v :: vs, L :: Ls, s => exact ⟨h W List.mem_cons_self _ _ _ _ _ g s.1, s.2.1, ih (fun W hW => h W (List.mem_cons_of_mem _ hW)) s.2.2⟩
    | [], [], s => exact s.elim
    | _ :: _, [], s => exact s.elim
    | [], _ :: _, s => exact s.elim
theorem nxw_Ls {Ws : List Ow} (h : ∀ W ∈ Ws, NoXW W) : NoXW (oLs Ws) := fun G G' H v L g ⟨a, vs, Ls, h1, h2, h3, h4, h5, h6⟩ => ⟨a, vs, Ls, h1, h2, sw_nx h g h3, h4, h5, h6⟩
theorem nxw_map {α : Type} {o : α → Ow} (h : ∀ a, NoXW (o a)) (xs : List α) : ∀ W ∈ xs.map o, NoXW W := fun W hW => by
  obtain ⟨y, _, e⟩ := List.mem_map.mp hW
  exact e ▸ h y
theorem s_appVM {K : PySem.W.Frag} {Γ Γ1 : Ctx} {te : TE} {i : Nat} {α : Type} {r : α → Pr} {xs zs : List α} {a : α} (h : EvV te Γ Γ1 (r a)) (hi0 : ∃ Qs, Γ[i]? = some (.own (oL Qs))) (hi : Γ1[i]? = some (.own (oL (xs.map r)))) (hz : appM xs a = some zs) :
    StS (tDrop (tBM K "list" rAppend (tVar i) (tCons te tNil))) Γ (.nx (Γ1.set i (.own (oL (zs.map r))))) := by
  obtain ⟨q, rfl⟩ := if_some hz
  rw [List.map_append]
  exact s_appV h hi0 hi (by rw [List.length_map]; exact q)
theorem s_pin2J {K : PySem.W.Frag} {Γ : Ctx} {α : Type} {o : α → Ow} {xs : List (List α)} {l : List α} {v : α} {j1 j2 : Nat} {tp t1 t2 : TE} {ts : TS} {out : Out} {i n : Nat} {k1 k2 : Int} {put : Ow → Ow → Prop} {Wx : V → Ow} (hp : EvF tp Γ i (o2 o xs) put) (hk1 : EvE t1 Γ (pI k1)) (hk2 : EvE t2 Γ (pI k2)) (a1 : ixN xs.length k1 = some j1) (a2 : xs[j1]? = some l) (b1 : ixN l.length k2 = some j2) (b2 : l[j2]? = some v)
    (pw : ∀ x, put (oPin2 o xs l v j1 j2 x) (Wx x)) (hn : n < Γ.length) (h : ∀ x, StS ts ((Γ.set i (.own (Wx x))).set n (.val (pV x))) out) : StS (tSeq (tAsg (tOp (rIxL K) (tOp (rIxL K) tp t1) t2) (gName n)) ts) Γ out := by
  have w1 := f_ix (K := K) (j := j1) (U := oLs (l.map o)) hp hk1 (by rw [List.length_map]; exact a1) (by rw [List.getElem?_map, a2]; rfl)
  have w2 := f_ix (K := K) (j := j2) (U := o v) w1 hk2 (by rw [List.length_map]; exact b1) (by rw [List.getElem?_map, b2]; rfl)
  exact s_pin w2 pw hn h
end Y

set_option Elab.async false
set_option linter.all false
set_option maxRecDepth 100000
/-! ### enumerate of a tuple -/
namespace Y
section
open PySem PySem.Spec PyProof.Rows L2
theorem meets_enumerate_newB1 {v : Value} {o : Obj} {H : Heap → Prop} (B : Begins v o H) :
    Meets (Builtin.«enumerate.__new__» ⟨[.type "enumerate", v], []⟩) (fun _ R s => H s.heap ∧
      R (.ok (.ret (.ref (s.heap.push o).objs.size))) { s with heap := (s.heap.push o).push { cls := .type "enumerate", data := .fields #[.none, .bool false, .ref s.heap.objs.size, rawInt 0, .none, .none] } }) :=
  .of_wp fun prog w A R s h => by
    obtain ⟨hp, g, d, tk, os⟩ := s; obtain ⟨h1, h⟩ := h
    have hsub := sub_enumerate
    have q1 : ∀ {A' : Around} {E : Value → Shared → Prop} {Q : Value → Shared → Prop}, Q (.ref hp.objs.size) ⟨hp.push o, g, d, tk, os⟩ → wpAny (model prog w) A' (pyIter v) Q E ⟨hp, g, d, tk, os⟩ :=
      fun q => B.iter prog w _ _ ⟨hp, g, d, tk, os⟩ _ h1 q
    wp_walk using q1
    refine wpAny_stack_any fun st => wpAny_pure ?_
    split
    · rename_i c _ _ _ _ _
      cases (c == Value.type "enumerate")
      · wp_walk using q1
        exact ⟨_, rfl, h⟩
      · wp_walk using q1
        exact ⟨_, rfl, h⟩
    · wp_walk using q1
      exact ⟨_, rfl, h⟩
section
variable {prog : Program} {w : World} {A : Around} {E : Value → Shared → Prop} {s : Shared}
theorem enum_begins1 {v : Value} {o : Obj} {H : Heap → Prop} {Q : Value → Shared → Prop} (B : Begins v o H) (h1 : H s.heap)
    (h : ∀ h', IsEnum h' (s.heap.objs.size + 1) s.heap.objs.size 0 .none → h'.get? s.heap.objs.size = some o → h'.objs.size = s.heap.objs.size + 2 →
      (∀ b o, s.heap.get? b = some o → h'.get? b = some o) → Q (.ref (s.heap.objs.size + 1)) { s with heap := h' }) :
    wpAny (model prog w) A (call (.type "enumerate") [v]) Q E s := by
  refine callType_new F.called_enumerate (by decide) (F.typeCall_enumerate_1 _) (F.newCall_enumerate_1 _) (fun obj => F.args_object_init_2 obj _) F.entry_enumerate_new
    (meets_enumerate_newB1 B) ⟨h1, ?_⟩
  have hz : (s.heap.push o).objs.size = s.heap.objs.size + 1 := Heap.size_push ..
  show _ ∧ _
  rw [hz]
  have he : IsEnum ((s.heap.push o).push { cls := .type "enumerate", data := .fields #[.none, .bool false, .ref s.heap.objs.size, rawInt 0, .none, .none] }) (s.heap.objs.size + 1) s.heap.objs.size 0 .none := by
    have := Heap.get?_push_size (s.heap.push o) (o := { cls := .type "enumerate", data := .fields #[.none, .bool false, .ref s.heap.objs.size, rawInt 0, .none, .none] }) rfl
    rw [hz] at this; exact this
  refine ⟨⟨_, he, rfl⟩, h _ he (Heap.get?_push_of_some _ (Heap.get?_push_size _ B.free)) (by rw [Heap.size_push, hz]) fun b o x => Heap.get?_push_of_some _ (Heap.get?_push_of_some _ x)⟩
end
/-- the tuple at a, each item in a new pair -/
def IteT (K : PySem.W.Frag) (a : Addr) : It :=
  ⟨fun i H => ∃ (xs : List V) (x : V), SqT K H a xs ∧ xs[i]? = some x, fun i H v H' => ∃ T x, v = .ref T ∧ H T = none ∧ H' = upd H T (.tup [.int (i : Nat), x]) ∧ ∀ xs, SqT K H a xs → xs[i]? = some x, fun i H => ∃ xs : List V, SqT K H a xs ∧ xs.length = i⟩
theorem turn_enumT {P : Program} {w : World} {K : PySem.W.Frag} {elts : List Expr} {kk : Nat} {tpos : Pos} (a e it : Addr) :
    Turn P w K (.Tuple elts kk tpos) (IteT K a) [e, it] e (fun i h => (∃ old, IsEnum h e it ((i : Nat) : Int) old) ∧ h.IsTupleIter it a i ∧ e ≠ it) where
  mem := by simp
  obj := fun i h st b hb => by
    obtain ⟨⟨old, he⟩, ⟨o, ho, hc, hd⟩, _⟩ := st
    have e' : b = e ∨ b = it := by simpa using hb
    rcases e' with z | z
    · rw [z]; exact ⟨_, he, fun v q => nomatch q⟩
    · rw [z]; exact ⟨o, ho, fun v q => by rw [hd] at q; cases q⟩
  keep := fun i h h' st k => let ⟨⟨old, he⟩, hi, hne⟩ := st; ⟨⟨old, k e (by simp) _ he⟩, hi.at fun o q => k it (by simp) o q, hne⟩
  item := by
    intro X hP hw hK hc i pins s σ H E I hf st hg
    subst hP hw hK
    obtain ⟨⟨old, he⟩, hit, hne⟩ := st
    obtain ⟨xs, x, hq, hx⟩ := hg
    obtain ⟨its, rv, p, hz⟩ := I.tuple hq
    obtain ⟨u, hu, ru⟩ := rv.get hx
    have hel : e < s.heap.objs.size := Heap.lt_size he
    have hil : it < s.heap.objs.size := by obtain ⟨_, q, _⟩ := hit; exact Heap.lt_size q
    have hia : a ≠ it := fun z => by
      obtain ⟨o1, q1, c1, _⟩ := hit
      obtain ⟨o2, q2, c2, _⟩ := id p
      rw [z, q1] at q2
      cases q2
      rw [c1] at c2
      exact absurd c2 (by decide)
    have hea : e ∉ [it, a] := fun z => by
      have e' : e = it ∨ e = a := by simpa using z
      rcases e' with z | z
      · exact hne z
      · obtain ⟨o2, q2, c2, _⟩ := id p
        rw [← z] at q2
        have := he.symm.trans q2
        cases this
        exact absurd (show Value.type "enumerate" = Value.type "tuple" from c2) (by decide)
    refine wpAny_pyNext_enum_itemD (Draws.tuple (A := X.A.in1) (I.ok.hd hc) it a hia its.toArray) he ⟨hit, p⟩ (List.getElem?_eq_some_iff.mp hu).1 hne hea fun x' h' tk hx' ho hit' hT hsz hk => ?_
    have ex : x' = u := by
      have z : its.toArray[i]? = some x' := hx'
      rw [show its.toArray[i]? = some u from by simpa using hu] at z
      cases z
      rfl
    subst ex
    refine ⟨_, rfl, wpAny_letOwnedTupleGo_enum (s := { s with heap := h', toks := tk + 1 }) ho fun h'' he' sb => ?_⟩
    have hT2 : h''.get? s.heap.objs.size = some { cls := .type "tuple", data := .seq #[.int i tk, x'] } := (sb.2 _ (Nat.ne_of_gt hel)).trans hT
    have new : ObjOk X.prog X.w (upd H s.heap.objs.size (.tup [.int (i : Nat), x])) h'' s.heap.objs.size (.tup [.int (i : Nat), x]) :=
      ⟨by show 2 ≤ sizeLine; decide, [.int i tk, x'], .cons ⟨_, rfl⟩ (.cons ru .nil), ⟨_, hT2, rfl, _, rfl⟩⟩
    have I1 : Inv X pins σ (upd H s.heap.objs.size (.tup [.int (i : Nat), x])) { s with heap := h'', toks := tk + 1 } :=
      I.turnedNew (ch := [e, it]) (fun b ob hb q => (sb.2 b (fun z => hb (by simp [z]))).trans (hk b ob (fun z => hb (by simp [z])) (fun z => hb (by simp [z])) q)) hf (Nat.le_refl _) new
    refine ⟨.ref s.heap.objs.size, _, I1, rfl, ⟨_, x, rfl, I.hok.fresh (Nat.le_refl _), rfl, fun ys hy => by rw [I.tuple_inj hy hq]; exact hx⟩, ⟨⟨x', ?_⟩, hit'.1.at fun o q => (sb.2 it (Ne.symm hne)).trans q, hne⟩, fun b hb => ?_⟩
    · have e1 : ((i + 1 : Nat) : Int) = (i : Int) + 1 := by omega
      rw [e1]; exact he'
    · have hb' : b < s.heap.objs.size := by
        have e' : b = e ∨ b = it := by simpa using hb
        rcases e' with z | z
        · rw [z]; exact hel
        · rw [z]; exact hil
      rw [upd_ne (Nat.ne_of_lt hb')]
      exact (hf b hb).1
  done := by
    intro X hP hw hK hc i pins s σ H E I hf st hg
    subst hP hw hK
    obtain ⟨⟨old, he⟩, hit, hne⟩ := st
    obtain ⟨xs, hq, hx⟩ := hg
    obtain ⟨its, rv, p, hz⟩ := I.tuple hq
    obtain ⟨f0, f1, f2, f3, f4, f5⟩ := hf it (by simp)
    have hl : xs.length = its.length := rv.length
    have hia : a ≠ it := fun z => by
      obtain ⟨o1, q1, c1, _⟩ := hit
      obtain ⟨o2, q2, c2, _⟩ := id p
      rw [z, q1] at q2
      cases q2
      rw [c1] at c2
      exact absurd c2 (by decide)
    have hi : its.toArray.size = i := by rw [List.size_toArray, ← hl]; exact hx
    subst hi
    exact wpAny_pyNext_enum_endD (Draws.tuple (A := X.A.in1) (I.ok.hd hc) it a hia its.toArray) he ⟨hit, p⟩ fun h' eb => ⟨rfl, I.turned (t' := s.toks) (fun b o hb q => eb b o hb q) f0 f1 f3 f4 f5⟩
  self := fun A i s Q E st h => let ⟨⟨_, he⟩, _⟩ := st; wpAny_pyIter_enum he h
def iEnumT (K : PySem.W.Frag) (ta : TA) : TI := fun σ H R => ta σ H fun vs H1 => ∃ a xs, vs = [.ref a] ∧ SqT K H1 a xs ∧ R (IteT K a) H1
theorem pi_enumT {X : Cx} {e : Expr} {ta : TA} {p pos tpos : Pos} {elts : List Expr} {kk : Nat} (hg : Gl X "enumerate") (hm : X.mg "enumerate" = none) (ha : PA X [e] ta) (hs : starEach [e] X.env = [(false, eval e X.env)] := by rfl) :
    PI X (.Tuple elts kk tpos) (.Call (.Name "enumerate" p) [e] [] pos) (iEnumT X.K ta) := by
  refine ⟨fun pins s σ H R I h => ?_⟩
  refine Call_ (ld_blt I hg hm boot_enumerate (PyProof.Rows.callWith_type1 (thn (ha.run pos pins s σ H _ I h) fun us s1 ⟨vs, H1, I1, r1, q1⟩ => ?_) hs rfl))
  obtain ⟨a, xs, ex, hq, q⟩ := q1
  subst ex
  cases r1 with
  | cons r rr =>
    cases rr
    cases r
    obtain ⟨its, rv, p', hz⟩ := I1.tuple hq
    refine enum_begins1 (begins_tuple a its.toArray) p' fun h' he hit hsz hk => wpAny_pyIter_enum he ?_
    have I2 : Inv X pins σ H1 { s1 with heap := h' } := I1.kept (t' := s1.toks) hk
    refine ⟨s1.heap.objs.size + 1, [s1.heap.objs.size + 1, s1.heap.objs.size], _, _, H1, rfl, I2, turn_enumT a (s1.heap.objs.size + 1) s1.heap.objs.size, ⟨⟨.none, he⟩, ⟨_, hit, rfl, rfl⟩, Nat.succ_ne_self _⟩, fun b hb => ?_, q⟩
    have e' : b = s1.heap.objs.size + 1 ∨ b = s1.heap.objs.size := by simpa using hb
    have hle : s1.heap.objs.size ≤ b := by
      rcases e' with z | z
      · rw [z]; exact Nat.le_add_right _ _
      · rw [z]; exact Nat.le_refl _
    exact I1.fpOk hle (I1.hok.fresh hle)
theorem walk_enumT {K : PySem.W.Frag} {a : Addr} {xs : List V} : Walk (IteT K a) xs.length (fun H => SqT K H a xs) (YPair (fun i => some (.int (i : Nat))) (fun i => xs[i]?)) := by
  refine ⟨fun i _ hi q => ⟨xs, xs[i], q, by simp [hi]⟩, fun _ q => ⟨xs, q, rfl⟩, fun i H v H' _ q y => ?_⟩
  obtain ⟨T, x, h1, h2, h3, h4⟩ := y
  exact ⟨T, .int (i : Nat), x, h1, h2, h3, rfl, h4 xs q⟩
end
open PySem L2
section
variable {α β : Type} {K : PySem.W.Frag} {Γ : Ctx} {ta tb te ti tp tk : TE} {tas : TA} {P : Pr} {r : α → Pr} {xs ys zs : List α} {k : Int} {X : Cx}
theorem i_enumV (h : EvA tas Γ [rV r xs]) : EvI (iEnumT K tas) Γ (r2 pI r) (enumI 0 xs) := fun F σ G H e R q =>
  h F σ G H e _ fun vs G1 H1 g1 s1 => by
    obtain ⟨v, rfl, a, vs, h1, h2, h4⟩ := sat1 s1
    subst h1
    have lv : vs.length = xs.length := by rw [h4.len, List.length_map]
    refine ⟨a, vs, rfl, SqT.of (g1.s _ _ h2), q _ (fun H => H a = some (.tup vs) ∧ Sat H vs (xs.map r)) G1 H1 g1 ⟨fun g q => ⟨g _ _ q.1, q.2.m g⟩, fun H => SqT K H a vs, YPair (fun i => some (.int (i : Nat))) (fun i => vs[i]?), ?_, fun G H x s => SqT.of (s _ _ x.1), fun i G H v H' x s hi y => ?_⟩ ⟨h2, h4⟩⟩
    · rw [enumI_len, ← lv]
      exact walk_enumT
    · obtain ⟨T, y1, y2, rfl, hT, rfl, k1, k2⟩ := y
      cases k1
      obtain ⟨z, z1, z2⟩ := sat_map_get x.2 k2
      refine ⟨upd G T (.tup [.int (i : Nat), y2]), ((0 : Int) + (i : Int), z), Gr.new s hT, enumI_get z1, T, _, rfl, upd_same, ?_⟩
      have g := (Gr.new (o := .tup [.int (i : Nat), y2]) s hT).g
      refine ⟨?_, (r z).m g z2, trivial⟩
      show V.int _ = V.int _
      rw [Int.zero_add]
/-! ### + and slices of tuples -/
theorem op_catAK (hK : X.K = K) : OpR X (binaryOp .Add) (rCatA K) := hK ▸ op_catA
theorem sl_tupAK (hK : X.K = K) : SlR X (rSlA K) := hK ▸ sl_tupA
theorem e_catV (ha : EvE ta Γ (rV r xs)) (hb : EvE tb Γ (rV r ys)) (h : catM xs ys = some zs) : EvE (tOp (rCatA K) ta tb) Γ (rV r zs) := fun F σ G H e Q q => by
  obtain ⟨hz, rfl⟩ := if_some h
  refine ha F σ G H e _ fun a G1 H1 g1 p1 => hb F σ G1 H1 (e.grow g1) _ fun b G2 H2 g2 p2 => ?_
  obtain ⟨a, vs, rfl, h2, h3⟩ := (rV r xs).m g2.g p1
  obtain ⟨b, ws, rfl, k2, k3⟩ := p2
  have lv : vs.length = xs.length := by rw [h3.len, List.length_map]
  have lw : ws.length = ys.length := by rw [k3.len, List.length_map]
  have em : (xs ++ ys).map r = xs.map r ++ ys.map r := List.map_append
  refine ⟨a, b, vs, ws, rfl, rfl, SqT.of (g2.s _ _ h2), SqT.of (g2.s _ _ k2), by rw [lv, lw]; exact hz, fun z => ?_, fun _ z => ?_, fun _ _ p hp => ?_⟩
  · refine q _ G2 H2 (g1.trans g2) ⟨b, ws, rfl, k2, ?_⟩
    rw [em]
    have := h3.app k3
    rw [z] at this
    exact this
  · refine q _ G2 H2 (g1.trans g2) ⟨a, vs, rfl, h2, ?_⟩
    rw [em]
    have := h3.app k3
    rw [z, List.append_nil] at this
    exact this
  · refine q _ _ _ ((g1.trans g2).trans (Gr.new g2.s hp)) ⟨p, _, rfl, upd_same, ?_⟩
    rw [em]
    exact (h3.app k3).m (Gr.new (o := .tup (vs ++ ws)) g2.s hp).g
end
end Y

set_option Elab.async false
set_option linter.all false
set_option maxRecDepth 100000
namespace Y
open PySem L2
/-! ### a dict of regions of one's own: new, a region under a new key -/
section
variable {K : PySem.W.Frag} {Γ : Ctx} {ta tb td tk tv te ti : TE} {i : Nat} {P : Pr} {W : Ow} {Ws : List (Key × Ow)} {k : Key}
theorem w_dnewO (h : EvW te Γ (oD [])) : EvW te Γ (oDs []) := fun F σ G H e Q q => h F σ G H e Q fun v L G' H' g hL ⟨a, o, h1, h2, h3, vs, h4, h5⟩ => by
  refine q v L G' H' g hL ?_
  subst h4
  cases vs with
  | nil => exact ⟨a, [], [], h1, h3, rfl, trivial, fun z => (by simp at z), h2⟩
  | cons _ _ => exact h5.elim
theorem any_of_keys {vs : List (Key × V)} {Ws : List (Key × Ow)} (h : vs.map (·.1) = Ws.map (·.1)) : (vs.any fun kv => decide (kv.1 = k)) = (Ws.any fun kv => decide (kv.1 = k)) := by
  have e1 : ∀ {ρ : Type} (xs : List (Key × ρ)), (xs.any fun kv => decide (kv.1 = k)) = ((xs.map (·.1)).any fun x => decide (x = k)) := fun xs => by
    rw [List.any_map]
    rfl
  rw [e1, e1, h]
theorem s_dputO (hi : Γ[i]? = some (.own (oDs Ws))) (hv : EvW tv Γ W) (hk : EvE tk Γ (pK k)) (hz : Ws.length < sizeLine) (hn : (Ws.any fun kv => decide (kv.1 = k)) = false) : StS (sDPut (tVar i) tk tv) Γ (.nx (Γ.set i (.own (oDs (Ws ++ [(k, W)]))))) := fun F σ G H D ⟨Ls, e⟩ g =>
  hv F σ G H ⟨Ls, e⟩ _ fun v L G1 H1 g1 hL hw => by
    obtain ⟨x, h1, hu⟩ := (e.at_ i _ hi).own_
    have f : Foc F Γ σ i (oDs Ws) Eq Ls x (Ls i) G H := ⟨e, ⟨_, hi⟩, hu, fun _ h => h, fun pw _ _ hu _ => ⟨x, _, h1, pw ▸ hu, fun a ha => .inr ha⟩⟩
    obtain ⟨a, vs, Lk, h2, h3, h4, h5, h6, h7⟩ := id hu
    subst h2
    refine ⟨.ref a, h1, hk F σ G1 H1 (EOk.grow ⟨Ls, e⟩ g1) _ fun y G2 H2 g2 p2 => ?_⟩
    have gr := g1.trans g2
    have n1 : ∀ b ∈ a :: Lk.flatten, H b ≠ none := fun b hb => (e.fr i _ hi b (h7 ▸ hb)).2.2
    have n2 : ∀ b ∈ a :: Lk.flatten, G b = none := fun b hb => (e.fr i _ hi b (h7 ▸ hb)).1
    have ha : H2 a = some (.dK vs) := gr.h _ _ h3
    have lv : vs.length = Ws.length := by
      have := congrArg List.length h4
      simpa using this
    have ep : putK vs k v = vs ++ [(k, v)] := by
      unfold putK
      rw [any_of_keys h4, hn, if_neg Bool.false_ne_true]
    have na : a ∉ L := fun q => by
      rw [(hL a q).1] at h3
      cases h3
    have ga : G2 a = none := gr.f a (n1 a List.mem_cons_self) (n2 a List.mem_cons_self)
    have fe : (Lk ++ [L]).flatten = Lk.flatten ++ L := by rw [List.flatten_append, List.flatten_cons, List.flatten_nil, List.append_nil]
    have hL2 : ∀ b ∈ L, H b = none ∧ G2 b = none ∧ H2 b ≠ none := fun b hb => ⟨(hL b hb).1, g2.f b (hL b hb).2.2 (hL b hb).2.1, fun z => (hL b hb).2.2 (g2.h.free z)⟩
    have hw2 : W.p G2 H2 v L := W.m g2.g (fun b hb => g2.h.at (hL b hb).2.2) hw
    refine ⟨a, _, rfl, .inl ⟨vs, k, ha, p2, by rw [lv]; exact hz, rfl⟩, g σ G2 _ ?_⟩
    rw [ep]
    refine f.chg (U' := oDs (Ws ++ [(k, W)])) (Lu' := a :: (Lk ++ [L]).flatten) rfl gr.g (Gw.mut gr.s ga) (fun b hb hn => ?_) (fun b _ h1 h2 => gr.f b h1 h2) ⟨a, vs ++ [(k, v)], Lk ++ [L], rfl, upd_same, ?_, ?_, ?_, rfl⟩ fun b hb => ?_
    · rw [upd_ne fun z => hb (by rw [z, h7]; exact List.mem_cons_self)]
      exact gr.h.at hn
    · rw [List.map_append, List.map_append, h4]
      rfl
    · rw [List.map_append, List.map_append]
      refine SW.snoc (W.m (Gw.refl _) (fun b hb => upd_ne fun z => na (by rw [← z]; exact hb)) hw2) (h5.m gr.g fun b hb => ?_) fun b hb q => n1 b (List.mem_cons_of_mem _ q) (hL b hb).1
      rw [upd_ne fun z => h6 (by rw [← z]; exact hb)]
      exact gr.h.at (n1 b (List.mem_cons_of_mem _ hb))
    · rw [fe, List.mem_append]
      exact fun z => z.elim h6 na
    · rw [fe] at hb
      rcases List.mem_cons.mp hb with z | z
      · subst z
        exact ⟨.inl (h7 ▸ List.mem_cons_self), ga, by rw [upd_same]; exact fun z => nomatch z⟩
      · have nb : b ≠ a := fun q => by
          subst q
          exact (List.mem_append.mp z).elim h6 na
        rw [upd_ne nb]
        rcases List.mem_append.mp z with z | z
        · have m := List.mem_cons_of_mem a z
          exact ⟨.inl (h7 ▸ m), gr.f b (n1 b m) (n2 b m), fun q => n1 b m (gr.h.free q)⟩
        · exact ⟨.inr (hL b z).1, (hL2 b z).2⟩
end
section
variable {α : Type} {K : PySem.W.Frag} {Γ : Ctx} {ta tb td tk tv te ti : TE} {i : Nat} {o : α → Ow} {r : α → Pr} {kvs zs : List (Key × α)} {xs : List α} {k : Key} {a : α}
/-- under a new key -/
def dputN (kvs : List (Key × α)) (k : Key) (a : α) : Option (List (Key × α)) := if kvs.length < sizeLine ∧ (kvs.any fun kv => decide (kv.1 = k)) = false then some (kvs ++ [(k, a)]) else none
theorem s_dputOM (hi : Γ[i]? = some (.own (oDs (kvs.map (oK o))))) (hv : EvW tv Γ (o a)) (hk : EvE tk Γ (pK k)) (h : dputN kvs k a = some zs) : StS (sDPut (tVar i) tk tv) Γ (.nx (Γ.set i (.own (oDs (zs.map (oK o)))))) := by
  obtain ⟨⟨h1, h2⟩, rfl⟩ := if_some h
  rw [List.map_append]
  exact s_dputO hi hv hk (by rw [List.length_map]; exact h1) (by rw [List.any_map]; exact h2)
theorem w_dnewOM (h : EvW te Γ (oD [])) : EvW te Γ (oDs (([] : List (Key × α)).map (oK o))) := w_dnewO h
/-- t[lo:hi] -/
theorem e_slV {tl th : TO} {lo hi : Option Int} (hx : EvE ta Γ (rV r xs)) (hl : EvO tl Γ lo) (hh : EvO th Γ hi) : EvE (tSl (rSlA K) ta tl th) Γ (rV r (cutP xs lo hi)) := fun F σ G H e Q q =>
  hx F σ G H e _ fun a G1 H1 g1 p1 => hl F σ G1 H1 (e.grow g1) _ fun G2 H2 g2 => hh F σ G2 H2 ((e.grow g1).grow g2) _ fun G3 H3 g3 => by
    obtain ⟨a, vs, rfl, h2, h3⟩ := p1
    have g23 := g2.trans g3
    have lv : vs.length = xs.length := by rw [h3.len, List.length_map]
    have s4 : Sat G3 (cutV vs lo hi) ((cutP xs lo hi).map r) := by
      rw [← cut_map]
      unfold cutV cutP
      rw [← h3.len]
      exact ((h3.m g23.g).drop _).take _
    refine ⟨a, vs, rfl, SqT.of (g23.h _ _ (g1.s _ _ h2)), fun z => ?_, fun z p hp => ?_⟩
    · have e : cutV vs lo hi = vs := by
        unfold cutV
        rw [z.1, z.2, List.drop_zero, Nat.sub_zero, List.take_length]
      rw [e] at s4
      exact q _ G3 H3 (g1.trans g23) ⟨a, vs, rfl, g23.g _ _ h2, s4⟩
    · exact q _ _ _ ((g1.trans g23).trans (Gr.new g3.s hp)) ⟨p, _, rfl, upd_same, s4.m (Gr.new (o := .tup (cutV vs lo hi)) g3.s hp).g⟩
/-! ### & -/
theorem rr_and {i j : Int} : RR (rI0 fun i j => .int (Builtin.bitAnd i j)) (pI i) (pI j) (pI (Builtin.bitAnd i j)) := rr_I0
/-- a module's number -/
theorem pe_gI {X : Cx} {x : Str} {n : Int} {pos : Pos} (hg : Gl X x) (hm : ∃ t, X.mg x = some (.int n t)) (hd : (x == ("__debug__" : Str)) = false := by decide) : PE X (.Name x pos) (tC (.int n)) := by
  obtain ⟨t, h⟩ := hm
  exact pe_glob hg h ⟨t, rfl⟩ hd
end
/-! ### a list or a tuple, of which only its items matter -/
def pOr (P Q : Pr) : Pr := ⟨fun H v => P.p H v ∨ Q.p H v, fun g h => h.imp (P.m g) (Q.m g)⟩
abbrev rLV {α : Type} (r : α → Pr) : List α → Pr := fun xs => pOr (rL r xs) (rV r xs)
def rIxLT (K : PySem.W.Frag) : R2 := fun x y H Q => rIxL K x y H Q ∨ rIxT K x y H Q
section
variable {α : Type} {K : PySem.W.Frag} {Γ : Ctx} {ta tb : TE} {P Q : Pr} {r : α → Pr} {xs : List α} {k : Int} {a : α} {X : Cx}
theorem ix_bothK (hK : X.K = K) : IxR X (rIxLT K) := by
  subst hK
  intro value slice pins s σ H x y v u Q I rx ry h hs
  rcases h with h | h
  · exact ix_list value slice pins s σ H x y v u Q I rx ry h hs
  · exact ix_tup value slice pins s σ H x y v u Q I rx ry h hs
theorem e_orL (h : EvE ta Γ P) : EvE ta Γ (pOr P Q) := fun F σ G H e R q => h F σ G H e R fun v G' H' g p => q v G' H' g (.inl p)
theorem e_orR (h : EvE ta Γ Q) : EvE ta Γ (pOr P Q) := fun F σ G H e R q => h F σ G H e R fun v G' H' g p => q v G' H' g (.inr p)
theorem e_ixLV (hl : EvE ta Γ (rLV r xs)) (hi : EvE tb Γ (pI k)) (h : atI xs k = some a) : EvE (tOp (rIxLT K) ta tb) Γ (r a) := fun F σ G H e R q =>
  hl F σ G H e _ fun v G1 H1 g1 p1 => hi F σ G1 H1 (e.grow g1) _ fun y G2 H2 g2 p2 => by
    rcases p1 with ⟨a', o, e1, s1, vs, e3, s2, s3⟩ | ⟨a', vs, e1, s1, s2⟩
    · subst e3
      obtain ⟨v, h1, h2⟩ := sat_atI (s2.m g2.g) (atI_map (r := r) h)
      exact .inl ⟨a', vs, k, v, e1, p2, SqL.of (g2.s _ _ (g2.g _ _ s1)), h1, q v G2 H2 (g1.trans g2) h2⟩
    · obtain ⟨v, h1, h2⟩ := sat_atI (s2.m g2.g) (atI_map (r := r) h)
      exact .inr ⟨a', vs, k, v, e1, p2, SqT.of (g2.s _ _ (g2.g _ _ s1)), h1, q v G2 H2 (g1.trans g2) h2⟩
end
/-! ### a text and some ints, unpacked -/
section
variable {ρ : Type} {r : ρ}
def un2 (c : Str × List Int) (f : Str → Int → Option ρ) : Option ρ := match c with
  | (t, [a]) => f t a
  | _ => none
def un3 (c : Str × List Int) (f : Str → Int → Int → Option ρ) : Option ρ := match c with
  | (t, [a, b]) => f t a b
  | _ => none
def un4 (c : Str × List Int) (f : Str → Int → Int → Int → Option ρ) : Option ρ := match c with
  | (t, [a, b, d]) => f t a b d
  | _ => none
theorem un2_some {c : Str × List Int} {f : Str → Int → Option ρ} (h : un2 c f = some r) : ∃ t a, c = (t, [a]) ∧ f t a = some r := by
  unfold un2 at h
  split at h
  · exact ⟨_, _, rfl, h⟩
  · cases h
theorem un3_some {c : Str × List Int} {f : Str → Int → Int → Option ρ} (h : un3 c f = some r) : ∃ t a b, c = (t, [a, b]) ∧ f t a b = some r := by
  unfold un3 at h
  split at h
  · exact ⟨_, _, _, rfl, h⟩
  · cases h
theorem un4_some {c : Str × List Int} {f : Str → Int → Int → Int → Option ρ} (h : un4 c f = some r) : ∃ t a b d, c = (t, [a, b, d]) ∧ f t a b d = some r := by
  unfold un4 at h
  split at h
  · exact ⟨_, _, _, _, rfl, h⟩
  · cases h
end
end Y

set_option Elab.async false
set_option linter.all false
set_option maxRecDepth 100000
namespace Y
open PySem L2
/-! ### what the mirrors' operations give -/
section
variable {α β γ σ τ : Type} {xs ys : List α}
theorem szM_ok (h : xs.length ≤ 16000000) : szM xs = some xs := if_pos (Nat.le_trans h (by decide))
theorem appM_ok {x : α} (h : xs.length < 16000000) : appM xs x = some (xs ++ [x]) := if_pos (Nat.lt_of_lt_of_le h (by decide))
theorem catM_ok (h : xs.length + ys.length ≤ 16000000) : catM xs ys = some (xs ++ ys) := if_pos (Nat.le_trans h (by decide))
theorem rangeI0 (n : Nat) : rangeI 0 n = (List.range n).map (fun k : Nat => (k : Int)) := by
  unfold rangeI
  simp
theorem rngM_ok {n : Nat} (h : n ≤ 16000000) : rngM (n : Int) = some ((List.range n).map (fun k : Nat => (k : Int))) := by
  unfold rngM
  rw [if_pos (by omega), Int.toNat_natCast, rangeI0]
theorem repM_one {x : α} {n : Nat} (h : n ≤ 16000000) : repM [x] (n : Int) = some (List.replicate n x) := by
  have e : (List.replicate n [x]).flatten = List.replicate n x := by
    clear h
    induction n with
    | zero => rfl
    | succ n ih => rw [List.replicate_succ, List.flatten_cons, ih, List.replicate_succ]; rfl
  have z : sizeLine = 16777216 := by decide
  unfold repM
  rw [if_pos ⟨by omega, by rw [z, Int.toNat_natCast, List.length_singleton]; omega⟩, Int.toNat_natCast, e]
theorem atI_n {i : Nat} : atI xs (i : Int) = xs[i]? := by
  unfold atI ixN
  by_cases h : i < xs.length
  · rw [if_pos (by omega), if_pos (by omega), Int.toNat_natCast] <;> rfl
  · rw [if_pos (by omega), if_neg (by omega), List.getElem?_eq_none (by omega)] <;> rfl
theorem setM_n {i : Nat} {x : α} (h : i < xs.length) : setM xs (i : Int) x = some (xs.set i x) := by
  unfold setM ixN
  rw [if_pos (by omega), if_pos (by omega), Int.toNat_natCast] <;> rfl
theorem mapO_ok {f : α → Option β} (g : α → β) (h : ∀ x ∈ xs, f x = some (g x)) : mapO f xs = some (xs.map g) := by
  induction xs with
  | nil => rfl
  | cons x xs ih =>
    unfold mapO
    rw [h x List.mem_cons_self, ih fun y hy => h y (List.mem_cons_of_mem _ hy)]
    rfl
theorem lcM_ok {p : α → Option Bool} {f : α → Option β} (q : α → Bool) (e : α → β) (h : ∀ x ∈ xs, p x = some (q x)) (he : ∀ x ∈ xs, f x = some (e x)) : lcM p f xs = some ((xs.filter q).map e) := by
  induction xs with
  | nil => rfl
  | cons x xs ih =>
    have ih := ih (fun y hy => h y (List.mem_cons_of_mem _ hy)) fun y hy => he y (List.mem_cons_of_mem _ hy)
    unfold lcM
    rw [h x List.mem_cons_self, ih, he x List.mem_cons_self, List.filter_cons]
    cases q x <;> rfl
theorem enumI_eq : ∀ (xs : List α) (lo : Int), enumI lo xs = xs.mapIdx fun i x => (lo + (i : Int), x)
  | [], _ => rfl
  | x :: xs, lo => by
    rw [List.mapIdx_cons]
    unfold enumI
    rw [enumI_eq xs (lo + 1)]
    congr 1
    · simp
    · congr 1
      funext i y
      rw [show lo + 1 + (i : Int) = lo + ((i + 1 : Nat) : Int) by omega]
/-! ### folds -/
theorem fold_cons {f : β → α → Option β} {x : α} {b : β} : (x :: xs).foldlM f b = (f b x).bind fun c => xs.foldlM f c := rfl
theorem fold_inv {f : β → α → Option β} (P : β → Prop) (h : ∀ b x, x ∈ xs → P b → ∃ c, f b x = some c ∧ P c) : ∀ {b : β}, P b → ∃ c, xs.foldlM f b = some c ∧ P c := by
  induction xs with
  | nil => exact fun {b} hb => ⟨b, rfl, hb⟩
  | cons x xs ih =>
    intro b hb
    obtain ⟨c, h1, h2⟩ := h b x List.mem_cons_self hb
    rw [fold_cons, h1]
    exact ih (fun b y hy => h b y (List.mem_cons_of_mem _ hy)) h2
theorem fold_congr {f g : β → α → Option β} (h : ∀ b x, x ∈ xs → f b x = g b x) : ∀ {b : β}, xs.foldlM f b = xs.foldlM g b := by
  induction xs with
  | nil => exact fun {b} => rfl
  | cons x xs ih =>
    intro b
    rw [fold_cons, fold_cons, h b x List.mem_cons_self]
    congr 1
    funext c
    exact ih fun b y hy => h b y (List.mem_cons_of_mem _ hy)
theorem fold_filter {f : β → α → Option β} {p : α → Bool} : ∀ {xs : List α} {b : β}, (xs.filter p).foldlM f b = xs.foldlM (fun b x => if p x then f b x else some b) b
  | [], _ => rfl
  | x :: xs, b => by
    rw [List.filter_cons, fold_cons]
    cases p x with
    | true =>
      rw [if_pos rfl, if_pos rfl, fold_cons]
      congr 1
      funext c
      exact fold_filter
    | false =>
      rw [if_neg (by decide), if_neg (by decide)]
      exact fold_filter
theorem fold_map {f : β → γ → Option β} {g : α → γ} : ∀ {xs : List α} {b : β}, (xs.map g).foldlM f b = xs.foldlM (fun b x => f b (g x)) b
  | [], _ => rfl
  | x :: xs, b => by
    rw [List.map_cons, fold_cons, fold_cons]
    congr 1
    funext c
    exact fold_map
/-- two states that do not know of each other -/
theorem fold_pair {f : β × γ → α → Option (β × γ)} {g : β → α → Option β} {h : γ → α → Option γ} (P : β → Prop) (Q : γ → Prop)
    (hf : ∀ b c x, x ∈ xs → P b → Q c → ∃ b' c', g b x = some b' ∧ h c x = some c' ∧ P b' ∧ Q c' ∧ f (b, c) x = some (b', c')) :
    ∀ {b : β} {c : γ}, P b → Q c → ∃ b' c', xs.foldlM g b = some b' ∧ xs.foldlM h c = some c' ∧ P b' ∧ Q c' ∧ xs.foldlM f (b, c) = some (b', c') := by
  induction xs with
  | nil => exact fun {b c} hb hc => ⟨b, c, rfl, rfl, hb, hc, rfl⟩
  | cons x xs ih =>
    intro b c hb hc
    obtain ⟨b', c', h1, h2, h3, h4, h5⟩ := hf b c x List.mem_cons_self hb hc
    rw [fold_cons, fold_cons, fold_cons, h1, h2, h5]
    exact ih (fun b c y hy => hf b c y (List.mem_cons_of_mem _ hy)) h3 h4
/-- two folds side by side -/
theorem fold_two {f : β → σ → Option β} {g : γ → τ → Option γ} (R : Nat → β → γ → Prop) : ∀ {us : List σ} {ws : List τ} {k : Nat} {b : β} {c : γ}, us.length = ws.length →
    (∀ i b c u w, us[i]? = some u → ws[i]? = some w → R (k + i) b c → ∃ b' c', f b u = some b' ∧ g c w = some c' ∧ R (k + i + 1) b' c') → R k b c → ∃ b' c', us.foldlM f b = some b' ∧ ws.foldlM g c = some c' ∧ R (k + us.length) b' c'
  | [], [], k, b, c, _, _, r => ⟨b, c, rfl, rfl, r⟩
  | u :: us, w :: ws, k, b, c, l, h, r => by
    obtain ⟨b', c', h1, h2, h3⟩ := h 0 b c u w rfl rfl r
    rw [fold_cons, fold_cons, h1, h2]
    obtain ⟨b2, c2, k1, k2, k3⟩ := fold_two (f := f) (g := g) R (us := us) (ws := ws) (k := k + 1) (b := b') (c := c') (Nat.succ.inj l) (fun i b c u w hu hw r => by
      have := h (i + 1) b c u w (by simpa using hu) (by simpa using hw) (by rw [show k + (i + 1) = k + 1 + i by omega]; exact r)
      rw [show k + (i + 1) + 1 = k + 1 + i + 1 by omega] at this
      exact this) h3
    exact ⟨b2, c2, k1, k2, by rw [List.length_cons, show k + (us.length + 1) = k + 1 + us.length by omega]; exact k3⟩
  | [], _ :: _, _, _, _, l, _, _ => nomatch l
  | _ :: _, [], _, _, _, l, _, _ => nomatch l
/-- items set one by one, each by what stood there -/
theorem fold_set {f : List α → Nat → Option (List α)} (v : Nat → α → α) : ∀ {ks : List Nat} {acc : List α}, ks.Nodup → (∀ k ∈ ks, k < xs.length) → acc.length = xs.length → (∀ k ∈ ks, acc[k]? = xs[k]?) →
    (∀ acc k a, k ∈ ks → acc.length = xs.length → acc[k]? = some a → xs[k]? = some a → f acc k = some (acc.set k (v k a))) → ks.foldlM f acc = some (acc.mapIdx fun i a => if i ∈ ks then v i a else a)
  | [], acc, _, _, _, _, _ => by
    show some acc = _
    congr 1
    refine List.ext_getElem? fun i => ?_
    rw [List.getElem?_mapIdx]
    cases acc[i]? <;> simp
  | k :: ks, acc, nd, hb, hl, he, hf => by
    obtain ⟨nk, nd⟩ := List.nodup_cons.mp nd
    have hk := hb k List.mem_cons_self
    obtain ⟨a, ha⟩ : ∃ a, xs[k]? = some a := ⟨_, List.getElem?_eq_getElem hk⟩
    have ha' : acc[k]? = some a := (he k List.mem_cons_self).trans ha
    rw [fold_cons, hf acc k a List.mem_cons_self hl ha' ha]
    show ks.foldlM f (acc.set k (v k a)) = _
    rw [fold_set v nd (fun j hj => hb j (List.mem_cons_of_mem _ hj)) (by rw [List.length_set]; exact hl) (fun j hj => by
      rw [List.getElem?_set_ne (fun z => nk (by rw [z]; exact hj))]
      exact he j (List.mem_cons_of_mem _ hj)) fun acc j a hj => hf acc j a (List.mem_cons_of_mem _ hj)]
    congr 1
    refine List.ext_getElem? fun i => ?_
    rw [List.getElem?_mapIdx, List.getElem?_mapIdx]
    by_cases z : k = i
    · subst z
      rw [List.getElem?_set_self (by rw [hl]; exact hk), ha']
      simp [nk]
    · rw [List.getElem?_set_ne z]
      have z' : ¬ i = k := fun q => z q.symm
      cases acc[i]? <;> simp [z']
theorem fold_setR {f : List α → Nat → Option (List α)} (v : Nat → α → α) (hf : ∀ acc k a, acc.length = xs.length → acc[k]? = some a → xs[k]? = some a → f acc k = some (acc.set k (v k a))) : (List.range xs.length).foldlM f xs = some (xs.mapIdx v) := by
  rw [fold_set v List.nodup_range (fun k hk => List.mem_range.mp hk) rfl (fun _ _ => rfl) fun acc k a _ => hf acc k a]
  congr 1
  refine List.ext_getElem? fun i => ?_
  rw [List.getElem?_mapIdx, List.getElem?_mapIdx]
  by_cases h : i < xs.length
  · rw [List.getElem?_eq_getElem h]
    simp [h]
  · rw [List.getElem?_eq_none (by omega)]
    rfl
theorem set_same {i : Nat} {a : α} (h : xs[i]? = some a) : xs.set i a = xs := set_self h
end
/-! ### dicts as sets -/
theorem valT_putT {ρ : Type} {kvs : List (Key × ρ)} {k j : Key} {v : ρ} : (valT (putT kvs k v) j).isSome = (decide (k = j) || (valT kvs j).isSome) := by
  unfold valT putT
  rw [Option.isSome_map, Option.isSome_map]
  by_cases h : (kvs.any fun kv => decide (kv.1 = k)) = true
  · rw [if_pos h]
    rw [Bool.eq_iff_iff]
    simp only [List.find?_isSome, List.mem_map, Bool.or_eq_true, decide_eq_true_eq]
    obtain ⟨kv, m1, m2⟩ := List.any_eq_true.mp h
    have m2 := of_decide_eq_true m2
    constructor
    · rintro ⟨x, ⟨y, hy, rfl⟩, hx⟩
      by_cases z : y.1 = k
      · rw [if_pos z] at hx
        exact .inl (z ▸ hx)
      · rw [if_neg z] at hx
        exact .inr ⟨y, hy, hx⟩
    · rintro (rfl | ⟨y, hy, hx⟩)
      · exact ⟨_, ⟨kv, m1, rfl⟩, by rw [if_pos m2]; exact m2⟩
      · refine ⟨_, ⟨y, hy, rfl⟩, ?_⟩
        by_cases z : y.1 = k
        · rw [if_pos z]
          exact hx
        · rw [if_neg z]
          exact hx
  · rw [if_neg h, List.find?_append]
    cases h1 : (kvs.find? fun kv => decide (kv.1 = j)) with
    | some _ => simp
    | none => by_cases z : k = j <;> simp [z]
theorem dcM_set {xs : List Int} : ∀ {acc : List (Key × Bool)}, ∃ d, dcM (fun _ => some true) (fun x => some (.inl x)) (fun _ => some true) acc xs = some d ∧ ∀ x : Int, (valT d (.inl x)).isSome = ((valT acc (.inl x)).isSome || decide (x ∈ xs)) := by
  induction xs with
  | nil => exact fun {acc} => ⟨acc, rfl, fun x => by simp⟩
  | cons y ys ih =>
    intro acc
    obtain ⟨d, h1, h2⟩ := ih (acc := putT acc (.inl y) true)
    refine ⟨d, h1, fun x => ?_⟩
    rw [h2 x, valT_putT]
    by_cases z : y = x
    · subst z
      simp
    · have z' : ¬ (Sum.inl y : Key) = Sum.inl x := fun q => z (Sum.inl.inj q)
      have z2 : ¬ x = y := fun q => z q.symm
      simp [z', z2]
end Y

set_option Elab.async false
set_option linter.all false
set_option maxRecDepth 100000
set_option synthInstance.maxSize 2000
set_option maxHeartbeats 4000000
namespace K18
open PySem L2 Y
def topS (i : Nat) : Stmt := PySem.Challenge.pw_spikehold_k18_states_of_a_network.main.body.getD i (.Pass ⟨0, 0, 0, 0⟩)
structure Neuron where
  threshold : Int
  leak : Int
  refractory : Int
  floor : Int
  subtract : Bool
deriving DecidableEq
def ns_Neuron : List Str := ["threshold", "leak", "refractory", "floor", "subtract"]
theorem nd_Neuron : ns_Neuron.Nodup := by decide +kernel
def fNeuron (K : PySem.W.Frag) (c : Neuron) : List Pr := [(pI c.threshold), (pI c.leak), (pI c.refractory), (pI c.floor), (pB c.subtract)]
def rNeuron (K : PySem.W.Frag) (c : Neuron) : Pr := pO (He.ga K "Neuron") ns_Neuron (fNeuron K c)
theorem nn_Neuron {K : PySem.W.Frag} : NN (rNeuron K) := fun _ _ h => nomatch h.choose_spec.choose_spec.1
structure Synapse where
  source : Int
  target : Int
  weight : Int
  delay : Int
  plastic : Bool
deriving DecidableEq
def ns_Synapse : List Str := ["source", "target", "weight", "delay", "plastic"]
theorem nd_Synapse : ns_Synapse.Nodup := by decide +kernel
def fSynapse (K : PySem.W.Frag) (c : Synapse) : List Pr := [(pI c.source), (pI c.target), (pI c.weight), (pI c.delay), (pB c.plastic)]
def rSynapse (K : PySem.W.Frag) (c : Synapse) : Pr := pO (He.ga K "Synapse") ns_Synapse (fSynapse K c)
theorem nn_Synapse {K : PySem.W.Frag} : NN (rSynapse K) := fun _ _ h => nomatch h.choose_spec.choose_spec.1
structure Rule where
  gain : Int
  loss : Int
  window : Int
  least : Int
  most : Int
deriving DecidableEq
def ns_Rule : List Str := ["gain", "loss", "window", "least", "most"]
theorem nd_Rule : ns_Rule.Nodup := by decide +kernel
def fRule (K : PySem.W.Frag) (c : Rule) : List Pr := [(pI c.gain), (pI c.loss), (pI c.window), (pI c.least), (pI c.most)]
def rRule (K : PySem.W.Frag) (c : Rule) : Pr := pO (He.ga K "Rule") ns_Rule (fRule K c)
theorem nn_Rule {K : PySem.W.Frag} : NN (rRule K) := fun _ _ h => nomatch h.choose_spec.choose_spec.1
structure Network where
  inputs : Int
  neurons : (List Neuron)
  synapses : (List Synapse)
  rule : (Option Rule)
deriving DecidableEq
def ns_Network : List Str := ["inputs", "neurons", "synapses", "rule"]
theorem nd_Network : ns_Network.Nodup := by decide +kernel
def fNetwork (K : PySem.W.Frag) (c : Network) : List Pr := [(pI c.inputs), ((rL (rNeuron K)) c.neurons), ((rL (rSynapse K)) c.synapses), ((pOpt (rRule K)) c.rule)]
def rNetwork (K : PySem.W.Frag) (c : Network) : Pr := pO (He.ga K "Network") ns_Network (fNetwork K c)
theorem nn_Network {K : PySem.W.Frag} : NN (rNetwork K) := fun _ _ h => nomatch h.choose_spec.choose_spec.1
structure Run where
  spikes : (List (List Int))
  weights : (List Int)
deriving DecidableEq
def ns_Run : List Str := ["spikes", "weights"]
theorem nd_Run : ns_Run.Nodup := by decide +kernel
def fRun (K : PySem.W.Frag) (c : Run) : List Pr := [((rL (rL pI)) c.spikes), ((rL pI) c.weights)]
def rRun (K : PySem.W.Frag) (c : Run) : Pr := pO (He.ga K "Run") ns_Run (fRun K c)
def oRun (K : PySem.W.Frag) (c : Run) : Ow := oOs (He.ga K "Run") ns_Run [(oL (c.spikes.map (rL pI))), (oL (c.weights.map pI))]
theorem frz_Run (K : PySem.W.Frag) (c : Run) : Frz (oRun K c) (rRun K c) := frz_Os (.cons frz_L (.cons frz_L .nil))
theorem nt_Run (K : PySem.W.Frag) (c : Run) : NtW (oRun K c) := nt_Os (nt_cons nt_L (nt_cons nt_L nt_nil))
theorem nn_Run {K : PySem.W.Frag} : NN (rRun K) := fun _ _ h => nomatch h.choose_spec.choose_spec.1
abbrev st_Neuron__init : Stmt := inClass (topS 1) 0
abbrev st_Neuron__eq : Stmt := inClass (topS 1) 1
abbrev st_u_left_after_spike : Stmt := topS 4
abbrev st_Synapse__init : Stmt := inClass (topS 6) 0
abbrev st_Rule__init : Stmt := inClass (topS 7) 0
abbrev st_Network__init : Stmt := inClass (topS 8) 0
abbrev st_Network_sources : Stmt := inClass (topS 8) 2
abbrev st_Run__init : Stmt := inClass (topS 9) 0
abbrev st_depressed : Stmt := topS 10
abbrev st_potentiated : Stmt := topS 11
abbrev st_state_at_start : Stmt := topS 13
abbrev st_weights_of : Stmt := topS 16
abbrev st_u_incoming_sums : Stmt := topS 19
abbrev st_u_is_recent : Stmt := topS 22
abbrev st_u_noted : Stmt := topS 23
abbrev st_u_spiking_sources : Stmt := topS 24
abbrev st_initial_state : Stmt := topS 27
abbrev st_u_law_cell : Stmt := topS 36
abbrev st_u_after_losses : Stmt := topS 20
abbrev st_u_effects : Stmt := topS 32
abbrev st_u_law_claims : Stmt := topS 42
abbrev st_Synapse__eq : Stmt := inClass (topS 6) 1
abbrev st_Rule__eq : Stmt := inClass (topS 7) 1
abbrev st_Network__eq : Stmt := inClass (topS 8) 1
abbrev st_Run__eq : Stmt := inClass (topS 9) 1
abbrev st_u_leaked : Stmt := topS 3
abbrev st_u_has_fired : Stmt := topS 18
abbrev st_u_after_gains : Stmt := topS 21
abbrev st_stimulus_of : Stmt := topS 29
abbrev st_next_watch : Stmt := topS 30
abbrev st_is_broken : Stmt := topS 31
abbrev st_u_with_sources : Stmt := topS 34
abbrev st_u_law_neuron : Stmt := topS 37
abbrev st_u_law_synapse : Stmt := topS 38
abbrev st_u_law_stimuli : Stmt := topS 40
abbrev st_u_law_breaks : Stmt := topS 41
abbrev st_step : Stmt := topS 2
abbrev st_u_arriving : Stmt := topS 17
abbrev st_u_law_network : Stmt := topS 39
abbrev st_after_steps : Stmt := topS 15
abbrev st_state_after : Stmt := topS 14
abbrev st_u_before_stimulus : Stmt := topS 33
abbrev st_run : Stmt := topS 12
abbrev st_advance : Stmt := topS 28
abbrev st_law : Stmt := topS 43
structure Fds where
  Neuron__init : FuncData
  Neuron__eq : FuncData
  u_left_after_spike : FuncData
  Synapse__init : FuncData
  Rule__init : FuncData
  Network__init : FuncData
  Network_sources : FuncData
  Run__init : FuncData
  depressed : FuncData
  potentiated : FuncData
  state_at_start : FuncData
  weights_of : FuncData
  u_incoming_sums : FuncData
  u_is_recent : FuncData
  u_noted : FuncData
  u_spiking_sources : FuncData
  initial_state : FuncData
  u_law_cell : FuncData
  u_after_losses : FuncData
  u_effects : FuncData
  u_law_claims : FuncData
  Synapse__eq : FuncData
  Rule__eq : FuncData
  Network__eq : FuncData
  Run__eq : FuncData
  u_leaked : FuncData
  u_has_fired : FuncData
  u_after_gains : FuncData
  stimulus_of : FuncData
  next_watch : FuncData
  is_broken : FuncData
  u_with_sources : FuncData
  u_law_neuron : FuncData
  u_law_synapse : FuncData
  u_law_stimuli : FuncData
  u_law_breaks : FuncData
  step : FuncData
  u_arriving : FuncData
  u_law_network : FuncData
  after_steps : FuncData
  state_after : FuncData
  u_before_stimulus : FuncData
  run : FuncData
  advance : FuncData
  law : FuncData
def gk_k_Neuron__init_1_leak_refractory_floor_subtract {α : Type} (us mv ws : List α) : List α := us[0]?.toList ++ (us[1]?.toList ++ (ws[0]?.toList ++ (ws[1]?.toList ++ (ws[2]?.toList ++ (ws[3]?.toList)))))
def gv_k_Neuron__init_1_leak_refractory_floor_subtract (vs zs : List V) : List V := gk_k_Neuron__init_1_leak_refractory_floor_subtract vs [] zs
structure Txt (P : Program) (w : World) (K : PySem.W.Frag) (mg : Str → Option Value) (base : Heap) (D : Fds) : Prop where
  F_Neuron__init : FunD K "__init__" "Neuron.__init__" (defArgs st_Neuron__init) (defBody st_Neuron__init) (defScope st_Neuron__init) [] [("leak", .int 0), ("refractory", .int 0), ("floor", .int 0), ("subtract", .bl false)] (He.fAd K ("Neuron", some "__init__")) D.Neuron__init
  F_Neuron__eq : FunD K "__eq__" "Neuron.__eq__" (defArgs st_Neuron__eq) (defBody st_Neuron__eq) (defScope st_Neuron__eq) [] [] (He.fAd K ("Neuron", some "__eq__")) D.Neuron__eq
  b_Neuron__eq : Binds K D.Neuron__eq ["self", "other"] []
  e_Neuron : PySem.W.findIn K (.ref (He.ga K "Neuron")) "__eq__" = some (some (.ref (He.fAd K ("Neuron", some "__eq__")))) ∧ PySem.W.isFn K (.ref (He.fAd K ("Neuron", some "__eq__"))) = true
  F_u_left_after_spike : FunD K "_left_after_spike" "_left_after_spike" (defArgs st_u_left_after_spike) (defBody st_u_left_after_spike) (defScope st_u_left_after_spike) [] [] (He.fAd K ("_left_after_spike", none)) D.u_left_after_spike
  b_u_left_after_spike : Binds K D.u_left_after_spike ["neuron", "potential"] []
  g_u_left_after_spike : mg "_left_after_spike" = some (.ref (He.fAd K ("_left_after_spike", none)))
  F_Synapse__init : FunD K "__init__" "Synapse.__init__" (defArgs st_Synapse__init) (defBody st_Synapse__init) (defScope st_Synapse__init) [.bl false] [] (He.fAd K ("Synapse", some "__init__")) D.Synapse__init
  b_Synapse__init : Binds K D.Synapse__init ["self", "source", "target", "weight", "delay", "plastic"] []
  F_Rule__init : FunD K "__init__" "Rule.__init__" (defArgs st_Rule__init) (defBody st_Rule__init) (defScope st_Rule__init) [] [] (He.fAd K ("Rule", some "__init__")) D.Rule__init
  b_Rule__init : Binds K D.Rule__init ["self", "gain", "loss", "window", "least", "most"] []
  F_Network__init : FunD K "__init__" "Network.__init__" (defArgs st_Network__init) (defBody st_Network__init) (defScope st_Network__init) [.non] [] (He.fAd K ("Network", some "__init__")) D.Network__init
  b_Network__init : Binds K D.Network__init ["self", "inputs", "neurons", "synapses", "rule"] []
  F_Network_sources : FunD K "sources" "Network.sources" (defArgs st_Network_sources) (defBody st_Network_sources) (defScope st_Network_sources) [] [] (He.fAd K ("Network", some "sources")) D.Network_sources
  b_Network_sources : Binds K D.Network_sources ["self"] []
  m_Network_sources : Meth K (He.ga K "Network") "sources" (He.fAd K ("Network", some "sources"))
  F_Run__init : FunD K "__init__" "Run.__init__" (defArgs st_Run__init) (defBody st_Run__init) (defScope st_Run__init) [] [] (He.fAd K ("Run", some "__init__")) D.Run__init
  b_Run__init : Binds K D.Run__init ["self", "spikes", "weights"] []
  F_depressed : FunD K "depressed" "depressed" (defArgs st_depressed) (defBody st_depressed) (defScope st_depressed) [] [] (He.fAd K ("depressed", none)) D.depressed
  b_depressed : Binds K D.depressed ["rule", "weight"] []
  g_depressed : mg "depressed" = some (.ref (He.fAd K ("depressed", none)))
  F_potentiated : FunD K "potentiated" "potentiated" (defArgs st_potentiated) (defBody st_potentiated) (defScope st_potentiated) [] [] (He.fAd K ("potentiated", none)) D.potentiated
  b_potentiated : Binds K D.potentiated ["rule", "weight"] []
  g_potentiated : mg "potentiated" = some (.ref (He.fAd K ("potentiated", none)))
  F_state_at_start : FunD K "state_at_start" "state_at_start" (defArgs st_state_at_start) (defBody st_state_at_start) (defScope st_state_at_start) [] [] (He.fAd K ("state_at_start", none)) D.state_at_start
  b_state_at_start : Binds K D.state_at_start ["network"] []
  g_state_at_start : mg "state_at_start" = some (.ref (He.fAd K ("state_at_start", none)))
  F_weights_of : FunD K "weights_of" "weights_of" (defArgs st_weights_of) (defBody st_weights_of) (defScope st_weights_of) [] [] (He.fAd K ("weights_of", none)) D.weights_of
  b_weights_of : Binds K D.weights_of ["state"] []
  g_weights_of : mg "weights_of" = some (.ref (He.fAd K ("weights_of", none)))
  F_u_incoming_sums : FunD K "_incoming_sums" "_incoming_sums" (defArgs st_u_incoming_sums) (defBody st_u_incoming_sums) (defScope st_u_incoming_sums) [] [] (He.fAd K ("_incoming_sums", none)) D.u_incoming_sums
  b_u_incoming_sums : Binds K D.u_incoming_sums ["network", "weights", "arriving"] []
  g_u_incoming_sums : mg "_incoming_sums" = some (.ref (He.fAd K ("_incoming_sums", none)))
  F_u_is_recent : FunD K "_is_recent" "_is_recent" (defArgs st_u_is_recent) (defBody st_u_is_recent) (defScope st_u_is_recent) [] [] (He.fAd K ("_is_recent", none)) D.u_is_recent
  b_u_is_recent : Binds K D.u_is_recent ["last", "tick", "window"] []
  g_u_is_recent : mg "_is_recent" = some (.ref (He.fAd K ("_is_recent", none)))
  F_u_noted : FunD K "_noted" "_noted" (defArgs st_u_noted) (defBody st_u_noted) (defScope st_u_noted) [] [] (He.fAd K ("_noted", none)) D.u_noted
  b_u_noted : Binds K D.u_noted ["ticks", "indexes", "tick"] []
  g_u_noted : mg "_noted" = some (.ref (He.fAd K ("_noted", none)))
  F_u_spiking_sources : FunD K "_spiking_sources" "_spiking_sources" (defArgs st_u_spiking_sources) (defBody st_u_spiking_sources) (defScope st_u_spiking_sources) [] [] (He.fAd K ("_spiking_sources", none)) D.u_spiking_sources
  b_u_spiking_sources : Binds K D.u_spiking_sources ["network", "stimulus", "spiking"] []
  g_u_spiking_sources : mg "_spiking_sources" = some (.ref (He.fAd K ("_spiking_sources", none)))
  F_initial_state : FunD K "initial_state" "initial_state" (defArgs st_initial_state) (defBody st_initial_state) (defScope st_initial_state) [] [] (He.fAd K ("initial_state", none)) D.initial_state
  b_initial_state : Binds K D.initial_state ["network"] []
  g_initial_state : mg "initial_state" = some (.ref (He.fAd K ("initial_state", none)))
  F_u_law_cell : FunD K "_law_cell" "_law_cell" (defArgs st_u_law_cell) (defBody st_u_law_cell) (defScope st_u_law_cell) [] [] (He.fAd K ("_law_cell", none)) D.u_law_cell
  b_u_law_cell : Binds K D.u_law_cell ["script", "k"] []
  g_u_law_cell : mg "_law_cell" = some (.ref (He.fAd K ("_law_cell", none)))
  F_u_after_losses : FunD K "_after_losses" "_after_losses" (defArgs st_u_after_losses) (defBody st_u_after_losses) (defScope st_u_after_losses) [] [] (He.fAd K ("_after_losses", none)) D.u_after_losses
  b_u_after_losses : Binds K D.u_after_losses ["network", "weights", "arriving", "last_spikes", "tick"] []
  g_u_after_losses : mg "_after_losses" = some (.ref (He.fAd K ("_after_losses", none)))
  F_u_effects : FunD K "_effects" "_effects" (defArgs st_u_effects) (defBody st_u_effects) (defScope st_u_effects) [] [] (He.fAd K ("_effects", none)) D.u_effects
  b_u_effects : Binds K D.u_effects ["network"] []
  g_u_effects : mg "_effects" = some (.ref (He.fAd K ("_effects", none)))
  F_u_law_claims : FunD K "_law_claims" "_law_claims" (defArgs st_u_law_claims) (defBody st_u_law_claims) (defScope st_u_law_claims) [] [] (He.fAd K ("_law_claims", none)) D.u_law_claims
  b_u_law_claims : Binds K D.u_law_claims ["script", "network"] []
  g_u_law_claims : mg "_law_claims" = some (.ref (He.fAd K ("_law_claims", none)))
  F_Synapse__eq : FunD K "__eq__" "Synapse.__eq__" (defArgs st_Synapse__eq) (defBody st_Synapse__eq) (defScope st_Synapse__eq) [] [] (He.fAd K ("Synapse", some "__eq__")) D.Synapse__eq
  b_Synapse__eq : Binds K D.Synapse__eq ["self", "other"] []
  e_Synapse : PySem.W.findIn K (.ref (He.ga K "Synapse")) "__eq__" = some (some (.ref (He.fAd K ("Synapse", some "__eq__")))) ∧ PySem.W.isFn K (.ref (He.fAd K ("Synapse", some "__eq__"))) = true
  F_Rule__eq : FunD K "__eq__" "Rule.__eq__" (defArgs st_Rule__eq) (defBody st_Rule__eq) (defScope st_Rule__eq) [] [] (He.fAd K ("Rule", some "__eq__")) D.Rule__eq
  b_Rule__eq : Binds K D.Rule__eq ["self", "other"] []
  e_Rule : PySem.W.findIn K (.ref (He.ga K "Rule")) "__eq__" = some (some (.ref (He.fAd K ("Rule", some "__eq__")))) ∧ PySem.W.isFn K (.ref (He.fAd K ("Rule", some "__eq__"))) = true
  F_Network__eq : FunD K "__eq__" "Network.__eq__" (defArgs st_Network__eq) (defBody st_Network__eq) (defScope st_Network__eq) [] [] (He.fAd K ("Network", some "__eq__")) D.Network__eq
  b_Network__eq : Binds K D.Network__eq ["self", "other"] []
  e_Network : PySem.W.findIn K (.ref (He.ga K "Network")) "__eq__" = some (some (.ref (He.fAd K ("Network", some "__eq__")))) ∧ PySem.W.isFn K (.ref (He.fAd K ("Network", some "__eq__"))) = true
  F_Run__eq : FunD K "__eq__" "Run.__eq__" (defArgs st_Run__eq) (defBody st_Run__eq) (defScope st_Run__eq) [] [] (He.fAd K ("Run", some "__eq__")) D.Run__eq
  b_Run__eq : Binds K D.Run__eq ["self", "other"] []
  e_Run : PySem.W.findIn K (.ref (He.ga K "Run")) "__eq__" = some (some (.ref (He.fAd K ("Run", some "__eq__")))) ∧ PySem.W.isFn K (.ref (He.fAd K ("Run", some "__eq__"))) = true
  F_u_leaked : FunD K "_leaked" "_leaked" (defArgs st_u_leaked) (defBody st_u_leaked) (defScope st_u_leaked) [] [] (He.fAd K ("_leaked", none)) D.u_leaked
  b_u_leaked : Binds K D.u_leaked ["neuron", "potential"] []
  g_u_leaked : mg "_leaked" = some (.ref (He.fAd K ("_leaked", none)))
  F_u_has_fired : FunD K "_has_fired" "_has_fired" (defArgs st_u_has_fired) (defBody st_u_has_fired) (defScope st_u_has_fired) [] [] (He.fAd K ("_has_fired", none)) D.u_has_fired
  b_u_has_fired : Binds K D.u_has_fired ["fired", "tick", "source"] []
  g_u_has_fired : mg "_has_fired" = some (.ref (He.fAd K ("_has_fired", none)))
  F_u_after_gains : FunD K "_after_gains" "_after_gains" (defArgs st_u_after_gains) (defBody st_u_after_gains) (defScope st_u_after_gains) [] [] (He.fAd K ("_after_gains", none)) D.u_after_gains
  b_u_after_gains : Binds K D.u_after_gains ["network", "weights", "spiking", "last_arrivals", "tick"] []
  g_u_after_gains : mg "_after_gains" = some (.ref (He.fAd K ("_after_gains", none)))
  F_stimulus_of : FunD K "stimulus_of" "stimulus_of" (defArgs st_stimulus_of) (defBody st_stimulus_of) (defScope st_stimulus_of) [] [] (He.fAd K ("stimulus_of", none)) D.stimulus_of
  b_stimulus_of : Binds K D.stimulus_of ["network", "number"] []
  g_stimulus_of : mg "stimulus_of" = some (.ref (He.fAd K ("stimulus_of", none)))
  F_next_watch : FunD K "next_watch" "next_watch" (defArgs st_next_watch) (defBody st_next_watch) (defScope st_next_watch) [] [] (He.fAd K ("next_watch", none)) D.next_watch
  b_next_watch : Binds K D.next_watch ["claim", "watch", "stimulus", "spikes"] []
  g_next_watch : mg "next_watch" = some (.ref (He.fAd K ("next_watch", none)))
  F_is_broken : FunD K "is_broken" "is_broken" (defArgs st_is_broken) (defBody st_is_broken) (defScope st_is_broken) [] [] (He.fAd K ("is_broken", none)) D.is_broken
  b_is_broken : Binds K D.is_broken ["claim", "watch", "spikes"] []
  g_is_broken : mg "is_broken" = some (.ref (He.fAd K ("is_broken", none)))
  F_u_with_sources : FunD K "_with_sources" "_with_sources" (defArgs st_u_with_sources) (defBody st_u_with_sources) (defScope st_u_with_sources) [] [] (He.fAd K ("_with_sources", none)) D.u_with_sources
  b_u_with_sources : Binds K D.u_with_sources ["effects", "state", "sources"] []
  g_u_with_sources : mg "_with_sources" = some (.ref (He.fAd K ("_with_sources", none)))
  F_u_law_neuron : FunD K "_law_neuron" "_law_neuron" (defArgs st_u_law_neuron) (defBody st_u_law_neuron) (defScope st_u_law_neuron) [] [] (He.fAd K ("_law_neuron", none)) D.u_law_neuron
  b_u_law_neuron : Binds K D.u_law_neuron ["cell"] []
  g_u_law_neuron : mg "_law_neuron" = some (.ref (He.fAd K ("_law_neuron", none)))
  F_u_law_synapse : FunD K "_law_synapse" "_law_synapse" (defArgs st_u_law_synapse) (defBody st_u_law_synapse) (defScope st_u_law_synapse) [] [] (He.fAd K ("_law_synapse", none)) D.u_law_synapse
  b_u_law_synapse : Binds K D.u_law_synapse ["cell", "sources", "many", "learns"] []
  g_u_law_synapse : mg "_law_synapse" = some (.ref (He.fAd K ("_law_synapse", none)))
  F_u_law_stimuli : FunD K "_law_stimuli" "_law_stimuli" (defArgs st_u_law_stimuli) (defBody st_u_law_stimuli) (defScope st_u_law_stimuli) [] [] (He.fAd K ("_law_stimuli", none)) D.u_law_stimuli
  b_u_law_stimuli : Binds K D.u_law_stimuli ["script", "inputs"] []
  g_u_law_stimuli : mg "_law_stimuli" = some (.ref (He.fAd K ("_law_stimuli", none)))
  F_u_law_breaks : FunD K "_law_breaks" "_law_breaks" (defArgs st_u_law_breaks) (defBody st_u_law_breaks) (defScope st_u_law_breaks) [] [] (He.fAd K ("_law_breaks", none)) D.u_law_breaks
  b_u_law_breaks : Binds K D.u_law_breaks ["claim", "stimuli", "spikes", "t"] []
  g_u_law_breaks : mg "_law_breaks" = some (.ref (He.fAd K ("_law_breaks", none)))
  F_step : FunD K "step" "step" (defArgs st_step) (defBody st_step) (defScope st_step) [] [] (He.fAd K ("step", none)) D.step
  b_step : Binds K D.step ["neuron", "potential", "rest", "incoming"] []
  g_step : mg "step" = some (.ref (He.fAd K ("step", none)))
  F_u_arriving : FunD K "_arriving" "_arriving" (defArgs st_u_arriving) (defBody st_u_arriving) (defScope st_u_arriving) [] [] (He.fAd K ("_arriving", none)) D.u_arriving
  b_u_arriving : Binds K D.u_arriving ["network", "fired", "tick"] []
  g_u_arriving : mg "_arriving" = some (.ref (He.fAd K ("_arriving", none)))
  F_u_law_network : FunD K "_law_network" "_law_network" (defArgs st_u_law_network) (defBody st_u_law_network) (defScope st_u_law_network) [] [] (He.fAd K ("_law_network", none)) D.u_law_network
  b_u_law_network : Binds K D.u_law_network ["script", "learns"] []
  g_u_law_network : mg "_law_network" = some (.ref (He.fAd K ("_law_network", none)))
  F_after_steps : FunD K "after_steps" "after_steps" (defArgs st_after_steps) (defBody st_after_steps) (defScope st_after_steps) [] [] (He.fAd K ("after_steps", none)) D.after_steps
  b_after_steps : Binds K D.after_steps ["network", "potentials", "rests", "sums"] []
  g_after_steps : mg "after_steps" = some (.ref (He.fAd K ("after_steps", none)))
  F_state_after : FunD K "state_after" "state_after" (defArgs st_state_after) (defBody st_state_after) (defScope st_state_after) [] [] (He.fAd K ("state_after", none)) D.state_after
  b_state_after : Binds K D.state_after ["network", "state", "arriving", "tick"] []
  g_state_after : mg "state_after" = some (.ref (He.fAd K ("state_after", none)))
  F_u_before_stimulus : FunD K "_before_stimulus" "_before_stimulus" (defArgs st_u_before_stimulus) (defBody st_u_before_stimulus) (defScope st_u_before_stimulus) [] [] (He.fAd K ("_before_stimulus", none)) D.u_before_stimulus
  b_u_before_stimulus : Binds K D.u_before_stimulus ["network", "effects", "state"] []
  g_u_before_stimulus : mg "_before_stimulus" = some (.ref (He.fAd K ("_before_stimulus", none)))
  F_run : FunD K "run" "run" (defArgs st_run) (defBody st_run) (defScope st_run) [] [] (He.fAd K ("run", none)) D.run
  b_run : Binds K D.run ["network", "stimuli"] []
  g_run : mg "run" = some (.ref (He.fAd K ("run", none)))
  F_advance : FunD K "advance" "advance" (defArgs st_advance) (defBody st_advance) (defScope st_advance) [] [] (He.fAd K ("advance", none)) D.advance
  b_advance : Binds K D.advance ["network", "state", "stimulus"] []
  g_advance : mg "advance" = some (.ref (He.fAd K ("advance", none)))
  F_law : FunD K "law" "law" (defArgs st_law) (defBody st_law) (defScope st_law) [] [] (He.fAd K ("law", none)) D.law
  b_law : Binds K D.law ["script"] []
  g_law : mg "law" = some (.ref (He.fAd K ("law", none)))
  g_Neuron : mg "Neuron" = some (.ref (He.ga K "Neuron"))
  c_Neuron : Cls K (He.ga K "Neuron")
  n_Neuron_threshold : NoAttr K (He.ga K "Neuron") "threshold"
  n_Neuron_leak : NoAttr K (He.ga K "Neuron") "leak"
  n_Neuron_refractory : NoAttr K (He.ga K "Neuron") "refractory"
  n_Neuron_floor : NoAttr K (He.ga K "Neuron") "floor"
  n_Neuron_subtract : NoAttr K (He.ga K "Neuron") "subtract"
  k_Neuron : Mk K (He.ga K "Neuron") (He.fAd K ("Neuron", some "__init__"))
  i_Neuron : ClsI K (He.ga K "Neuron")
  g_Synapse : mg "Synapse" = some (.ref (He.ga K "Synapse"))
  c_Synapse : Cls K (He.ga K "Synapse")
  n_Synapse_source : NoAttr K (He.ga K "Synapse") "source"
  n_Synapse_target : NoAttr K (He.ga K "Synapse") "target"
  n_Synapse_weight : NoAttr K (He.ga K "Synapse") "weight"
  n_Synapse_delay : NoAttr K (He.ga K "Synapse") "delay"
  n_Synapse_plastic : NoAttr K (He.ga K "Synapse") "plastic"
  k_Synapse : Mk K (He.ga K "Synapse") (He.fAd K ("Synapse", some "__init__"))
  i_Synapse : ClsI K (He.ga K "Synapse")
  g_Rule : mg "Rule" = some (.ref (He.ga K "Rule"))
  c_Rule : Cls K (He.ga K "Rule")
  n_Rule_gain : NoAttr K (He.ga K "Rule") "gain"
  n_Rule_loss : NoAttr K (He.ga K "Rule") "loss"
  n_Rule_window : NoAttr K (He.ga K "Rule") "window"
  n_Rule_least : NoAttr K (He.ga K "Rule") "least"
  n_Rule_most : NoAttr K (He.ga K "Rule") "most"
  k_Rule : Mk K (He.ga K "Rule") (He.fAd K ("Rule", some "__init__"))
  i_Rule : ClsI K (He.ga K "Rule")
  g_Network : mg "Network" = some (.ref (He.ga K "Network"))
  c_Network : Cls K (He.ga K "Network")
  n_Network_inputs : NoAttr K (He.ga K "Network") "inputs"
  n_Network_neurons : NoAttr K (He.ga K "Network") "neurons"
  n_Network_synapses : NoAttr K (He.ga K "Network") "synapses"
  n_Network_rule : NoAttr K (He.ga K "Network") "rule"
  k_Network : Mk K (He.ga K "Network") (He.fAd K ("Network", some "__init__"))
  i_Network : ClsI K (He.ga K "Network")
  g_Run : mg "Run" = some (.ref (He.ga K "Run"))
  c_Run : Cls K (He.ga K "Run")
  n_Run_spikes : NoAttr K (He.ga K "Run") "spikes"
  n_Run_weights : NoAttr K (He.ga K "Run") "weights"
  k_Run : Mk K (He.ga K "Run") (He.fAd K ("Run", some "__init__"))
  i_Run : ClsI K (He.ga K "Run")
  gi_TICKS_AHEAD : ∃ t, mg "TICKS_AHEAD" = some (.int 15 t)
  z_bool : mg "bool" = none
  z_enumerate : mg "enumerate" = none
  z_int : mg "int" = none
  z_isinstance : mg "isinstance" = none
  z_len : mg "len" = none
  z_list : mg "list" = none
  z_max : mg "max" = none
  z_min : mg "min" = none
  z_range : mg "range" = none
  z_tuple : mg "tuple" = none
  ki_Neuron_Neuron : PySem.W.kitOne K (.ref (He.ga K "Neuron")) (.ref (He.ga K "Neuron")) = some true
  ki_Synapse_Synapse : PySem.W.kitOne K (.ref (He.ga K "Synapse")) (.ref (He.ga K "Synapse")) = some true
  ki_Rule_Rule : PySem.W.kitOne K (.ref (He.ga K "Rule")) (.ref (He.ga K "Rule")) = some true
  ki_Network_Network : PySem.W.kitOne K (.ref (He.ga K "Network")) (.ref (He.ga K "Network")) = some true
  ki_Run_Run : PySem.W.kitOne K (.ref (He.ga K "Run")) (.ref (He.ga K "Run")) = some true
  k_Neuron__init_1_leak_refractory_floor_subtract : ∃ mv : List Value, KBn K D.Neuron__init ["self", "threshold", "leak", "refractory", "floor", "subtract"] 2 ["leak", "refractory", "floor", "subtract"] (fun us ws => gk_k_Neuron__init_1_leak_refractory_floor_subtract us mv ws) (fun vs zs => gv_k_Neuron__init_1_leak_refractory_floor_subtract vs zs)

section
variable {P : Program} {w : World} {K : PySem.W.Frag} {mg : Str → Option Value} {base : Heap} {D : Fds}
def m_Neuron__init (threshold : Int) (leak : Int) (refractory : Int) (floor : Int) (subtract : Bool) : Option Neuron :=
  some (⟨threshold, leak, refractory, floor, subtract⟩ : Neuron)
def R_Neuron__init (K : PySem.W.Frag) : List Pr → List Pr → Prop := fun Ps Qs => ∃ (threshold : Int) (leak : Int) (refractory : Int) (floor : Int) (subtract : Bool) (c : Neuron), Ps = [(pI threshold), (pI leak), (pI refractory), (pI floor), (pB subtract)] ∧ Qs = [(pI c.threshold), (pI c.leak), (pI c.refractory), (pI c.floor), (pB c.subtract)] ∧ m_Neuron__init threshold leak refractory floor subtract = some c
theorem sc_Neuron__init : FnScope ["self", "threshold", "leak", "refractory", "floor", "subtract"] ["self", "threshold", "leak", "refractory", "floor", "subtract"] (defScope st_Neuron__init) := ⟨rfl, rfl, rfl, by decide +kernel, rfl, by decide +kernel, by decide +kernel⟩
theorem ok_Neuron__init (T : Txt P w K mg base D) : FnOk P w K mg base CX0 1 (He.fAd K ("Neuron", some "__init__")) D.Neuron__init ["self", "threshold", "leak", "refractory", "floor", "subtract"] (spI (He.ga K "Neuron") ns_Neuron (R_Neuron__init K)) := by
  refine fn_I T.F_Neuron__init sc_Neuron__init (by rintro _ _ ⟨threshold, leak, refractory, floor, subtract, c, rfl, rfl, _⟩; rfl) (by decide) fun cdv A outer s H E hr => ⟨_, (pss_cons (ps_fld (pv 0) (pv 1) rfl)
      (pss_cons (ps_fld (pv 0) (pv 2) rfl)
      (pss_cons (ps_fld (pv 0) (pv 3) rfl)
      (pss_cons (ps_fld (pv 0) (pv 4) rfl)
      (pss_one (ps_fld (pv 0) (pv 5) rfl)))))), ?_⟩
  rintro z _ _ ⟨threshold, leak, refractory, floor, subtract, c, rfl, rfl, h⟩
  unfold m_Neuron__init at h
  have h := Option.some.inj h
  subst h
  exact ⟨_, (s_seq (Γ1 := [.own (oS z (He.ga K "Neuron") ["threshold"] [(pI threshold)]), .val (pI threshold), .val (pI leak), .val (pI refractory), .val (pI floor), .val (pB subtract)]) (s_setFc T.c_Neuron T.n_Neuron_threshold (i := 0) rfl (by decide +kernel) rfl (Nat.le_of_ble_eq_true rfl) (e_to (P' := (pI threshold)) (e_var rfl) rfl) rfl)
    (s_seq (Γ1 := [.own (oS z (He.ga K "Neuron") ["threshold", "leak"] [(pI threshold), (pI leak)]), .val (pI threshold), .val (pI leak), .val (pI refractory), .val (pI floor), .val (pB subtract)]) (s_setFc T.c_Neuron T.n_Neuron_leak (i := 0) rfl (by decide +kernel) rfl (Nat.le_of_ble_eq_true rfl) (e_to (P' := (pI leak)) (e_var rfl) rfl) rfl)
    (s_seq (Γ1 := [.own (oS z (He.ga K "Neuron") ["threshold", "leak", "refractory"] [(pI threshold), (pI leak), (pI refractory)]), .val (pI threshold), .val (pI leak), .val (pI refractory), .val (pI floor), .val (pB subtract)]) (s_setFc T.c_Neuron T.n_Neuron_refractory (i := 0) rfl (by decide +kernel) rfl (Nat.le_of_ble_eq_true rfl) (e_to (P' := (pI refractory)) (e_var rfl) rfl) rfl)
    (s_seq (Γ1 := [.own (oS z (He.ga K "Neuron") ["threshold", "leak", "refractory", "floor"] [(pI threshold), (pI leak), (pI refractory), (pI floor)]), .val (pI threshold), .val (pI leak), .val (pI refractory), .val (pI floor), .val (pB subtract)]) (s_setFc T.c_Neuron T.n_Neuron_floor (i := 0) rfl (by decide +kernel) rfl (Nat.le_of_ble_eq_true rfl) (e_to (P' := (pI floor)) (e_var rfl) rfl) rfl)
    (s_at [.own (oS z (He.ga K "Neuron") ["threshold", "leak", "refractory", "floor", "subtract"] [(pI threshold), (pI leak), (pI refractory), (pI floor), (pB subtract)]), .val (pI threshold), .val (pI leak), .val (pI refractory), .val (pI floor), .val (pB subtract)] (s_setFc T.c_Neuron T.n_Neuron_subtract (i := 0) rfl (by decide +kernel) rfl (Nat.le_of_ble_eq_true rfl) (e_to (P' := (pB subtract)) (e_var rfl) rfl) rfl)))))), rfl⟩

def m_Neuron__eq (a b : Neuron) : Option Bool :=
  some (true && ((decide (a.threshold = b.threshold)) && ((decide (a.leak = b.leak)) && ((decide (a.refractory = b.refractory)) && ((decide (a.floor = b.floor)) && (a.subtract == b.subtract))))))
theorem refl_Neuron (c : Neuron) : m_Neuron__eq c c = some true := by
  unfold m_Neuron__eq
  simp
def R_Neuron__eq (K : PySem.W.Frag) : List Pr → Pr → Prop := fun Ps Q => (∃ (a b : Neuron) (r : Bool), Ps = [rNeuron K a, rNeuron K b] ∧ Q = pB r ∧ m_Neuron__eq a b = some r) ∨ ∃ (a : Neuron) (P1 : Pr) (t : Value), Ps = [rNeuron K a, P1] ∧ Q = pB false ∧ TyP K P1 t ∧ PySem.W.kitOne K t (.ref (He.ga K "Neuron")) = some false
theorem sc_Neuron__eq : FnScope ["self", "other"] ["self", "other"] (defScope st_Neuron__eq) := ⟨rfl, rfl, rfl, by decide +kernel, rfl, by decide +kernel, by decide +kernel⟩
theorem ok_Neuron__eq (T : Txt P w K mg base D) : FnOk P w K mg base CX0 1 (He.fAd K ("Neuron", some "__eq__")) D.Neuron__eq ["self", "other"] (spR (R_Neuron__eq K)) := by
  refine fn_R T.F_Neuron__eq sc_Neuron__eq (by rintro _ _ (⟨_, _, _, rfl, _⟩ | ⟨_, _, _, rfl, _⟩) <;> rfl) (by decide) fun cdv A outer s H E hr => ⟨_, (pss_one (ps_ret (pe_and (pe_callB (isiK (K := K) rfl) (by rfl) T.z_isinstance (by decide +kernel) (pa_cons (pv 1) (pa_cons (pe_glob (v := .ref (He.ga K "Neuron")) rfl T.g_Neuron rfl) pa_nil))) (pe_and (pe_cmpR op_eq (pe_fldK (K := K) rfl (pv 0) rfl) (pe_fldK (K := K) rfl (pv 1) rfl) (nomark _)) (pe_and (pe_cmpR op_eq (pe_fldK (K := K) rfl (pv 0) rfl) (pe_fldK (K := K) rfl (pv 1) rfl) (nomark _)) (pe_and (pe_cmpR op_eq (pe_fldK (K := K) rfl (pv 0) rfl) (pe_fldK (K := K) rfl (pv 1) rfl) (nomark _)) (pe_and (pe_cmpR op_eq (pe_fldK (K := K) rfl (pv 0) rfl) (pe_fldK (K := K) rfl (pv 1) rfl) (nomark _)) (pe_one (pe_cmpR op_eq (pe_fldK (K := K) rfl (pv 0) rfl) (pe_fldK (K := K) rfl (pv 1) rfl) (nomark _)))))))))), ?_⟩
  rintro _ _ (⟨a, b, r, rfl, rfl, h⟩ | ⟨a, P1, t, rfl, rfl, ht, hk⟩)
  · unfold m_Neuron__eq at h
    refine s_from (Γ' := [.val ((rNeuron K) a), .val ((rNeuron K) b)]) ?_ rfl
    have h := Option.some.inj h
    subst h
    exact s_ret (e_to (P' := pB (true && ((decide (a.threshold = b.threshold)) && ((decide (a.leak = b.leak)) && ((decide (a.refractory = b.refractory)) && ((decide (a.floor = b.floor)) && (a.subtract == b.subtract))))))) (e_and (e_isi (e_var rfl) (ty_O T.c_Neuron T.i_Neuron) (.own _) T.ki_Neuron_Neuron) (fun _ => (e_and (e_op rr_eqI (e_fld T.c_Neuron T.n_Neuron_threshold nd_Neuron (i := 0) rfl rfl (e_var rfl)) (e_fld T.c_Neuron T.n_Neuron_threshold nd_Neuron (i := 0) rfl rfl (e_var rfl))) (fun _ => (e_and (e_op rr_eqI (e_fld T.c_Neuron T.n_Neuron_leak nd_Neuron (i := 1) rfl rfl (e_var rfl)) (e_fld T.c_Neuron T.n_Neuron_leak nd_Neuron (i := 1) rfl rfl (e_var rfl))) (fun _ => (e_and (e_op rr_eqI (e_fld T.c_Neuron T.n_Neuron_refractory nd_Neuron (i := 2) rfl rfl (e_var rfl)) (e_fld T.c_Neuron T.n_Neuron_refractory nd_Neuron (i := 2) rfl rfl (e_var rfl))) (fun _ => (e_and (e_op rr_eqI (e_fld T.c_Neuron T.n_Neuron_floor nd_Neuron (i := 3) rfl rfl (e_var rfl)) (e_fld T.c_Neuron T.n_Neuron_floor nd_Neuron (i := 3) rfl rfl (e_var rfl))) (fun _ => (e_op rr_eqB (e_fld T.c_Neuron T.n_Neuron_subtract nd_Neuron (i := 4) rfl rfl (e_var rfl)) (e_fld T.c_Neuron T.n_Neuron_subtract nd_Neuron (i := 4) rfl rfl (e_var rfl)))) rfl)) rfl)) rfl)) rfl)) rfl) rfl)
  · refine s_from (Γ' := [.val (rNeuron K a), .val P1]) ?_ rfl
    exact s_ret (e_and (b := false) (e_isi (e_var rfl) ht (.own _) hk) (fun z => Bool.noConfusion z) rfl)

def m_u_left_after_spike (neuron : Neuron) (potential : Int) : Option Int :=
  if neuron.subtract then some (potential - neuron.threshold)
  else some 0
def R_u_left_after_spike (K : PySem.W.Frag) : List Pr → Pr → Prop := fun Ps Q => ∃ (neuron : Neuron) (potential : Int) (r : Int), Ps = [((rNeuron K) neuron), (pI potential)] ∧ Q = (pI r) ∧ m_u_left_after_spike neuron potential = some r
theorem sc_u_left_after_spike : FnScope ["neuron", "potential"] ["neuron", "potential"] (defScope st_u_left_after_spike) := ⟨rfl, rfl, rfl, by decide +kernel, rfl, by decide +kernel, by decide +kernel⟩
theorem ok_u_left_after_spike (T : Txt P w K mg base D) : FnOk P w K mg base CX0 1 (He.fAd K ("_left_after_spike", none)) D.u_left_after_spike ["neuron", "potential"] (spR (R_u_left_after_spike K)) := by
  refine fn_R T.F_u_left_after_spike sc_u_left_after_spike (by rintro _ _ ⟨neuron, potential, _, rfl, rfl, _⟩; rfl) (by decide) fun cdv A outer s H E hr => ⟨_, (pss_cons (ps_if (pt_val (pe_fldK (K := K) rfl (pv 0) rfl)) (pss_one (ps_ret (pe_op op_sub (pv 1) (pe_fldK (K := K) rfl (pv 0) rfl)))) pss_nil)
      (pss_one (ps_ret pe_int))), ?_⟩
  rintro _ _ ⟨neuron, potential, r, rfl, rfl, h⟩
  unfold m_u_left_after_spike at h
  refine s_from (Γ' := [.val ((rNeuron K) neuron), .val (pI potential)]) ?_ rfl
  refine s_ifK (b := neuron.subtract) (t_B (e_fld T.c_Neuron T.n_Neuron_subtract nd_Neuron (i := 4) rfl rfl (e_var rfl))) (fun hc => ?_) (fun hc => ?_)
  ·   have h := if_t hc h
      have h := Option.some.inj h
      subst h
      exact s_seqR (s_ret (e_to (P' := (pI (potential - neuron.threshold))) (e_op rr_I0 (e_var rfl) (e_fld T.c_Neuron T.n_Neuron_threshold nd_Neuron (i := 0) rfl rfl (e_var rfl))) rfl))
  ·   have h := if_f hc h
      refine s_nxK ?_
      have h := Option.some.inj h
      subst h
      exact (s_ret (e_to (P' := (pI 0)) e_int rfl))

def m_Synapse__init (source : Int) (target : Int) (weight : Int) (delay : Int) (plastic : Bool) : Option Synapse :=
  some (⟨source, target, weight, delay, plastic⟩ : Synapse)
def R_Synapse__init (K : PySem.W.Frag) : List Pr → List Pr → Prop := fun Ps Qs => ∃ (source : Int) (target : Int) (weight : Int) (delay : Int) (plastic : Bool) (c : Synapse), Ps = [(pI source), (pI target), (pI weight), (pI delay), (pB plastic)] ∧ Qs = [(pI c.source), (pI c.target), (pI c.weight), (pI c.delay), (pB c.plastic)] ∧ m_Synapse__init source target weight delay plastic = some c
theorem sc_Synapse__init : FnScope ["self", "source", "target", "weight", "delay", "plastic"] ["self", "source", "target", "weight", "delay", "plastic"] (defScope st_Synapse__init) := ⟨rfl, rfl, rfl, by decide +kernel, rfl, by decide +kernel, by decide +kernel⟩
theorem ok_Synapse__init (T : Txt P w K mg base D) : FnOk P w K mg base CX0 1 (He.fAd K ("Synapse", some "__init__")) D.Synapse__init ["self", "source", "target", "weight", "delay", "plastic"] (spI (He.ga K "Synapse") ns_Synapse (R_Synapse__init K)) := by
  refine fn_I T.F_Synapse__init sc_Synapse__init (by rintro _ _ ⟨source, target, weight, delay, plastic, c, rfl, rfl, _⟩; rfl) (by decide) fun cdv A outer s H E hr => ⟨_, (pss_cons (ps_fld (pv 0) (pv 1) rfl)
      (pss_cons (ps_fld (pv 0) (pv 2) rfl)
      (pss_cons (ps_fld (pv 0) (pv 3) rfl)
      (pss_cons (ps_fld (pv 0) (pv 4) rfl)
      (pss_one (ps_fld (pv 0) (pv 5) rfl)))))), ?_⟩
  rintro z _ _ ⟨source, target, weight, delay, plastic, c, rfl, rfl, h⟩
  unfold m_Synapse__init at h
  have h := Option.some.inj h
  subst h
  exact ⟨_, (s_seq (Γ1 := [.own (oS z (He.ga K "Synapse") ["source"] [(pI source)]), .val (pI source), .val (pI target), .val (pI weight), .val (pI delay), .val (pB plastic)]) (s_setFc T.c_Synapse T.n_Synapse_source (i := 0) rfl (by decide +kernel) rfl (Nat.le_of_ble_eq_true rfl) (e_to (P' := (pI source)) (e_var rfl) rfl) rfl)
    (s_seq (Γ1 := [.own (oS z (He.ga K "Synapse") ["source", "target"] [(pI source), (pI target)]), .val (pI source), .val (pI target), .val (pI weight), .val (pI delay), .val (pB plastic)]) (s_setFc T.c_Synapse T.n_Synapse_target (i := 0) rfl (by decide +kernel) rfl (Nat.le_of_ble_eq_true rfl) (e_to (P' := (pI target)) (e_var rfl) rfl) rfl)
    (s_seq (Γ1 := [.own (oS z (He.ga K "Synapse") ["source", "target", "weight"] [(pI source), (pI target), (pI weight)]), .val (pI source), .val (pI target), .val (pI weight), .val (pI delay), .val (pB plastic)]) (s_setFc T.c_Synapse T.n_Synapse_weight (i := 0) rfl (by decide +kernel) rfl (Nat.le_of_ble_eq_true rfl) (e_to (P' := (pI weight)) (e_var rfl) rfl) rfl)
    (s_seq (Γ1 := [.own (oS z (He.ga K "Synapse") ["source", "target", "weight", "delay"] [(pI source), (pI target), (pI weight), (pI delay)]), .val (pI source), .val (pI target), .val (pI weight), .val (pI delay), .val (pB plastic)]) (s_setFc T.c_Synapse T.n_Synapse_delay (i := 0) rfl (by decide +kernel) rfl (Nat.le_of_ble_eq_true rfl) (e_to (P' := (pI delay)) (e_var rfl) rfl) rfl)
    (s_at [.own (oS z (He.ga K "Synapse") ["source", "target", "weight", "delay", "plastic"] [(pI source), (pI target), (pI weight), (pI delay), (pB plastic)]), .val (pI source), .val (pI target), .val (pI weight), .val (pI delay), .val (pB plastic)] (s_setFc T.c_Synapse T.n_Synapse_plastic (i := 0) rfl (by decide +kernel) rfl (Nat.le_of_ble_eq_true rfl) (e_to (P' := (pB plastic)) (e_var rfl) rfl) rfl)))))), rfl⟩

def m_Rule__init (gain : Int) (loss : Int) (window : Int) (least : Int) (most : Int) : Option Rule :=
  some (⟨gain, loss, window, least, most⟩ : Rule)
def R_Rule__init (K : PySem.W.Frag) : List Pr → List Pr → Prop := fun Ps Qs => ∃ (gain : Int) (loss : Int) (window : Int) (least : Int) (most : Int) (c : Rule), Ps = [(pI gain), (pI loss), (pI window), (pI least), (pI most)] ∧ Qs = [(pI c.gain), (pI c.loss), (pI c.window), (pI c.least), (pI c.most)] ∧ m_Rule__init gain loss window least most = some c
theorem sc_Rule__init : FnScope ["self", "gain", "loss", "window", "least", "most"] ["self", "gain", "loss", "window", "least", "most"] (defScope st_Rule__init) := ⟨rfl, rfl, rfl, by decide +kernel, rfl, by decide +kernel, by decide +kernel⟩
theorem ok_Rule__init (T : Txt P w K mg base D) : FnOk P w K mg base CX0 1 (He.fAd K ("Rule", some "__init__")) D.Rule__init ["self", "gain", "loss", "window", "least", "most"] (spI (He.ga K "Rule") ns_Rule (R_Rule__init K)) := by
  refine fn_I T.F_Rule__init sc_Rule__init (by rintro _ _ ⟨gain, loss, window, least, most, c, rfl, rfl, _⟩; rfl) (by decide) fun cdv A outer s H E hr => ⟨_, (pss_cons (ps_fld (pv 0) (pv 1) rfl)
      (pss_cons (ps_fld (pv 0) (pv 2) rfl)
      (pss_cons (ps_fld (pv 0) (pv 3) rfl)
      (pss_cons (ps_fld (pv 0) (pv 4) rfl)
      (pss_one (ps_fld (pv 0) (pv 5) rfl)))))), ?_⟩
  rintro z _ _ ⟨gain, loss, window, least, most, c, rfl, rfl, h⟩
  unfold m_Rule__init at h
  have h := Option.some.inj h
  subst h
  exact ⟨_, (s_seq (Γ1 := [.own (oS z (He.ga K "Rule") ["gain"] [(pI gain)]), .val (pI gain), .val (pI loss), .val (pI window), .val (pI least), .val (pI most)]) (s_setFc T.c_Rule T.n_Rule_gain (i := 0) rfl (by decide +kernel) rfl (Nat.le_of_ble_eq_true rfl) (e_to (P' := (pI gain)) (e_var rfl) rfl) rfl)
    (s_seq (Γ1 := [.own (oS z (He.ga K "Rule") ["gain", "loss"] [(pI gain), (pI loss)]), .val (pI gain), .val (pI loss), .val (pI window), .val (pI least), .val (pI most)]) (s_setFc T.c_Rule T.n_Rule_loss (i := 0) rfl (by decide +kernel) rfl (Nat.le_of_ble_eq_true rfl) (e_to (P' := (pI loss)) (e_var rfl) rfl) rfl)
    (s_seq (Γ1 := [.own (oS z (He.ga K "Rule") ["gain", "loss", "window"] [(pI gain), (pI loss), (pI window)]), .val (pI gain), .val (pI loss), .val (pI window), .val (pI least), .val (pI most)]) (s_setFc T.c_Rule T.n_Rule_window (i := 0) rfl (by decide +kernel) rfl (Nat.le_of_ble_eq_true rfl) (e_to (P' := (pI window)) (e_var rfl) rfl) rfl)
    (s_seq (Γ1 := [.own (oS z (He.ga K "Rule") ["gain", "loss", "window", "least"] [(pI gain), (pI loss), (pI window), (pI least)]), .val (pI gain), .val (pI loss), .val (pI window), .val (pI least), .val (pI most)]) (s_setFc T.c_Rule T.n_Rule_least (i := 0) rfl (by decide +kernel) rfl (Nat.le_of_ble_eq_true rfl) (e_to (P' := (pI least)) (e_var rfl) rfl) rfl)
    (s_at [.own (oS z (He.ga K "Rule") ["gain", "loss", "window", "least", "most"] [(pI gain), (pI loss), (pI window), (pI least), (pI most)]), .val (pI gain), .val (pI loss), .val (pI window), .val (pI least), .val (pI most)] (s_setFc T.c_Rule T.n_Rule_most (i := 0) rfl (by decide +kernel) rfl (Nat.le_of_ble_eq_true rfl) (e_to (P' := (pI most)) (e_var rfl) rfl) rfl)))))), rfl⟩

def m_Network__init (inputs : Int) (neurons : (List Neuron)) (synapses : (List Synapse)) (rule : (Option Rule)) : Option Network :=
  some (⟨inputs, neurons, synapses, rule⟩ : Network)
def R_Network__init (K : PySem.W.Frag) : List Pr → List Pr → Prop := fun Ps Qs => ∃ (inputs : Int) (neurons : (List Neuron)) (synapses : (List Synapse)) (rule : (Option Rule)) (c : Network), Ps = [(pI inputs), ((rL (rNeuron K)) neurons), ((rL (rSynapse K)) synapses), ((pOpt (rRule K)) rule)] ∧ Qs = [(pI c.inputs), ((rL (rNeuron K)) c.neurons), ((rL (rSynapse K)) c.synapses), ((pOpt (rRule K)) c.rule)] ∧ m_Network__init inputs neurons synapses rule = some c
theorem sc_Network__init : FnScope ["self", "inputs", "neurons", "synapses", "rule"] ["self", "inputs", "neurons", "synapses", "rule"] (defScope st_Network__init) := ⟨rfl, rfl, rfl, by decide +kernel, rfl, by decide +kernel, by decide +kernel⟩
theorem ok_Network__init (T : Txt P w K mg base D) : FnOk P w K mg base CX0 1 (He.fAd K ("Network", some "__init__")) D.Network__init ["self", "inputs", "neurons", "synapses", "rule"] (spI (He.ga K "Network") ns_Network (R_Network__init K)) := by
  refine fn_I T.F_Network__init sc_Network__init (by rintro _ _ ⟨inputs, neurons, synapses, rule, c, rfl, rfl, _⟩; rfl) (by decide) fun cdv A outer s H E hr => ⟨_, (pss_cons (ps_fld (pv 0) (pv 1) rfl)
      (pss_cons (ps_fld (pv 0) (pe_callTy (list_ofK (K := K) rfl) (by rfl) T.z_list (by decide +kernel) (pa_cons (pv 2) pa_nil)) rfl)
      (pss_cons (ps_fld (pv 0) (pe_callTy (list_ofK (K := K) rfl) (by rfl) T.z_list (by decide +kernel) (pa_cons (pv 3) pa_nil)) rfl)
      (pss_one (ps_fld (pv 0) (pv 4) rfl))))), ?_⟩
  rintro z _ _ ⟨inputs, neurons, synapses, rule, c, rfl, rfl, h⟩
  unfold m_Network__init at h
  have h := Option.some.inj h
  subst h
  exact ⟨_, (s_seq (Γ1 := [.own (oS z (He.ga K "Network") ["inputs"] [(pI inputs)]), .val (pI inputs), .val ((rL (rNeuron K)) neurons), .val ((rL (rSynapse K)) synapses), .val ((pOpt (rRule K)) rule)]) (s_setFc T.c_Network T.n_Network_inputs (i := 0) rfl (by decide +kernel) rfl (Nat.le_of_ble_eq_true rfl) (e_to (P' := (pI inputs)) (e_var rfl) rfl) rfl)
    (s_seq (Γ1 := [.own (oS z (He.ga K "Network") ["inputs", "neurons"] [(pI inputs), ((rL (rNeuron K)) neurons)]), .val (pI inputs), .val ((rL (rNeuron K)) neurons), .val ((rL (rSynapse K)) synapses), .val ((pOpt (rRule K)) rule)]) (s_setFc T.c_Network T.n_Network_neurons (i := 0) rfl (by decide +kernel) rfl (Nat.le_of_ble_eq_true rfl) (e_to (P' := ((rL (rNeuron K)) neurons)) (e_L (w_list (r_E (e_var rfl)))) rfl) rfl)
    (s_seq (Γ1 := [.own (oS z (He.ga K "Network") ["inputs", "neurons", "synapses"] [(pI inputs), ((rL (rNeuron K)) neurons), ((rL (rSynapse K)) synapses)]), .val (pI inputs), .val ((rL (rNeuron K)) neurons), .val ((rL (rSynapse K)) synapses), .val ((pOpt (rRule K)) rule)]) (s_setFc T.c_Network T.n_Network_synapses (i := 0) rfl (by decide +kernel) rfl (Nat.le_of_ble_eq_true rfl) (e_to (P' := ((rL (rSynapse K)) synapses)) (e_L (w_list (r_E (e_var rfl)))) rfl) rfl)
    (s_at [.own (oS z (He.ga K "Network") ["inputs", "neurons", "synapses", "rule"] [(pI inputs), ((rL (rNeuron K)) neurons), ((rL (rSynapse K)) synapses), ((pOpt (rRule K)) rule)]), .val (pI inputs), .val ((rL (rNeuron K)) neurons), .val ((rL (rSynapse K)) synapses), .val ((pOpt (rRule K)) rule)] (s_setFc T.c_Network T.n_Network_rule (i := 0) rfl (by decide +kernel) rfl (Nat.le_of_ble_eq_true rfl) (e_to (P' := ((pOpt (rRule K)) rule)) (e_var rfl) rfl) rfl))))), rfl⟩

def m_Network_sources (self : Network) : Option Int :=
  some (self.inputs + (self.neurons.length : Int))
def R_Network_sources (K : PySem.W.Frag) : List Pr → Pr → Prop := fun Ps Q => ∃ (self : Network) (r : Int), Ps = [((rNetwork K) self)] ∧ Q = (pI r) ∧ m_Network_sources self = some r
theorem sc_Network_sources : FnScope ["self"] ["self"] (defScope st_Network_sources) := ⟨rfl, rfl, rfl, by decide +kernel, rfl, by decide +kernel, by decide +kernel⟩
theorem ok_Network_sources (T : Txt P w K mg base D) : FnOk P w K mg base CX0 1 (He.fAd K ("Network", some "sources")) D.Network_sources ["self"] (spR (R_Network_sources K)) := by
  refine fn_R T.F_Network_sources sc_Network_sources (by rintro _ _ ⟨self, _, rfl, rfl, _⟩; rfl) (by decide) fun cdv A outer s H E hr => ⟨_, (pss_one (ps_ret (pe_op op_add (pe_fldK (K := K) rfl (pv 0) rfl) (pe_callB (len_seqK (K := K) rfl) (by rfl) T.z_len PySem.boot_len (pa_cons (pe_fldK (K := K) rfl (pv 0) rfl) pa_nil))))), ?_⟩
  rintro _ _ ⟨self, r, rfl, rfl, h⟩
  unfold m_Network_sources at h
  refine s_from (Γ' := [.val ((rNetwork K) self)]) ?_ rfl
  have h := Option.some.inj h
  subst h
  exact (s_ret (e_to (P' := (pI (self.inputs + (self.neurons.length : Int)))) (e_op rr_I0 (e_fld T.c_Network T.n_Network_inputs nd_Network (i := 0) rfl rfl (e_var rfl)) (e_lenM (r_E (e_fld T.c_Network T.n_Network_neurons nd_Network (i := 1) rfl rfl (e_var rfl))))) rfl))

def m_Run__init (spikes : (List (List Int))) (weights : (List Int)) : Option Run :=
  some (⟨spikes, weights⟩ : Run)
def R_Run__init (K : PySem.W.Frag) : Ow → List Pr → Ow → Pr → Prop := fun U Ps U1 P => ∃ (spikes : (List (List Int))) (weights : (List Int)) (c : Run), U = oOs (He.ga K "Run") [] [] ∧ Ps = [((rL (rL pI)) spikes), ((rL pI) weights)] ∧ U1 = (oRun K c) ∧ P = pN ∧ m_Run__init spikes weights = some c
theorem sc_Run__init : FnScope ["self", "spikes", "weights"] ["self", "spikes", "weights"] (defScope st_Run__init) := ⟨rfl, rfl, rfl, by decide +kernel, rfl, by decide +kernel, by decide +kernel⟩
theorem ok_Run__init (T : Txt P w K mg base D) : FnOk P w K mg base CX0 1 (He.fAd K ("Run", some "__init__")) D.Run__init ["self", "spikes", "weights"] (spU 0 (R_Run__init K)) := by
  refine fn_U T.F_Run__init sc_Run__init (by rintro _ _ _ _ ⟨spikes, weights, c, rfl, rfl, rfl, rfl, _⟩; rfl) (by decide) fun cdv A outer s H E hr => ⟨_, (pss_cons (ps_fld (pv 0) (pe_callTy (list_ofK (K := K) rfl) (by rfl) T.z_list (by decide +kernel) (pa_cons (pv 1) pa_nil)) rfl)
      (pss_one (ps_fld (pv 0) (pe_callTy (list_ofK (K := K) rfl) (by rfl) T.z_list (by decide +kernel) (pa_cons (pv 2) pa_nil)) rfl))), ?_⟩
  rintro z _ _ _ _ ⟨spikes, weights, c, rfl, rfl, rfl, rfl, h⟩
  unfold m_Run__init at h
  refine s_from (Γ' := [.own (oAt z (oOs (He.ga K "Run") [] [])), .val ((rL (rL pI)) spikes), .val ((rL pI) weights)]) ?_ rfl
  have h := Option.some.inj h
  subst h
  refine s_rnN (Γ1 := [.own (oAt z (oOs (He.ga K "Run") ["spikes", "weights"] [(oL (spikes.map (rL pI))), (oL (weights.map pI))])), .val ((rL (rL pI)) spikes), .val ((rL pI) weights)]) ?_ rfl
  refine s_seq (Γ1 := [.own (oAt z (oOs (He.ga K "Run") ["spikes"] [(oL (spikes.map (rL pI)))])), .val ((rL (rL pI)) spikes), .val ((rL pI) weights)]) (s_newFW (W := (oL (spikes.map (rL pI)))) T.c_Run T.n_Run_spikes (f_at (f_var (i := 0) rfl)) (by decide +kernel) rfl (Nat.le_of_ble_eq_true rfl) (w_list (r_E (e_var rfl))) rfl rfl) ?_
  exact (s_newFW (W := (oL (weights.map pI))) T.c_Run T.n_Run_weights (f_at (f_var (i := 0) rfl)) (by decide +kernel) rfl (Nat.le_of_ble_eq_true rfl) (w_list (r_E (e_var rfl))) rfl rfl)

def m_depressed (rule : Rule) (weight : Int) : Option Int :=
  some (max (weight - rule.loss) rule.least)
def R_depressed (K : PySem.W.Frag) : List Pr → Pr → Prop := fun Ps Q => ∃ (rule : Rule) (weight : Int) (r : Int), Ps = [((rRule K) rule), (pI weight)] ∧ Q = (pI r) ∧ m_depressed rule weight = some r
theorem sc_depressed : FnScope ["rule", "weight"] ["rule", "weight"] (defScope st_depressed) := ⟨rfl, rfl, rfl, by decide +kernel, rfl, by decide +kernel, by decide +kernel⟩
theorem ok_depressed (T : Txt P w K mg base D) : FnOk P w K mg base CX0 1 (He.fAd K ("depressed", none)) D.depressed ["rule", "weight"] (spR (R_depressed K)) := by
  refine fn_R T.F_depressed sc_depressed (by rintro _ _ ⟨rule, weight, _, rfl, rfl, _⟩; rfl) (by decide) fun cdv A outer s H E hr => ⟨_, (pss_one (ps_ret (pe_callB (call_max2 rfl) (by rfl) T.z_max (by decide +kernel) (pa_cons (pe_op op_sub (pv 1) (pe_fldK (K := K) rfl (pv 0) rfl)) (pa_cons (pe_fldK (K := K) rfl (pv 0) rfl) pa_nil))))), ?_⟩
  rintro _ _ ⟨rule, weight, r, rfl, rfl, h⟩
  unfold m_depressed at h
  refine s_from (Γ' := [.val ((rRule K) rule), .val (pI weight)]) ?_ rfl
  have h := Option.some.inj h
  subst h
  exact (s_ret (e_to (P' := (pI (max (weight - rule.loss) rule.least))) (e_cb rc_max2 (a_cons (e_op rr_I0 (e_var rfl) (e_fld T.c_Rule T.n_Rule_loss nd_Rule (i := 1) rfl rfl (e_var rfl))) (a_cons (e_fld T.c_Rule T.n_Rule_least nd_Rule (i := 3) rfl rfl (e_var rfl)) a_nil))) rfl))

def m_potentiated (rule : Rule) (weight : Int) : Option Int :=
  some (min (weight + rule.gain) rule.most)
def R_potentiated (K : PySem.W.Frag) : List Pr → Pr → Prop := fun Ps Q => ∃ (rule : Rule) (weight : Int) (r : Int), Ps = [((rRule K) rule), (pI weight)] ∧ Q = (pI r) ∧ m_potentiated rule weight = some r
theorem sc_potentiated : FnScope ["rule", "weight"] ["rule", "weight"] (defScope st_potentiated) := ⟨rfl, rfl, rfl, by decide +kernel, rfl, by decide +kernel, by decide +kernel⟩
theorem ok_potentiated (T : Txt P w K mg base D) : FnOk P w K mg base CX0 1 (He.fAd K ("potentiated", none)) D.potentiated ["rule", "weight"] (spR (R_potentiated K)) := by
  refine fn_R T.F_potentiated sc_potentiated (by rintro _ _ ⟨rule, weight, _, rfl, rfl, _⟩; rfl) (by decide) fun cdv A outer s H E hr => ⟨_, (pss_one (ps_ret (pe_callB (call_min2 rfl) (by rfl) T.z_min (by decide +kernel) (pa_cons (pe_op op_add (pv 1) (pe_fldK (K := K) rfl (pv 0) rfl)) (pa_cons (pe_fldK (K := K) rfl (pv 0) rfl) pa_nil))))), ?_⟩
  rintro _ _ ⟨rule, weight, r, rfl, rfl, h⟩
  unfold m_potentiated at h
  refine s_from (Γ' := [.val ((rRule K) rule), .val (pI weight)]) ?_ rfl
  have h := Option.some.inj h
  subst h
  exact (s_ret (e_to (P' := (pI (min (weight + rule.gain) rule.most))) (e_cb rc_min2 (a_cons (e_op rr_I0 (e_var rfl) (e_fld T.c_Rule T.n_Rule_gain nd_Rule (i := 0) rfl rfl (e_var rfl))) (a_cons (e_fld T.c_Rule T.n_Rule_most nd_Rule (i := 4) rfl rfl (e_var rfl)) a_nil))) rfl))

def m_state_at_start (network : Network) : Option ((List Int) × (List Int) × (List (Option Int)) × (List Int) × (List (Option Int))) :=
  (repVM (0 : Int) (network.neurons.length : Int)).bind fun rep1 =>
  (szM network.synapses).bind fun z7 =>
  (mapO (fun x3 => (some x3.weight : Option Int)) network.synapses).bind fun lc4 =>
  (repVM (none : (Option Int)) (network.neurons.length : Int)).bind fun rep9 =>
  (repVM (none : (Option Int)) (network.synapses.length : Int)).bind fun rep11 =>
  some (rep1, rep1, rep9, lc4, rep11)
def R_state_at_start (K : PySem.W.Frag) : List Pr → Pr → Prop := fun Ps Q => ∃ (network : Network) (r : ((List Int) × (List Int) × (List (Option Int)) × (List Int) × (List (Option Int)))), Ps = [((rNetwork K) network)] ∧ Q = ((r5 (rV pI) (rV pI) (rV (pOpt pI)) (rV pI) (rV (pOpt pI))) r) ∧ m_state_at_start network = some r
theorem sc_state_at_start : FnScope ["network", "zeros", "weights", "synapse"] ["network"] (defScope st_state_at_start) := ⟨rfl, rfl, rfl, by decide +kernel, rfl, by decide +kernel, by decide +kernel⟩
theorem ok_state_at_start (T : Txt P w K mg base D) : FnOk P w K mg base CX0 1 (He.fAd K ("state_at_start", none)) D.state_at_start ["network"] (spR (R_state_at_start K)) := by
  refine fn_R T.F_state_at_start sc_state_at_start (by rintro _ _ ⟨network, _, rfl, rfl, _⟩; rfl) (by decide) fun cdv A outer s H E hr => ⟨_, (pss_cons (ps_set (i := 1) sc_state_at_start.nd rfl (.inl rfl) (pe_op (op_repAK (K := K) rfl) (pe_tup (pa_cons pe_int pa_nil)) (pe_callB (len_seqK (K := K) rfl) (by rfl) T.z_len PySem.boot_len (pa_cons (pe_fldK (K := K) rfl (pv 0) rfl) pa_nil))))
      (pss_cons (ps_set (i := 2) sc_state_at_start.nd rfl (.inl rfl) (pe_callTy (tuple_ofK (K := K) rfl) (by rfl) T.z_tuple (by decide +kernel) (pa_cons (pe_lc (own := [("synapse", 3)]) rfl sc_state_at_start.nd (pi_listK (K := K) rfl (pe_fldK (K := K) rfl (pv 0) rfl)) (blkOk_by (N := ["network", "zeros", "weights", "synapse"]) (sc := defScope st_state_at_start) (by decide +kernel)) (fun _ _ _ _ _ => (pg_name (i := 3) sc_state_at_start.nd rfl (.inl rfl))) (fun _ _ _ _ _ => pts_nil) (fun _ _ _ _ _ => (pe_fldK (K := K) rfl (pv 3) rfl))) pa_nil)))
      (pss_one (ps_ret (pe_tup (pa_cons (pv 1) (pa_cons (pv 1) (pa_cons (pe_op (op_repAK (K := K) rfl) (pe_tup (pa_cons pe_non pa_nil)) (pe_callB (len_seqK (K := K) rfl) (by rfl) T.z_len PySem.boot_len (pa_cons (pe_fldK (K := K) rfl (pv 0) rfl) pa_nil))) (pa_cons (pv 2) (pa_cons (pe_op (op_repAK (K := K) rfl) (pe_tup (pa_cons pe_non pa_nil)) (pe_callB (len_seqK (K := K) rfl) (by rfl) T.z_len PySem.boot_len (pa_cons (pe_fldK (K := K) rfl (pv 0) rfl) pa_nil))) pa_nil)))))))))), ?_⟩
  rintro _ _ ⟨network, r, rfl, rfl, h⟩
  unfold m_state_at_start at h
  refine s_from (Γ' := [.val ((rNetwork K) network), .any, .any, .any]) ?_ rfl
  obtain ⟨rep1, h2, h⟩ := bs h
  refine s_seq (Γ1 := [.val ((rNetwork K) network), .val ((rV pI) rep1), .any, .any]) (s_asg (e_repV (r := pI) (x := 0) (e_tup (a_cons e_int a_nil) (Nat.le_of_ble_eq_true rfl)) (e_lenM (r_E (e_fld T.c_Network T.n_Network_neurons nd_Network (i := 1) rfl rfl (e_var rfl)))) h2) (show (1 : Nat) < 4 by decide)) ?_
  obtain ⟨z7, h6, h⟩ := bs h
  obtain ⟨lc4, h5, h⟩ := bs h
  refine s_seq (Γ1 := [.val ((rNetwork K) network), .val ((rV pI) rep1), .val ((rV pI) lc4), .any]) (s_asg (e_tupL (r := pI) (xs := lc4) (r_W (w_lcY (rb := pI) (js := [3]) (vs := [3]) (fun x3 => [.val ((rNetwork K) network), .val ((rV pI) rep1), .any, .val ((rSynapse K) x3)]) _ (i_list (e_fld T.c_Network T.n_Network_synapses nd_Network (i := 2) rfl rfl (e_var rfl))) (sz_ok h6) (fun x3 => (g_name (show (3 : Nat) < 4 by decide))) (by decide) (fun x3 y _ h8 => by have h8 := Option.some.inj h8; subst h8; exact (e_fld T.c_Synapse T.n_Synapse_weight nd_Synapse (i := 2) rfl rfl (e_var rfl))) h5))) (show (2 : Nat) < 4 by decide)) ?_
  obtain ⟨rep9, h10, h⟩ := bs h
  obtain ⟨rep11, h12, h⟩ := bs h
  have h := Option.some.inj h
  subst h
  exact (s_ret (e_to (P' := ((r5 (rV pI) (rV pI) (rV (pOpt pI)) (rV pI) (rV (pOpt pI))) (rep1, rep1, rep9, lc4, rep11))) (e_tup (a_cons (e_var rfl) (a_cons (e_var rfl) (a_cons (e_repV (r := (pOpt pI)) (x := none) (e_tup (a_cons e_non a_nil) (Nat.le_of_ble_eq_true rfl)) (e_lenM (r_E (e_fld T.c_Network T.n_Network_neurons nd_Network (i := 1) rfl rfl (e_var rfl)))) h10) (a_cons (e_var rfl) (a_cons (e_repV (r := (pOpt pI)) (x := none) (e_tup (a_cons e_non a_nil) (Nat.le_of_ble_eq_true rfl)) (e_lenM (r_E (e_fld T.c_Network T.n_Network_synapses nd_Network (i := 2) rfl rfl (e_var rfl)))) h12) a_nil))))) (Nat.le_of_ble_eq_true rfl)) rfl))

def m_weights_of (state : ((List Int) × (List Int) × (List (Option Int)) × (List Int) × (List (Option Int)))) : Option (List Int) :=
  (szM state.2.2.2.1).bind fun ls1 =>
  some ls1
def R_weights_of (K : PySem.W.Frag) : List Pr → Ow → Prop := fun Ps W => ∃ (state : ((List Int) × (List Int) × (List (Option Int)) × (List Int) × (List (Option Int)))) (r : (List Int)), Ps = [((r5 (rV pI) (rV pI) (rV (pOpt pI)) (rV pI) (rV (pOpt pI))) state)] ∧ W = (oL (r.map pI)) ∧ m_weights_of state = some r
theorem sc_weights_of : FnScope ["state"] ["state"] (defScope st_weights_of) := ⟨rfl, rfl, rfl, by decide +kernel, rfl, by decide +kernel, by decide +kernel⟩
theorem ok_weights_of (T : Txt P w K mg base D) : FnOk P w K mg base CX0 1 (He.fAd K ("weights_of", none)) D.weights_of ["state"] (spW (R_weights_of K)) := by
  refine fn_W T.F_weights_of sc_weights_of (by rintro _ _ ⟨state, _, rfl, rfl, _⟩; rfl) (by decide) fun cdv A outer s H E hr => ⟨_, (pss_one (ps_ret (pe_callTy (list_ofK (K := K) rfl) (by rfl) T.z_list (by decide +kernel) (pa_cons (pe_ix (ix_tupK (K := K) rfl) (pv 0) pe_int (fun _ _ => rfl)) pa_nil)))), ?_⟩
  rintro _ _ ⟨state, r, rfl, rfl, h⟩
  unfold m_weights_of at h
  refine s_from (Γ' := [.val ((r5 (rV pI) (rV pI) (rV (pOpt pI)) (rV pI) (rV (pOpt pI))) state)]) ?_ rfl
  obtain ⟨ls1, h2, h⟩ := bs h
  have h := Option.some.inj h
  subst h
  exact (s_retW (W := (oL (ls1.map pI))) (w_listV (r := pI) (xs := state.2.2.2.1) (e_ixT (e_var rfl) e_int (atT 3 rfl)) h2))

def m_u_incoming_sums (network : Network) (weights : (List Int)) (arriving : (List Int)) : Option (List Int) :=
  (repM ([0] : (List Int)) (network.neurons.length : Int)).bind fun rep1 =>
  (List.foldlM (m := Option) (fun (sums5 : (List Int)) (x3 : Int) => (atI network.synapses x3).bind fun v8 =>
  (atI sums5 v8.target).bind fun old10 =>
  (atI weights x3).bind fun v6 =>
  (setM sums5 v8.target (old10 + v6)).bind fun sums12 =>
  some sums12) rep1 arriving).bind fun sums14 =>
  some sums14
def R_u_incoming_sums (K : PySem.W.Frag) : List Pr → Pr → Prop := fun Ps Q => ∃ (network : Network) (weights : (List Int)) (arriving : (List Int)) (r : (List Int)), Ps = [((rNetwork K) network), ((rV pI) weights), ((rL pI) arriving)] ∧ Q = ((rL pI) r) ∧ m_u_incoming_sums network weights arriving = some r
theorem sc_u_incoming_sums : FnScope ["network", "weights", "arriving", "sums", "k"] ["network", "weights", "arriving"] (defScope st_u_incoming_sums) := ⟨rfl, rfl, rfl, by decide +kernel, rfl, by decide +kernel, by decide +kernel⟩
theorem ok_u_incoming_sums (T : Txt P w K mg base D) : FnOk P w K mg base CX0 1 (He.fAd K ("_incoming_sums", none)) D.u_incoming_sums ["network", "weights", "arriving"] (spR (R_u_incoming_sums K)) := by
  refine fn_R T.F_u_incoming_sums sc_u_incoming_sums (by rintro _ _ ⟨network, weights, arriving, _, rfl, rfl, _⟩; rfl) (by decide) fun cdv A outer s H E hr => ⟨_, (pss_cons (ps_set (i := 3) sc_u_incoming_sums.nd rfl (.inl rfl) (pe_op op_rep (pe_lst (pa_cons pe_int pa_nil)) (pe_callB (len_seqK (K := K) rfl) (by rfl) T.z_len PySem.boot_len (pa_cons (pe_fldK (K := K) rfl (pv 0) rfl) pa_nil))))
      (pss_cons (ps_for PassesOwn.never rfl (pi_listK (K := K) rfl (pv 2)) (pg_name (i := 4) sc_u_incoming_sums.nd rfl (.inl rfl)) (pss_one (ps_augS (pv 3) (pe_fldK (K := K) rfl (pe_ix (ix_listK (K := K) rfl) (pe_fldK (K := K) rfl (pv 0) rfl) (pv 4) (fun _ _ => rfl)) rfl) pget_list (pe_ix (ix_tupK (K := K) rfl) (pv 1) (pv 4) (fun _ _ => rfl)) ip_add set_list)))
      (pss_one (ps_ret (pv 3))))), ?_⟩
  rintro _ _ ⟨network, weights, arriving, r, rfl, rfl, h⟩
  unfold m_u_incoming_sums at h
  refine s_from (Γ' := [.val ((rNetwork K) network), .val ((rV pI) weights), .val ((rL pI) arriving), .any, .any]) ?_ rfl
  obtain ⟨rep1, h2, h⟩ := bs h
  refine s_seq (Γ1 := [.val ((rNetwork K) network), .val ((rV pI) weights), .val ((rL pI) arriving), .own (oL (rep1.map pI)), .any]) (s_asgW (w_repM (sL_W (w_to (r := pI) (xs := ([0] : (List Int))) (w_lst (a_cons e_int a_nil) (Nat.le_of_ble_eq_true rfl)) rfl)) (e_lenM (r_E (e_fld T.c_Network T.n_Network_neurons nd_Network (i := 1) rfl rfl (e_var rfl)))) h2) (show (3 : Nat) < 5 by decide)) ?_
  obtain ⟨sums14, h15, h⟩ := bs h
  refine s_seq (Γ1 := [.val ((rNetwork K) network), .val ((rV pI) weights), .val ((rL pI) arriving), .own (oL (sums14.map pI)), .any]) (s_forIM (r := pI) (fun (s_4 : (List Int)) => [.val ((rNetwork K) network), .val ((rV pI) weights), .val ((rL pI) arriving), .own (oL (s_4.map pI)), .any]) (fun (s_4 : (List Int)) (x3 : Int) => [.val ((rNetwork K) network), .val ((rV pI) weights), .val ((rL pI) arriving), .own (oL (s_4.map pI)), .val (pI x3)]) _ rep1 (i_list (e_var rfl)) (fun s_4 x3 => (g_name (show (4 : Nat) < 5 by decide))) (fun sums5 x3 s' _ h => by
        refine s_from (Γ' := [.val ((rNetwork K) network), .val ((rV pI) weights), .val ((rL pI) arriving), .own (oL (sums5.map pI)), .val (pI x3)]) ?_ rfl
        obtain ⟨v8, h9, h⟩ := bs h
        obtain ⟨old10, h11, h⟩ := bs h
        obtain ⟨v6, h7, h⟩ := bs h
        obtain ⟨sums12, h13, h⟩ := bs h
        have h := Option.some.inj h
        subst h
        exact s_ncN (s_to (s_mask [4] (s_at [.val ((rNetwork K) network), .val ((rV pI) weights), .val ((rL pI) arriving), .own (oL (sums12.map pI)), .val (pI x3)] (s_augLM (f := fun x y => x + y) (i := 3) rfl (e_fld T.c_Synapse T.n_Synapse_target nd_Synapse (i := 1) rfl rfl (e_ixLM (r := (rSynapse K)) (xs := network.synapses) (r_E (e_fld T.c_Network T.n_Network_synapses nd_Network (i := 2) rfl rfl (e_var rfl))) (e_var rfl) h9)) h11 (e_ixVM (r := pI) (xs := weights) (e_var rfl) (e_var rfl) h7) h13))) rfl)
      ) h15) ?_
  refine s_frz (i := 3) rfl frz_L (s_from (Γ' := [.val ((rNetwork K) network), .val ((rV pI) weights), .val ((rL pI) arriving), .val ((rL pI) sums14), .any]) ?_ rfl)
  have h := Option.some.inj h
  subst h
  exact (s_ret (e_to (P' := ((rL pI) sums14)) (e_var rfl) rfl))

def m_u_is_recent (last : (Option Int)) (tick : Int) (window : Int) : Option Bool :=
  (match last with | none => some false | some last1 => some (decide ((tick - last1) ≤ window))).bind fun c2 =>
  some c2
def R_u_is_recent (K : PySem.W.Frag) : List Pr → Pr → Prop := fun Ps Q => ∃ (last : (Option Int)) (tick : Int) (window : Int) (r : Bool), Ps = [((pOpt pI) last), (pI tick), (pI window)] ∧ Q = (pB r) ∧ m_u_is_recent last tick window = some r
theorem sc_u_is_recent : FnScope ["last", "tick", "window"] ["last", "tick", "window"] (defScope st_u_is_recent) := ⟨rfl, rfl, rfl, by decide +kernel, rfl, by decide +kernel, by decide +kernel⟩
theorem ok_u_is_recent (T : Txt P w K mg base D) : FnOk P w K mg base CX0 1 (He.fAd K ("_is_recent", none)) D.u_is_recent ["last", "tick", "window"] (spR (R_u_is_recent K)) := by
  refine fn_R T.F_u_is_recent sc_u_is_recent (by rintro _ _ ⟨last, tick, window, _, rfl, rfl, _⟩; rfl) (by decide) fun cdv A outer s H E hr => ⟨_, (pss_one (ps_ret (pe_and (pe_cmpR op_notN (pv 0) pe_non (nomark _)) (pe_one (pe_cmpR op_le (pe_op op_sub (pv 1) (pv 0)) (pv 2) (nomark _)))))), ?_⟩
  rintro _ _ ⟨last, tick, window, r, rfl, rfl, h⟩
  unfold m_u_is_recent at h
  refine s_from (Γ' := [.val ((pOpt pI) last), .val (pI tick), .val (pI window)]) ?_ rfl
  obtain ⟨c2, h3, h⟩ := bs h
  have h := Option.some.inj h
  subst h
  exact (s_ret (e_to (P' := (pB c2)) (by cases last with | none => (have h3 := Option.some.inj h3; subst h3; exact e_and (b := false) (e_op (rr_notN nn_I) (e_var rfl) e_non) (fun z => Bool.noConfusion (show false = true from z)) rfl) | some last1 => (have h3 := Option.some.inj h3; subst h3; exact e_and (e_op (rr_notN nn_I) (e_var rfl) e_non) (fun _ => (e_op rr_B0 (e_op rr_I0 (e_var rfl) (e_var rfl)) (e_var rfl))) rfl)) rfl))

def m_u_noted (ticks : (List (Option Int))) (indexes : (List Int)) (tick : Int) : Option (List (Option Int)) :=
  (szM ticks).bind fun ls1 =>
  (List.foldlM (m := Option) (fun (noted5 : (List (Option Int))) (x3 : Int) => (setM noted5 x3 (some tick)).bind fun noted6 =>
  some noted6) ls1 indexes).bind fun noted8 =>
  some noted8
def R_u_noted (K : PySem.W.Frag) : List Pr → Pr → Prop := fun Ps Q => ∃ (ticks : (List (Option Int))) (indexes : (List Int)) (tick : Int) (r : (List (Option Int))), Ps = [((rV (pOpt pI)) ticks), ((rL pI) indexes), (pI tick)] ∧ Q = ((rV (pOpt pI)) r) ∧ m_u_noted ticks indexes tick = some r
theorem sc_u_noted : FnScope ["ticks", "indexes", "tick", "noted", "k"] ["ticks", "indexes", "tick"] (defScope st_u_noted) := ⟨rfl, rfl, rfl, by decide +kernel, rfl, by decide +kernel, by decide +kernel⟩
theorem ok_u_noted (T : Txt P w K mg base D) : FnOk P w K mg base CX0 1 (He.fAd K ("_noted", none)) D.u_noted ["ticks", "indexes", "tick"] (spR (R_u_noted K)) := by
  refine fn_R T.F_u_noted sc_u_noted (by rintro _ _ ⟨ticks, indexes, tick, _, rfl, rfl, _⟩; rfl) (by decide) fun cdv A outer s H E hr => ⟨_, (pss_cons (ps_set (i := 3) sc_u_noted.nd rfl (.inl rfl) (pe_callTy (list_ofK (K := K) rfl) (by rfl) T.z_list (by decide +kernel) (pa_cons (pv 0) pa_nil)))
      (pss_cons (ps_for PassesOwn.never rfl (pi_listK (K := K) rfl (pv 1)) (pg_name (i := 4) sc_u_noted.nd rfl (.inl rfl)) (pss_one (ps_asg (pv 2) (pg_sub (pv 3) (pv 4) set_list))))
      (pss_one (ps_ret (pe_callTy (tuple_ofK (K := K) rfl) (by rfl) T.z_tuple (by decide +kernel) (pa_cons (pv 3) pa_nil)))))), ?_⟩
  rintro _ _ ⟨ticks, indexes, tick, r, rfl, rfl, h⟩
  unfold m_u_noted at h
  refine s_from (Γ' := [.val ((rV (pOpt pI)) ticks), .val ((rL pI) indexes), .val (pI tick), .any, .any]) ?_ rfl
  obtain ⟨ls1, h2, h⟩ := bs h
  refine s_seq (Γ1 := [.val ((rV (pOpt pI)) ticks), .val ((rL pI) indexes), .val (pI tick), .own (oL (ls1.map (pOpt pI))), .any]) (s_asgW (w_listV (r := (pOpt pI)) (xs := ticks) (e_var rfl) h2) (show (3 : Nat) < 5 by decide)) ?_
  obtain ⟨noted8, h9, h⟩ := bs h
  refine s_seq (Γ1 := [.val ((rV (pOpt pI)) ticks), .val ((rL pI) indexes), .val (pI tick), .own (oL (noted8.map (pOpt pI))), .any]) (s_forIM (r := pI) (fun (s_4 : (List (Option Int))) => [.val ((rV (pOpt pI)) ticks), .val ((rL pI) indexes), .val (pI tick), .own (oL (s_4.map (pOpt pI))), .any]) (fun (s_4 : (List (Option Int))) (x3 : Int) => [.val ((rV (pOpt pI)) ticks), .val ((rL pI) indexes), .val (pI tick), .own (oL (s_4.map (pOpt pI))), .val (pI x3)]) _ ls1 (i_list (e_var rfl)) (fun s_4 x3 => (g_name (show (4 : Nat) < 5 by decide))) (fun noted5 x3 s' _ h => by
        refine s_from (Γ' := [.val ((rV (pOpt pI)) ticks), .val ((rL pI) indexes), .val (pI tick), .own (oL (noted5.map (pOpt pI))), .val (pI x3)]) ?_ rfl
        obtain ⟨noted6, h7, h⟩ := bs h
        have h := Option.some.inj h
        subst h
        exact s_ncN (s_to (s_mask [4] (s_at [.val ((rV (pOpt pI)) ticks), .val ((rL pI) indexes), .val (pI tick), .own (oL (noted6.map (pOpt pI))), .val (pI x3)] (s_setLM (r := (pOpt pI)) (i := 3) rfl (e_var rfl) (e_var rfl) h7))) rfl)
      ) h9) ?_
  refine s_frz (i := 3) rfl frz_L (s_from (Γ' := [.val ((rV (pOpt pI)) ticks), .val ((rL pI) indexes), .val (pI tick), .val ((rL (pOpt pI)) noted8), .any]) ?_ rfl)
  have h := Option.some.inj h
  subst h
  exact (s_ret (e_to (P' := ((rV (pOpt pI)) noted8)) (e_tupL (r := (pOpt pI)) (xs := noted8) (r_E (e_var rfl))) rfl))

def m_u_spiking_sources (network : Network) (stimulus : (List Int)) (spiking : (List Int)) : Option (List (L2.Key × Bool)) :=
  (szM spiking).bind fun z5 =>
  (mapO (fun x1 => (some (network.inputs + x1) : Option Int)) spiking).bind fun lc2 =>
  (catM stimulus lc2).bind fun cat7 =>
  (szM cat7).bind fun z13 =>
  (dcM (fun _ => some true) (fun x9 => some (.inl x9)) (fun x9 => some true) [] cat7).bind fun dc10 =>
  some dc10
def R_u_spiking_sources (K : PySem.W.Frag) : List Pr → Pr → Prop := fun Ps Q => ∃ (network : Network) (stimulus : (List Int)) (spiking : (List Int)) (r : (List (L2.Key × Bool))), Ps = [((rNetwork K) network), ((rL pI) stimulus), ((rL pI) spiking)] ∧ Q = ((rD pB) r) ∧ m_u_spiking_sources network stimulus spiking = some r
theorem sc_u_spiking_sources : FnScope ["network", "stimulus", "spiking", "sources", "n", "source"] ["network", "stimulus", "spiking"] (defScope st_u_spiking_sources) := ⟨rfl, rfl, rfl, by decide +kernel, rfl, by decide +kernel, by decide +kernel⟩
theorem ok_u_spiking_sources (T : Txt P w K mg base D) : FnOk P w K mg base CX0 1 (He.fAd K ("_spiking_sources", none)) D.u_spiking_sources ["network", "stimulus", "spiking"] (spR (R_u_spiking_sources K)) := by
  refine fn_R T.F_u_spiking_sources sc_u_spiking_sources (by rintro _ _ ⟨network, stimulus, spiking, _, rfl, rfl, _⟩; rfl) (by decide) fun cdv A outer s H E hr => ⟨_, (pss_cons (ps_set (i := 3) sc_u_spiking_sources.nd rfl (.inl rfl) (pe_op op_cat (pe_callTy (list_ofK (K := K) rfl) (by rfl) T.z_list (by decide +kernel) (pa_cons (pv 1) pa_nil)) (pe_lc (own := [("n", 4)]) rfl sc_u_spiking_sources.nd (pi_listK (K := K) rfl (pv 2)) (blkOk_by (N := ["network", "stimulus", "spiking", "sources", "n", "source"]) (sc := defScope st_u_spiking_sources) (by decide +kernel)) (fun _ _ _ _ _ => (pg_name (i := 4) sc_u_spiking_sources.nd rfl (.inl rfl))) (fun _ _ _ _ _ => pts_nil) (fun _ _ _ _ _ => (pe_op op_add (pe_fldK (K := K) rfl (pv 0) rfl) (pv 4))))))
      (pss_one (ps_ret (pe_dc (own := [("source", 5)]) rfl sc_u_spiking_sources.nd (pi_listK (K := K) rfl (pv 3)) (blkOk_by (N := ["network", "stimulus", "spiking", "sources", "n", "source"]) (sc := defScope st_u_spiking_sources) (by decide +kernel)) (fun _ _ _ _ _ => (pg_name (i := 5) sc_u_spiking_sources.nd rfl (.inl rfl))) (fun _ _ _ _ _ => pts_nil) (fun _ _ _ _ _ => (pv 5)) (fun _ _ _ _ _ => pe_bl))))), ?_⟩
  rintro _ _ ⟨network, stimulus, spiking, r, rfl, rfl, h⟩
  unfold m_u_spiking_sources at h
  refine s_from (Γ' := [.val ((rNetwork K) network), .val ((rL pI) stimulus), .val ((rL pI) spiking), .any, .any, .any]) ?_ rfl
  obtain ⟨z5, h4, h⟩ := bs h
  obtain ⟨lc2, h3, h⟩ := bs h
  obtain ⟨cat7, h8, h⟩ := bs h
  refine s_seq (Γ1 := [.val ((rNetwork K) network), .val ((rL pI) stimulus), .val ((rL pI) spiking), .val ((rL pI) cat7), .any, .any]) (s_asg (e_L (w_catM (sL_W (w_list (r_E (e_var rfl)))) (sL_W (w_lcY (rb := pI) (js := [4]) (vs := [4]) (fun x1 => [.val ((rNetwork K) network), .val ((rL pI) stimulus), .val ((rL pI) spiking), .any, .val (pI x1), .any]) _ (i_list (e_var rfl)) (sz_ok h4) (fun x1 => (g_name (show (4 : Nat) < 6 by decide))) (by decide) (fun x1 y _ h6 => by have h6 := Option.some.inj h6; subst h6; exact (e_op rr_I0 (e_fld T.c_Network T.n_Network_inputs nd_Network (i := 0) rfl rfl (e_var rfl)) (e_var rfl))) h3)) h8)) (show (3 : Nat) < 6 by decide)) ?_
  obtain ⟨z13, h12, h⟩ := bs h
  obtain ⟨dc10, h11, h⟩ := bs h
  have h := Option.some.inj h
  subst h
  exact (s_ret (e_to (P' := ((rD pB) dc10)) (e_frz frz_D (e_dc (rb := pB) (js := [5]) (vs := [5]) (fun x9 => [.val ((rNetwork K) network), .val ((rL pI) stimulus), .val ((rL pI) spiking), .val ((rL pI) cat7), .any, .val (pI x9)]) _ _ _ (i_list (e_var rfl)) (sz_ok h12) (fun x9 => (g_name (show (5 : Nat) < 6 by decide))) (by decide) (fun x9 b _ hb => by cases hb; exact t_yes) (fun x9 y _ _ h14 => by have h14 := Option.some.inj h14; subst h14; exact (k_I (e_var rfl))) (fun x9 y _ _ h14 => by have h14 := Option.some.inj h14; subst h14; exact e_bl) h11)) rfl))

def m_initial_state (network : Network) : Option ((List Int) × (List Int) × (List (List Int))) :=
  (repVM (0 : Int) (network.neurons.length : Int)).bind fun rep1 =>
  (szM network.synapses).bind fun z7 =>
  (mapO (fun x3 => (some x3.delay : Option Int)) network.synapses).bind fun lc4 =>
  (catM ([15] : (List Int)) lc4).bind fun cat9 =>
  (maxL cat9).bind fun m11 =>
  (repVM (rep1 : (List Int)) m11).bind fun rep13 =>
  some (rep1, rep1, rep13)
def R_initial_state (K : PySem.W.Frag) : List Pr → Pr → Prop := fun Ps Q => ∃ (network : Network) (r : ((List Int) × (List Int) × (List (List Int)))), Ps = [((rNetwork K) network)] ∧ Q = ((r3 (rV pI) (rV pI) (rV (rV pI))) r) ∧ m_initial_state network = some r
theorem sc_initial_state : FnScope ["network", "zeros", "ahead", "synapse"] ["network"] (defScope st_initial_state) := ⟨rfl, rfl, rfl, by decide +kernel, rfl, by decide +kernel, by decide +kernel⟩
theorem ok_initial_state (T : Txt P w K mg base D) : FnOk P w K mg base CX0 1 (He.fAd K ("initial_state", none)) D.initial_state ["network"] (spR (R_initial_state K)) := by
  refine fn_R T.F_initial_state sc_initial_state (by rintro _ _ ⟨network, _, rfl, rfl, _⟩; rfl) (by decide) fun cdv A outer s H E hr => ⟨_, (pss_cons (ps_set (i := 1) sc_initial_state.nd rfl (.inl rfl) (pe_op (op_repAK (K := K) rfl) (pe_tup (pa_cons pe_int pa_nil)) (pe_callB (len_seqK (K := K) rfl) (by rfl) T.z_len PySem.boot_len (pa_cons (pe_fldK (K := K) rfl (pv 0) rfl) pa_nil))))
      (pss_cons (ps_set (i := 2) sc_initial_state.nd rfl (.inl rfl) (pe_callB (maxK (K := K) rfl rfl) (by rfl) T.z_max (by decide +kernel) (pa_cons (pe_op op_cat (pe_lst (pa_cons (pe_gI rfl T.gi_TICKS_AHEAD) pa_nil)) (pe_lc (own := [("synapse", 3)]) rfl sc_initial_state.nd (pi_listK (K := K) rfl (pe_fldK (K := K) rfl (pv 0) rfl)) (blkOk_by (N := ["network", "zeros", "ahead", "synapse"]) (sc := defScope st_initial_state) (by decide +kernel)) (fun _ _ _ _ _ => (pg_name (i := 3) sc_initial_state.nd rfl (.inl rfl))) (fun _ _ _ _ _ => pts_nil) (fun _ _ _ _ _ => (pe_fldK (K := K) rfl (pv 3) rfl)))) pa_nil)))
      (pss_one (ps_ret (pe_tup (pa_cons (pv 1) (pa_cons (pv 1) (pa_cons (pe_op (op_repAK (K := K) rfl) (pe_tup (pa_cons (pv 1) pa_nil)) (pv 2)) pa_nil)))))))), ?_⟩
  rintro _ _ ⟨network, r, rfl, rfl, h⟩
  unfold m_initial_state at h
  refine s_from (Γ' := [.val ((rNetwork K) network), .any, .any, .any]) ?_ rfl
  obtain ⟨rep1, h2, h⟩ := bs h
  refine s_seq (Γ1 := [.val ((rNetwork K) network), .val ((rV pI) rep1), .any, .any]) (s_asg (e_repV (r := pI) (x := 0) (e_tup (a_cons e_int a_nil) (Nat.le_of_ble_eq_true rfl)) (e_lenM (r_E (e_fld T.c_Network T.n_Network_neurons nd_Network (i := 1) rfl rfl (e_var rfl)))) h2) (show (1 : Nat) < 4 by decide)) ?_
  obtain ⟨z7, h6, h⟩ := bs h
  obtain ⟨lc4, h5, h⟩ := bs h
  obtain ⟨cat9, h10, h⟩ := bs h
  obtain ⟨m11, h12, h⟩ := bs h
  refine s_seq (Γ1 := [.val ((rNetwork K) network), .val ((rV pI) rep1), .val (pI m11), .any]) (s_asg (e_maxL (xs := cat9) (r_W (w_catM (sL_W (w_to (r := pI) (xs := ([15] : (List Int))) (w_lst (a_cons e_int a_nil) (Nat.le_of_ble_eq_true rfl)) rfl)) (sL_W (w_lcY (rb := pI) (js := [3]) (vs := [3]) (fun x3 => [.val ((rNetwork K) network), .val ((rV pI) rep1), .any, .val ((rSynapse K) x3)]) _ (i_list (e_fld T.c_Network T.n_Network_synapses nd_Network (i := 2) rfl rfl (e_var rfl))) (sz_ok h6) (fun x3 => (g_name (show (3 : Nat) < 4 by decide))) (by decide) (fun x3 y _ h8 => by have h8 := Option.some.inj h8; subst h8; exact (e_fld T.c_Synapse T.n_Synapse_delay nd_Synapse (i := 3) rfl rfl (e_var rfl))) h5)) h10)) h12) (show (2 : Nat) < 4 by decide)) ?_
  obtain ⟨rep13, h14, h⟩ := bs h
  have h := Option.some.inj h
  subst h
  exact (s_ret (e_to (P' := ((r3 (rV pI) (rV pI) (rV (rV pI))) (rep1, rep1, rep13))) (e_tup (a_cons (e_var rfl) (a_cons (e_var rfl) (a_cons (e_repV (r := (rV pI)) (x := rep1) (e_tup (a_cons (e_var rfl) a_nil) (Nat.le_of_ble_eq_true rfl)) (e_var rfl) h14) a_nil))) (Nat.le_of_ble_eq_true rfl)) rfl))

def m_u_law_cell (script : (List Int)) (k : Int) : Option Int :=
  if (decide (k < (script.length : Int))) then (atI script k).bind fun v1 =>
  some v1
  else some 0
def R_u_law_cell (K : PySem.W.Frag) : List Pr → Pr → Prop := fun Ps Q => ∃ (script : (List Int)) (k : Int) (r : Int), Ps = [((pScr K) script), (pI k)] ∧ Q = (pI r) ∧ m_u_law_cell script k = some r
theorem sc_u_law_cell : FnScope ["script", "k"] ["script", "k"] (defScope st_u_law_cell) := ⟨rfl, rfl, rfl, by decide +kernel, rfl, by decide +kernel, by decide +kernel⟩
theorem ok_u_law_cell (T : Txt P w K mg base D) : FnOk P w K mg base CX0 1 (He.fAd K ("_law_cell", none)) D.u_law_cell ["script", "k"] (spR (R_u_law_cell K)) := by
  refine fn_R T.F_u_law_cell sc_u_law_cell (by rintro _ _ ⟨script, k, _, rfl, rfl, _⟩; rfl) (by decide) fun cdv A outer s H E hr => ⟨_, (pss_cons (ps_if (pt_cmpR op_lt (pv 1) (pe_callB (len_seqK (K := K) rfl) (by rfl) T.z_len PySem.boot_len (pa_cons (pv 0) pa_nil)) (nomark _)) (pss_one (ps_ret (pe_callTy call_int1 (by rfl) T.z_int (by decide +kernel) (pa_cons (pe_ix (ix_listK (K := K) rfl) (pv 0) (pv 1) (fun _ _ => rfl)) pa_nil)))) pss_nil)
      (pss_one (ps_ret pe_int))), ?_⟩
  rintro _ _ ⟨script, k, r, rfl, rfl, h⟩
  unfold m_u_law_cell at h
  refine s_from (Γ' := [.val ((pScr K) script), .val (pI k)]) ?_ rfl
  refine s_ifK (b := (decide (k < (script.length : Int)))) (t_test (e_op rr_B0 (e_var rfl) (e_lenM (r_scr (e_var rfl))))) (fun hc => ?_) (fun hc => ?_)
  ·   have h := if_t hc h
      obtain ⟨v1, h2, h⟩ := bs h
      have h := Option.some.inj h
      subst h
      exact s_seqR (s_ret (e_to (P' := (pI v1)) (e_cb rc_intI (a_cons (e_ixLM (r := pI) (xs := script) (r_scr (e_var rfl)) (e_var rfl) h2) a_nil)) rfl))
  ·   have h := if_f hc h
      refine s_nxK ?_
      have h := Option.some.inj h
      subst h
      exact (s_ret (e_to (P' := (pI 0)) e_int rfl))

def m_u_after_losses (network : Network) (weights : (List Int)) (arriving : (List Int)) (last_spikes : (List (Option Int))) (tick : Int) : Option (List Int) :=
  bndv network.rule fun rule1 =>
  match rule1 with
  | none => some weights
  | some rule3 => (szM weights).bind fun ls4 =>
  (List.foldlM (m := Option) (fun (changed8 : (List Int)) (x6 : Int) => (atI network.synapses x6).bind fun v9 =>
  (if v9.plastic then (atI last_spikes v9.target).bind fun v11 => (m_u_is_recent v11 tick rule3.window).bind fun rv13 => some rv13 else some false).bind fun c15 =>
  (if c15 then (atI weights x6).bind fun v18 =>
  (m_depressed rule3 v18).bind fun rv20 =>
  (setM changed8 x6 rv20).bind fun changed22 =>
  some changed22
  else some changed8 : Option (List Int)).bind fun changed24 =>
  some changed24) ls4 arriving).bind fun changed26 =>
  some changed26
def R_u_after_losses (K : PySem.W.Frag) : List Pr → Pr → Prop := fun Ps Q => ∃ (network : Network) (weights : (List Int)) (arriving : (List Int)) (last_spikes : (List (Option Int))) (tick : Int) (r : (List Int)), Ps = [((rNetwork K) network), ((rV pI) weights), ((rL pI) arriving), ((rV (pOpt pI)) last_spikes), (pI tick)] ∧ Q = ((rV pI) r) ∧ m_u_after_losses network weights arriving last_spikes tick = some r
theorem sc_u_after_losses : FnScope ["network", "weights", "arriving", "last_spikes", "tick", "rule", "changed", "k", "synapse"] ["network", "weights", "arriving", "last_spikes", "tick"] (defScope st_u_after_losses) := ⟨rfl, rfl, rfl, by decide +kernel, rfl, by decide +kernel, by decide +kernel⟩
theorem ok_u_after_losses (T : Txt P w K mg base D) : FnOk P w K mg base CX0 2 (He.fAd K ("_after_losses", none)) D.u_after_losses ["network", "weights", "arriving", "last_spikes", "tick"] (spR (R_u_after_losses K)) := by
  refine fn_R T.F_u_after_losses sc_u_after_losses (by rintro _ _ ⟨network, weights, arriving, last_spikes, tick, _, rfl, rfl, _⟩; rfl) (by decide) fun cdv A outer s H E hr => ⟨_, (pss_cons (ps_set (i := 5) sc_u_after_losses.nd rfl (.inl rfl) (pe_fldK (K := K) rfl (pv 0) rfl))
      (pss_cons (ps_if (pt_cmpR op_isN (pv 5) pe_non (nomark _)) (pss_one (ps_ret (pv 1))) pss_nil)
      (pss_cons (ps_set (i := 6) sc_u_after_losses.nd rfl (.inl rfl) (pe_callTy (list_ofK (K := K) rfl) (by rfl) T.z_list (by decide +kernel) (pa_cons (pv 1) pa_nil)))
      (pss_cons (ps_for PassesOwn.never rfl (pi_listK (K := K) rfl (pv 2)) (pg_name (i := 7) sc_u_after_losses.nd rfl (.inl rfl)) (pss_cons (ps_set (i := 8) sc_u_after_losses.nd rfl (.inl rfl) (pe_ix (ix_listK (K := K) rfl) (pe_fldK (K := K) rfl (pv 0) rfl) (pv 7) (fun _ _ => rfl)))
      (pss_one (ps_if (PW.pt (pw_and (pt_val (pe_fldK (K := K) rfl (pv 8) rfl)) (pw_and1 (pt_val (pe_call (ok_u_is_recent T) (hr.mono (by decide)) rfl T.g_u_is_recent T.F_u_is_recent.kp T.b_u_is_recent .nil pass0 (pa_cons (pe_ix (ix_tupK (K := K) rfl) (pv 3) (pe_fldK (K := K) rfl (pv 8) rfl) (fun _ _ => rfl)) (pa_cons (pv 4) (pa_cons (pe_fldK (K := K) rfl (pv 5) rfl) pa_nil)))))))) (pss_one (ps_asg (pe_call (ok_depressed T) (hr.mono (by decide)) rfl T.g_depressed T.F_depressed.kp T.b_depressed .nil pass0 (pa_cons (pv 5) (pa_cons (pe_ix (ix_tupK (K := K) rfl) (pv 1) (pv 7) (fun _ _ => rfl)) pa_nil))) (pg_sub (pv 6) (pv 7) set_list))) pss_nil))))
      (pss_one (ps_ret (pe_callTy (tuple_ofK (K := K) rfl) (by rfl) T.z_tuple (by decide +kernel) (pa_cons (pv 6) pa_nil)))))))), ?_⟩
  rintro _ _ ⟨network, weights, arriving, last_spikes, tick, r, rfl, rfl, h⟩
  unfold m_u_after_losses at h
  refine s_from (Γ' := [.val ((rNetwork K) network), .val ((rV pI) weights), .val ((rL pI) arriving), .val ((rV (pOpt pI)) last_spikes), .val (pI tick), .any, .any, .any, .any]) ?_ rfl
  obtain ⟨rule1, e2, h⟩ := bndv_some h
  refine s_seq (Γ1 := [.val ((rNetwork K) network), .val ((rV pI) weights), .val ((rL pI) arriving), .val ((rV (pOpt pI)) last_spikes), .val (pI tick), .val ((pOpt (rRule K)) rule1), .any, .any, .any]) (s_asg (e_as (r := (pOpt (rRule K))) (e_fld T.c_Network T.n_Network_rule nd_Network (i := 3) rfl rfl (e_var rfl)) e2) (show (5 : Nat) < 9 by decide)) ?_
  cases rule1 with
  | none =>
      refine s_ifK (t_to (t_test (e_op (rr_isN nn_Rule) (e_var rfl) e_non)) (show _ = true from rfl)) (fun _ => ?_) (fun z => Bool.noConfusion (show true = false from z))
      refine s_from (Γ' := [.val ((rNetwork K) network), .val ((rV pI) weights), .val ((rL pI) arriving), .val ((rV (pOpt pI)) last_spikes), .val (pI tick), .val pN, .any, .any, .any]) ?_ rfl
      have h := Option.some.inj h
      subst h
      exact s_seqR (s_ret (e_to (P' := ((rV pI) weights)) (e_var rfl) rfl))
  | some rule3 =>
      refine s_ifK (t_to (t_test (e_op (rr_isN nn_Rule) (e_var rfl) e_non)) (show _ = false from rfl)) (fun z => Bool.noConfusion (show false = true from z)) (fun _ => ?_)
      refine s_from (Γ' := [.val ((rNetwork K) network), .val ((rV pI) weights), .val ((rL pI) arriving), .val ((rV (pOpt pI)) last_spikes), .val (pI tick), .val ((rRule K) rule3), .any, .any, .any]) ?_ rfl
      refine s_nxK ?_
      obtain ⟨ls4, h5, h⟩ := bs h
      refine s_seq (Γ1 := [.val ((rNetwork K) network), .val ((rV pI) weights), .val ((rL pI) arriving), .val ((rV (pOpt pI)) last_spikes), .val (pI tick), .val ((rRule K) rule3), .own (oL (ls4.map pI)), .any, .any]) (s_asgW (w_listV (r := pI) (xs := weights) (e_var rfl) h5) (show (6 : Nat) < 9 by decide)) ?_
      obtain ⟨changed26, h27, h⟩ := bs h
      refine s_seq (Γ1 := [.val ((rNetwork K) network), .val ((rV pI) weights), .val ((rL pI) arriving), .val ((rV (pOpt pI)) last_spikes), .val (pI tick), .val ((rRule K) rule3), .own (oL (changed26.map pI)), .any, .any]) (s_forIM (r := pI) (fun (s_7 : (List Int)) => [.val ((rNetwork K) network), .val ((rV pI) weights), .val ((rL pI) arriving), .val ((rV (pOpt pI)) last_spikes), .val (pI tick), .val ((rRule K) rule3), .own (oL (s_7.map pI)), .any, .any]) (fun (s_7 : (List Int)) (x6 : Int) => [.val ((rNetwork K) network), .val ((rV pI) weights), .val ((rL pI) arriving), .val ((rV (pOpt pI)) last_spikes), .val (pI tick), .val ((rRule K) rule3), .own (oL (s_7.map pI)), .val (pI x6), .any]) _ ls4 (i_list (e_var rfl)) (fun s_7 x6 => (g_name (show (7 : Nat) < 9 by decide))) (fun changed8 x6 s' _ h => by
            refine s_from (Γ' := [.val ((rNetwork K) network), .val ((rV pI) weights), .val ((rL pI) arriving), .val ((rV (pOpt pI)) last_spikes), .val (pI tick), .val ((rRule K) rule3), .own (oL (changed8.map pI)), .val (pI x6), .any]) ?_ rfl
            obtain ⟨v9, h10, h⟩ := bs h
            refine s_seq (Γ1 := [.val ((rNetwork K) network), .val ((rV pI) weights), .val ((rL pI) arriving), .val ((rV (pOpt pI)) last_spikes), .val (pI tick), .val ((rRule K) rule3), .own (oL (changed8.map pI)), .val (pI x6), .val ((rSynapse K) v9)]) (s_asg (e_ixLM (r := (rSynapse K)) (xs := network.synapses) (r_E (e_fld T.c_Network T.n_Network_synapses nd_Network (i := 2) rfl rfl (e_var rfl))) (e_var rfl) h10) (show (8 : Nat) < 9 by decide)) ?_
            obtain ⟨c15, h16, h⟩ := bs h
            obtain ⟨changed24, h25, h⟩ := bs h
            have h := Option.some.inj h
            subst h
            exact s_ncN (s_to (s_mask [7, 8] (s_at [.val ((rNetwork K) network), .val ((rV pI) weights), .val ((rL pI) arriving), .val ((rV (pOpt pI)) last_spikes), .val (pI tick), .val ((rRule K) rule3), .own (oL (changed24.map pI)), .val (pI x6), .val ((rSynapse K) v9)] (by
              refine s_if (b := c15) (t_andM (t_B (e_fld T.c_Synapse T.n_Synapse_plastic nd_Synapse (i := 4) rfl rfl (e_var rfl))) (fun b hc h17 => by obtain ⟨v11, h12, h17⟩ := bs h17; obtain ⟨rv13, h14, h17⟩ := bs h17; have h17 := Option.some.inj h17; subst h17; exact (t_B (e_call0 (a_cons (e_ixVM (r := (pOpt pI)) (xs := last_spikes) (e_var rfl) (e_fld T.c_Synapse T.n_Synapse_target nd_Synapse (i := 1) rfl rfl (e_var rfl)) h12) (a_cons (e_var rfl) (a_cons (e_fld T.c_Rule T.n_Rule_window nd_Rule (i := 2) rfl rfl (e_var rfl)) a_nil))) ⟨v11, tick, rule3.window, rv13, rfl, rfl, h14⟩))) h16) (fun hc => ?_) (fun hc => ?_)
              ·   have h := if_t hc h25
                  obtain ⟨v18, h19, h⟩ := bs h
                  obtain ⟨rv20, h21, h⟩ := bs h
                  obtain ⟨changed22, h23, h⟩ := bs h
                  have h := Option.some.inj h
                  subst h
                  exact s_to (s_at [.val ((rNetwork K) network), .val ((rV pI) weights), .val ((rL pI) arriving), .val ((rV (pOpt pI)) last_spikes), .val (pI tick), .val ((rRule K) rule3), .own (oL (changed22.map pI)), .val (pI x6), .val ((rSynapse K) v9)] (s_setLM (r := pI) (i := 6) rfl (e_call0 (a_cons (e_var rfl) (a_cons (e_ixVM (r := pI) (xs := weights) (e_var rfl) (e_var rfl) h19) a_nil)) ⟨rule3, v18, rv20, rfl, rfl, h21⟩) (e_var rfl) h23)) rfl
              ·   have h := if_f hc h25
                  have h := Option.some.inj h
                  subst h
                  exact s_to s_nx rfl
              ))) rfl)
          ) h27) ?_
      refine s_frz (i := 6) rfl frz_L (s_from (Γ' := [.val ((rNetwork K) network), .val ((rV pI) weights), .val ((rL pI) arriving), .val ((rV (pOpt pI)) last_spikes), .val (pI tick), .val ((rRule K) rule3), .val ((rL pI) changed26), .any, .any]) ?_ rfl)
      have h := Option.some.inj h
      subst h
      exact (s_ret (e_to (P' := ((rV pI) changed26)) (e_tupL (r := pI) (xs := changed26) (r_E (e_var rfl))) rfl))

def m_u_effects (network : Network) : Option (List (List (Int × Int × Int))) :=
  (m_Network_sources network).bind fun rv1 =>
  (rngM rv1).bind fun rng3 =>
  (szM rng3).bind fun z9 =>
  (mapO (fun x5 => (some ([] : (List (Int × Int × Int))) : Option (List (Int × Int × Int)))) rng3).bind fun lc6 =>
  (List.foldlM (m := Option) (fun (effects13 : (List (List (Int × Int × Int)))) (x11 : Synapse) => (atI effects13 x11.source).bind fun v14 =>
  (appM v14 ((x11.delay - 1), x11.target, x11.weight)).bind fun effects16 =>
  (setM effects13 x11.source effects16).bind fun effects18 =>
  some effects18) lc6 network.synapses).bind fun effects20 =>
  some effects20
def R_u_effects (K : PySem.W.Frag) : List Pr → Pr → Prop := fun Ps Q => ∃ (network : Network) (r : (List (List (Int × Int × Int)))), Ps = [((rNetwork K) network)] ∧ Q = ((rL (rL (r3 pI pI pI))) r) ∧ m_u_effects network = some r
theorem sc_u_effects : FnScope ["network", "effects", "synapse", "_"] ["network"] (defScope st_u_effects) := ⟨rfl, rfl, rfl, by decide +kernel, rfl, by decide +kernel, by decide +kernel⟩
theorem ok_u_effects (T : Txt P w K mg base D) : FnOk P w K mg base CX0 2 (He.fAd K ("_effects", none)) D.u_effects ["network"] (spR (R_u_effects K)) := by
  refine fn_R T.F_u_effects sc_u_effects (by rintro _ _ ⟨network, _, rfl, rfl, _⟩; rfl) (by decide) fun cdv A outer s H E hr => ⟨_, (pss_cons (ps_setLc (i := 1) (own := [("_", 3)]) rfl sc_u_effects.nd rfl rfl (sw_true rfl rfl rfl (by decide +kernel)) (pi_range1 rfl T.z_range (pa_cons (pe_meth0 (pv 0) T.c_Network T.m_Network_sources (ok_Network_sources T) (hr.mono (by decide)) T.b_Network_sources .nil pass0) pa_nil)) (blkOk_by (N := ["network", "effects", "synapse", "_"]) (sc := defScope st_u_effects) (by decide +kernel)) (fun _ _ _ _ _ => (pg_name (i := 3) sc_u_effects.nd rfl (.inl rfl))) (fun _ _ _ _ _ => pts_nil) (fun _ _ _ _ _ => (pe_lst pa_nil)))
      (pss_cons (ps_for PassesOwn.never rfl (pi_listK (K := K) rfl (pe_fldK (K := K) rfl (pv 0) rfl)) (pg_name (i := 2) sc_u_effects.nd rfl (.inl rfl)) (pss_one (ps_expr (pe_bm PySem.F.plainAttrs_list PySem.F.slot_list_append PySem.F.type_list_append mt_append (pe_ix (ix_listK (K := K) rfl) (pv 1) (pe_fldK (K := K) rfl (pv 2) rfl) (fun _ _ => rfl)) (pa_cons (pe_tup (pa_cons (pe_op op_sub (pe_fldK (K := K) rfl (pv 2) rfl) pe_int) (pa_cons (pe_fldK (K := K) rfl (pv 2) rfl) (pa_cons (pe_fldK (K := K) rfl (pv 2) rfl) pa_nil)))) pa_nil)))))
      (pss_one (ps_ret (pv 1))))), ?_⟩
  rintro _ _ ⟨network, r, rfl, rfl, h⟩
  unfold m_u_effects at h
  refine s_from (Γ' := [.val ((rNetwork K) network), .any, .any, .any]) ?_ rfl
  obtain ⟨rv1, h2, h⟩ := bs h
  obtain ⟨rng3, h4, h⟩ := bs h
  obtain ⟨z9, h8, h⟩ := bs h
  obtain ⟨lc6, h7, h⟩ := bs h
  refine s_seq (Γ1 := [.val ((rNetwork K) network), .own (oLs (lc6.map (fun x => (oL (x.map (r3 pI pI pI)))))), .any, .any]) (s_asgW (w_lcOY (ro := (fun x => (oL (x.map (r3 pI pI pI))))) (js := [3]) (vs := [3]) (fun x5 => [.val ((rNetwork K) network), .any, .any, .val (pI x5)]) _ (i_rngM (a_cons (e_meth0 (e_var rfl) (by decide +kernel) a_nil ⟨network, rv1, rfl, rfl, h2⟩) a_nil) h4) (sz_ok h8) (fun x5 => (g_name (show (3 : Nat) < 4 by decide))) (by decide) (fun x5 y _ h10 => by have h10 := Option.some.inj h10; subst h10; exact (w_to (r := (r3 pI pI pI)) (xs := ([] : (List (Int × Int × Int)))) (w_lst a_nil (Nat.le_of_ble_eq_true rfl)) rfl)) h7) (show (1 : Nat) < 4 by decide)) ?_
  obtain ⟨effects20, h21, h⟩ := bs h
  refine s_seq (Γ1 := [.val ((rNetwork K) network), .own (oLs (effects20.map (fun x => (oL (x.map (r3 pI pI pI)))))), .any, .any]) (s_forIM (r := (rSynapse K)) (fun (s_12 : (List (List (Int × Int × Int)))) => [.val ((rNetwork K) network), .own (oLs (s_12.map (fun x => (oL (x.map (r3 pI pI pI)))))), .any, .any]) (fun (s_12 : (List (List (Int × Int × Int)))) (x11 : Synapse) => [.val ((rNetwork K) network), .own (oLs (s_12.map (fun x => (oL (x.map (r3 pI pI pI)))))), .val ((rSynapse K) x11), .any]) _ lc6 (i_list (e_fld T.c_Network T.n_Network_synapses nd_Network (i := 2) rfl rfl (e_var rfl))) (fun s_12 x11 => (g_name (show (2 : Nat) < 4 by decide))) (fun effects13 x11 s' _ h => by
        refine s_from (Γ' := [.val ((rNetwork K) network), .own (oLs (effects13.map (fun x => (oL (x.map (r3 pI pI pI)))))), .val ((rSynapse K) x11), .any]) ?_ rfl
        obtain ⟨v14, h15, h⟩ := bs h
        obtain ⟨effects16, h17, h⟩ := bs h
        obtain ⟨effects18, h19, h⟩ := bs h
        have h := Option.some.inj h
        subst h
        exact s_ncN (s_to (s_mask [2] (s_at [.val ((rNetwork K) network), .own (oLs (effects18.map (fun x => (oL (x.map (r3 pI pI pI)))))), .val ((rSynapse K) x11), .any] (s_appFM (r := (r3 pI pI pI)) (a := ((x11.delay - 1), x11.target, x11.weight)) (f_ixM (o := (fun x => (oL (x.map (r3 pI pI pI))))) (xs := effects13) (f_var (i := 1) rfl) (e_fld T.c_Synapse T.n_Synapse_source nd_Synapse (i := 0) rfl rfl (e_var rfl)) h15) (e_tup (a_cons (e_op rr_I0 (e_fld T.c_Synapse T.n_Synapse_delay nd_Synapse (i := 3) rfl rfl (e_var rfl)) e_int) (a_cons (e_fld T.c_Synapse T.n_Synapse_target nd_Synapse (i := 1) rfl rfl (e_var rfl)) (a_cons (e_fld T.c_Synapse T.n_Synapse_weight nd_Synapse (i := 2) rfl rfl (e_var rfl)) a_nil))) (Nat.le_of_ble_eq_true rfl)) h17 ⟨effects16, effects18, rfl, h19, rfl⟩ rfl))) rfl)
      ) h21) ?_
  refine s_frz (i := 1) rfl (frz_Ls (frzA_map (o := (fun x => (oL (x.map (r3 pI pI pI))))) (r := (rL (r3 pI pI pI))) (fun _ => frz_L) _)) (s_from (Γ' := [.val ((rNetwork K) network), .val ((rL (rL (r3 pI pI pI))) effects20), .any, .any]) ?_ rfl)
  have h := Option.some.inj h
  subst h
  exact (s_ret (e_to (P' := ((rL (rL (r3 pI pI pI))) effects20)) (e_var rfl) rfl))

def m_u_law_claims (script : (List Int)) (network : Network) : Option (List (Str × List Int)) :=
  (m_u_law_cell script 47).bind fun rv1 =>
  bndv (network.neurons.length : Int) fun many3 =>
  (modM rv1 many3).bind fun q5 =>
  (modM (rv1 / 5) network.inputs).bind fun q7 =>
  (modM (rv1 / 15) many3).bind fun q9 =>
  bndv ([((("never" : Str), [q5]) : Str × List Int), ((("answer" : Str), [q7, q9, (1 + ((rv1 / 75) % 6))]) : Str × List Int)] : (List (Str × List Int))) fun claims11 =>
  (if (decide (1 < many3)) then (modM (rv1 / 450) many3).bind fun q13 =>
  (modM (rv1 / 2250) (many3 - 1)).bind fun q15 =>
  (modM ((q13 + 1) + q15) many3).bind fun q17 =>
  (appM claims11 ((("apart" : Str), [q13, q17]) : Str × List Int)).bind fun claims19 =>
  some claims19
  else some claims11 : Option (List (Str × List Int))).bind fun claims21 =>
  some claims21
def R_u_law_claims (K : PySem.W.Frag) : List Pr → Pr → Prop := fun Ps Q => ∃ (script : (List Int)) (network : Network) (r : (List (Str × List Int))), Ps = [((pScr K) script), ((rNetwork K) network)] ∧ Q = ((rL rSTI) r) ∧ m_u_law_claims script network = some r
theorem sc_u_law_claims : FnScope ["script", "network", "cell", "many", "claims", "first"] ["script", "network"] (defScope st_u_law_claims) := ⟨rfl, rfl, rfl, by decide +kernel, rfl, by decide +kernel, by decide +kernel⟩
theorem ok_u_law_claims (T : Txt P w K mg base D) : FnOk P w K mg base CX0 2 (He.fAd K ("_law_claims", none)) D.u_law_claims ["script", "network"] (spR (R_u_law_claims K)) := by
  refine fn_R T.F_u_law_claims sc_u_law_claims (by rintro _ _ ⟨script, network, _, rfl, rfl, _⟩; rfl) (by decide) fun cdv A outer s H E hr => ⟨_, (pss_cons (ps_set (i := 2) sc_u_law_claims.nd rfl (.inl rfl) (pe_call (ok_u_law_cell T) (hr.mono (by decide)) rfl T.g_u_law_cell T.F_u_law_cell.kp T.b_u_law_cell .nil pass0 (pa_cons (pv 0) (pa_cons pe_int pa_nil))))
      (pss_cons (ps_set (i := 3) sc_u_law_claims.nd rfl (.inl rfl) (pe_callB (len_seqK (K := K) rfl) (by rfl) T.z_len PySem.boot_len (pa_cons (pe_fldK (K := K) rfl (pv 1) rfl) pa_nil)))
      (pss_cons (ps_set (i := 4) sc_u_law_claims.nd rfl (.inl rfl) (pe_lst (pa_cons (pe_tup (pa_cons pe_str (pa_cons (pe_op op_mod (pv 2) (pv 3)) pa_nil))) (pa_cons (pe_tup (pa_cons pe_str (pa_cons (pe_op op_mod (pe_op op_fdiv (pv 2) pe_int) (pe_fldK (K := K) rfl (pv 1) rfl)) (pa_cons (pe_op op_mod (pe_op op_fdiv (pv 2) pe_int) (pv 3)) (pa_cons (pe_op op_add pe_int (pe_op op_mod (pe_op op_fdiv (pv 2) pe_int) pe_int)) pa_nil))))) pa_nil))))
      (pss_cons (ps_if (pt_cmpR op_gt (pv 3) pe_int (nomark _)) (pss_cons (ps_set (i := 5) sc_u_law_claims.nd rfl (.inl rfl) (pe_op op_mod (pe_op op_fdiv (pv 2) pe_int) (pv 3)))
      (pss_one (ps_expr (pe_bm PySem.F.plainAttrs_list PySem.F.slot_list_append PySem.F.type_list_append mt_append (pv 4) (pa_cons (pe_tup (pa_cons pe_str (pa_cons (pv 5) (pa_cons (pe_op op_mod (pe_op op_add (pe_op op_add (pv 5) pe_int) (pe_op op_mod (pe_op op_fdiv (pv 2) pe_int) (pe_op op_sub (pv 3) pe_int))) (pv 3)) pa_nil)))) pa_nil))))) pss_nil)
      (pss_one (ps_ret (pv 4))))))), ?_⟩
  rintro _ _ ⟨script, network, r, rfl, rfl, h⟩
  unfold m_u_law_claims at h
  refine s_from (Γ' := [.val ((pScr K) script), .val ((rNetwork K) network), .any, .any, .any, .any]) ?_ rfl
  obtain ⟨rv1, h2, h⟩ := bs h
  refine s_seq (Γ1 := [.val ((pScr K) script), .val ((rNetwork K) network), .val (pI rv1), .any, .any, .any]) (s_asg (e_call0 (a_cons (e_var rfl) (a_cons e_int a_nil)) ⟨script, 47, rv1, rfl, rfl, h2⟩) (show (2 : Nat) < 6 by decide)) ?_
  obtain ⟨many3, e4, h⟩ := bndv_some h
  refine s_seq (Γ1 := [.val ((pScr K) script), .val ((rNetwork K) network), .val (pI rv1), .val (pI many3), .any, .any]) (s_asg (e_as (r := pI) (e_lenM (r_E (e_fld T.c_Network T.n_Network_neurons nd_Network (i := 1) rfl rfl (e_var rfl)))) e4) (show (3 : Nat) < 6 by decide)) ?_
  obtain ⟨q5, h6, h⟩ := bs h
  obtain ⟨q7, h8, h⟩ := bs h
  obtain ⟨q9, h10, h⟩ := bs h
  obtain ⟨claims11, e12, h⟩ := bndv_some h
  refine s_seq (Γ1 := [.val ((pScr K) script), .val ((rNetwork K) network), .val (pI rv1), .val (pI many3), .own (oL (claims11.map rSTI)), .any]) (s_asgW (w_as (r := rSTI) (w_to (r := rSTI) (xs := ([((("never" : Str), [q5]) : Str × List Int), ((("answer" : Str), [q7, q9, (1 + ((rv1 / 75) % 6))]) : Str × List Int)] : (List (Str × List Int)))) (w_lst (a_cons (show EvE _ _ (rSTI ((("never" : Str), [q5]) : Str × List Int)) from e_tup (a_cons e_str (a_cons (e_op (rr_modM h6) (e_var rfl) (e_var rfl)) a_nil)) (Nat.le_of_ble_eq_true rfl)) (a_cons (show EvE _ _ (rSTI ((("answer" : Str), [q7, q9, (1 + ((rv1 / 75) % 6))]) : Str × List Int)) from e_tup (a_cons e_str (a_cons (e_op (rr_modM h8) (e_op (rr_I (by exact ⟨by decide, by decide⟩)) (e_var rfl) e_int) (e_fld T.c_Network T.n_Network_inputs nd_Network (i := 0) rfl rfl (e_var rfl))) (a_cons (e_op (rr_modM h10) (e_op (rr_I (by exact ⟨by decide, by decide⟩)) (e_var rfl) e_int) (e_var rfl)) (a_cons (e_op rr_I0 e_int (e_op (rr_I (by decide)) (e_op (rr_I (by exact ⟨by decide, by decide⟩)) (e_var rfl) e_int) e_int)) a_nil)))) (Nat.le_of_ble_eq_true rfl)) a_nil)) (Nat.le_of_ble_eq_true rfl)) rfl) e12) (show (4 : Nat) < 6 by decide)) ?_
  obtain ⟨claims21, h22, h⟩ := bs h
  refine s_seq (Γ1 := [.val ((pScr K) script), .val ((rNetwork K) network), .val (pI rv1), .val (pI many3), .own (oL (claims21.map rSTI)), .any]) (by
    refine s_if (b := (decide (1 < many3))) (t_test (e_op rr_B0 (e_var rfl) e_int)) (fun hc => ?_) (fun hc => ?_)
    ·   have h := if_t hc h22
        obtain ⟨q13, h14, h⟩ := bs h
        refine s_seq (Γ1 := [.val ((pScr K) script), .val ((rNetwork K) network), .val (pI rv1), .val (pI many3), .own (oL (claims11.map rSTI)), .val (pI q13)]) (s_asg (e_op (rr_modM h14) (e_op (rr_I (by exact ⟨by decide, by decide⟩)) (e_var rfl) e_int) (e_var rfl)) (show (5 : Nat) < 6 by decide)) ?_
        obtain ⟨q15, h16, h⟩ := bs h
        obtain ⟨q17, h18, h⟩ := bs h
        obtain ⟨claims19, h20, h⟩ := bs h
        have h := Option.some.inj h
        subst h
        exact s_to (s_mask [5] (s_at [.val ((pScr K) script), .val ((rNetwork K) network), .val (pI rv1), .val (pI many3), .own (oL (claims19.map rSTI)), .val (pI q13)] (s_appM (r := rSTI) (a := ((("apart" : Str), [q13, q17]) : Str × List Int)) (i := 4) rfl (show EvE _ _ (rSTI ((("apart" : Str), [q13, q17]) : Str × List Int)) from e_tup (a_cons e_str (a_cons (e_var rfl) (a_cons (e_op (rr_modM h18) (e_op rr_I0 (e_op rr_I0 (e_var rfl) e_int) (e_op (rr_modM h16) (e_op (rr_I (by exact ⟨by decide, by decide⟩)) (e_var rfl) e_int) (e_op rr_I0 (e_var rfl) e_int))) (e_var rfl)) a_nil))) (Nat.le_of_ble_eq_true rfl)) h20))) rfl
    ·   have h := if_f hc h22
        have h := Option.some.inj h
        subst h
        exact s_to s_nx rfl
    ) ?_
  refine s_frz (i := 4) rfl frz_L (s_from (Γ' := [.val ((pScr K) script), .val ((rNetwork K) network), .val (pI rv1), .val (pI many3), .val ((rL rSTI) claims21), .any]) ?_ rfl)
  have h := Option.some.inj h
  subst h
  exact (s_ret (e_to (P' := ((rL rSTI) claims21)) (e_var rfl) rfl))

def m_Synapse__eq (a b : Synapse) : Option Bool :=
  some (true && ((decide (a.source = b.source)) && ((decide (a.target = b.target)) && ((decide (a.weight = b.weight)) && ((decide (a.delay = b.delay)) && (a.plastic == b.plastic))))))
theorem refl_Synapse (c : Synapse) : m_Synapse__eq c c = some true := by
  unfold m_Synapse__eq
  simp
def R_Synapse__eq (K : PySem.W.Frag) : List Pr → Pr → Prop := fun Ps Q => (∃ (a b : Synapse) (r : Bool), Ps = [rSynapse K a, rSynapse K b] ∧ Q = pB r ∧ m_Synapse__eq a b = some r) ∨ ∃ (a : Synapse) (P1 : Pr) (t : Value), Ps = [rSynapse K a, P1] ∧ Q = pB false ∧ TyP K P1 t ∧ PySem.W.kitOne K t (.ref (He.ga K "Synapse")) = some false
theorem sc_Synapse__eq : FnScope ["self", "other"] ["self", "other"] (defScope st_Synapse__eq) := ⟨rfl, rfl, rfl, by decide +kernel, rfl, by decide +kernel, by decide +kernel⟩
theorem ok_Synapse__eq (T : Txt P w K mg base D) : FnOk P w K mg base CX0 5 (He.fAd K ("Synapse", some "__eq__")) D.Synapse__eq ["self", "other"] (spR (R_Synapse__eq K)) := by
  refine fn_R T.F_Synapse__eq sc_Synapse__eq (by rintro _ _ (⟨_, _, _, rfl, _⟩ | ⟨_, _, _, rfl, _⟩) <;> rfl) (by decide) fun cdv A outer s H E hr => ⟨_, (pss_one (ps_ret (pe_and (pe_callB (isiK (K := K) rfl) (by rfl) T.z_isinstance (by decide +kernel) (pa_cons (pv 1) (pa_cons (pe_glob (v := .ref (He.ga K "Synapse")) rfl T.g_Synapse rfl) pa_nil))) (pe_and (pe_cmpR op_eq (pe_fldK (K := K) rfl (pv 0) rfl) (pe_fldK (K := K) rfl (pv 1) rfl) (nomark _)) (pe_and (pe_cmpR op_eq (pe_fldK (K := K) rfl (pv 0) rfl) (pe_fldK (K := K) rfl (pv 1) rfl) (nomark _)) (pe_and (pe_cmpR op_eq (pe_fldK (K := K) rfl (pv 0) rfl) (pe_fldK (K := K) rfl (pv 1) rfl) (nomark _)) (pe_and (pe_cmpR op_eq (pe_fldK (K := K) rfl (pv 0) rfl) (pe_fldK (K := K) rfl (pv 1) rfl) (nomark _)) (pe_one (pe_cmpR op_eq (pe_fldK (K := K) rfl (pv 0) rfl) (pe_fldK (K := K) rfl (pv 1) rfl) (nomark _)))))))))), ?_⟩
  rintro _ _ (⟨a, b, r, rfl, rfl, h⟩ | ⟨a, P1, t, rfl, rfl, ht, hk⟩)
  · unfold m_Synapse__eq at h
    refine s_from (Γ' := [.val ((rSynapse K) a), .val ((rSynapse K) b)]) ?_ rfl
    have h := Option.some.inj h
    subst h
    exact s_ret (e_to (P' := pB (true && ((decide (a.source = b.source)) && ((decide (a.target = b.target)) && ((decide (a.weight = b.weight)) && ((decide (a.delay = b.delay)) && (a.plastic == b.plastic))))))) (e_and (e_isi (e_var rfl) (ty_O T.c_Synapse T.i_Synapse) (.own _) T.ki_Synapse_Synapse) (fun _ => (e_and (e_op rr_eqI (e_fld T.c_Synapse T.n_Synapse_source nd_Synapse (i := 0) rfl rfl (e_var rfl)) (e_fld T.c_Synapse T.n_Synapse_source nd_Synapse (i := 0) rfl rfl (e_var rfl))) (fun _ => (e_and (e_op rr_eqI (e_fld T.c_Synapse T.n_Synapse_target nd_Synapse (i := 1) rfl rfl (e_var rfl)) (e_fld T.c_Synapse T.n_Synapse_target nd_Synapse (i := 1) rfl rfl (e_var rfl))) (fun _ => (e_and (e_op rr_eqI (e_fld T.c_Synapse T.n_Synapse_weight nd_Synapse (i := 2) rfl rfl (e_var rfl)) (e_fld T.c_Synapse T.n_Synapse_weight nd_Synapse (i := 2) rfl rfl (e_var rfl))) (fun _ => (e_and (e_op rr_eqI (e_fld T.c_Synapse T.n_Synapse_delay nd_Synapse (i := 3) rfl rfl (e_var rfl)) (e_fld T.c_Synapse T.n_Synapse_delay nd_Synapse (i := 3) rfl rfl (e_var rfl))) (fun _ => (e_op rr_eqB (e_fld T.c_Synapse T.n_Synapse_plastic nd_Synapse (i := 4) rfl rfl (e_var rfl)) (e_fld T.c_Synapse T.n_Synapse_plastic nd_Synapse (i := 4) rfl rfl (e_var rfl)))) rfl)) rfl)) rfl)) rfl)) rfl) rfl)
  · refine s_from (Γ' := [.val (rSynapse K a), .val P1]) ?_ rfl
    exact s_ret (e_and (b := false) (e_isi (e_var rfl) ht (.own _) hk) (fun z => Bool.noConfusion z) rfl)

def m_Rule__eq (a b : Rule) : Option Bool :=
  some (true && ((decide (a.gain = b.gain)) && ((decide (a.loss = b.loss)) && ((decide (a.window = b.window)) && ((decide (a.least = b.least)) && (decide (a.most = b.most)))))))
theorem refl_Rule (c : Rule) : m_Rule__eq c c = some true := by
  unfold m_Rule__eq
  simp
def R_Rule__eq (K : PySem.W.Frag) : List Pr → Pr → Prop := fun Ps Q => (∃ (a b : Rule) (r : Bool), Ps = [rRule K a, rRule K b] ∧ Q = pB r ∧ m_Rule__eq a b = some r) ∨ ∃ (a : Rule) (P1 : Pr) (t : Value), Ps = [rRule K a, P1] ∧ Q = pB false ∧ TyP K P1 t ∧ PySem.W.kitOne K t (.ref (He.ga K "Rule")) = some false
theorem sc_Rule__eq : FnScope ["self", "other"] ["self", "other"] (defScope st_Rule__eq) := ⟨rfl, rfl, rfl, by decide +kernel, rfl, by decide +kernel, by decide +kernel⟩
theorem ok_Rule__eq (T : Txt P w K mg base D) : FnOk P w K mg base CX0 9 (He.fAd K ("Rule", some "__eq__")) D.Rule__eq ["self", "other"] (spR (R_Rule__eq K)) := by
  refine fn_R T.F_Rule__eq sc_Rule__eq (by rintro _ _ (⟨_, _, _, rfl, _⟩ | ⟨_, _, _, rfl, _⟩) <;> rfl) (by decide) fun cdv A outer s H E hr => ⟨_, (pss_one (ps_ret (pe_and (pe_callB (isiK (K := K) rfl) (by rfl) T.z_isinstance (by decide +kernel) (pa_cons (pv 1) (pa_cons (pe_glob (v := .ref (He.ga K "Rule")) rfl T.g_Rule rfl) pa_nil))) (pe_and (pe_cmpR op_eq (pe_fldK (K := K) rfl (pv 0) rfl) (pe_fldK (K := K) rfl (pv 1) rfl) (nomark _)) (pe_and (pe_cmpR op_eq (pe_fldK (K := K) rfl (pv 0) rfl) (pe_fldK (K := K) rfl (pv 1) rfl) (nomark _)) (pe_and (pe_cmpR op_eq (pe_fldK (K := K) rfl (pv 0) rfl) (pe_fldK (K := K) rfl (pv 1) rfl) (nomark _)) (pe_and (pe_cmpR op_eq (pe_fldK (K := K) rfl (pv 0) rfl) (pe_fldK (K := K) rfl (pv 1) rfl) (nomark _)) (pe_one (pe_cmpR op_eq (pe_fldK (K := K) rfl (pv 0) rfl) (pe_fldK (K := K) rfl (pv 1) rfl) (nomark _)))))))))), ?_⟩
  rintro _ _ (⟨a, b, r, rfl, rfl, h⟩ | ⟨a, P1, t, rfl, rfl, ht, hk⟩)
  · unfold m_Rule__eq at h
    refine s_from (Γ' := [.val ((rRule K) a), .val ((rRule K) b)]) ?_ rfl
    have h := Option.some.inj h
    subst h
    exact s_ret (e_to (P' := pB (true && ((decide (a.gain = b.gain)) && ((decide (a.loss = b.loss)) && ((decide (a.window = b.window)) && ((decide (a.least = b.least)) && (decide (a.most = b.most)))))))) (e_and (e_isi (e_var rfl) (ty_O T.c_Rule T.i_Rule) (.own _) T.ki_Rule_Rule) (fun _ => (e_and (e_op rr_eqI (e_fld T.c_Rule T.n_Rule_gain nd_Rule (i := 0) rfl rfl (e_var rfl)) (e_fld T.c_Rule T.n_Rule_gain nd_Rule (i := 0) rfl rfl (e_var rfl))) (fun _ => (e_and (e_op rr_eqI (e_fld T.c_Rule T.n_Rule_loss nd_Rule (i := 1) rfl rfl (e_var rfl)) (e_fld T.c_Rule T.n_Rule_loss nd_Rule (i := 1) rfl rfl (e_var rfl))) (fun _ => (e_and (e_op rr_eqI (e_fld T.c_Rule T.n_Rule_window nd_Rule (i := 2) rfl rfl (e_var rfl)) (e_fld T.c_Rule T.n_Rule_window nd_Rule (i := 2) rfl rfl (e_var rfl))) (fun _ => (e_and (e_op rr_eqI (e_fld T.c_Rule T.n_Rule_least nd_Rule (i := 3) rfl rfl (e_var rfl)) (e_fld T.c_Rule T.n_Rule_least nd_Rule (i := 3) rfl rfl (e_var rfl))) (fun _ => (e_op rr_eqI (e_fld T.c_Rule T.n_Rule_most nd_Rule (i := 4) rfl rfl (e_var rfl)) (e_fld T.c_Rule T.n_Rule_most nd_Rule (i := 4) rfl rfl (e_var rfl)))) rfl)) rfl)) rfl)) rfl)) rfl) rfl)
  · refine s_from (Γ' := [.val (rRule K a), .val P1]) ?_ rfl
    exact s_ret (e_and (b := false) (e_isi (e_var rfl) ht (.own _) hk) (fun z => Bool.noConfusion z) rfl)

def m_Network__eq (a b : Network) : Option Bool :=
  (if true then (if (decide (a.inputs = b.inputs)) then (eqSame a.neurons b.neurons).bind fun same1 => (if same1 then (eqSame a.synapses b.synapses).bind fun same3 => (if same3 then (eqSame a.rule b.rule).bind fun same5 => some same5 else some false).bind fun c7 => some c7 else some false).bind fun c10 => some c10 else some false).bind fun c13 => some c13 else some false).bind fun c16 =>
  some c16
def R_Network__eq (K : PySem.W.Frag) : List Pr → Pr → Prop := fun Ps Q => (∃ (a b : Network) (r : Bool), Ps = [rNetwork K a, rNetwork K b] ∧ Q = pB r ∧ m_Network__eq a b = some r) ∨ ∃ (a : Network) (P1 : Pr) (t : Value), Ps = [rNetwork K a, P1] ∧ Q = pB false ∧ TyP K P1 t ∧ PySem.W.kitOne K t (.ref (He.ga K "Network")) = some false
theorem sc_Network__eq : FnScope ["self", "other"] ["self", "other"] (defScope st_Network__eq) := ⟨rfl, rfl, rfl, by decide +kernel, rfl, by decide +kernel, by decide +kernel⟩
theorem ok_Network__eq (T : Txt P w K mg base D) : FnOk P w K mg base CX0 13 (He.fAd K ("Network", some "__eq__")) D.Network__eq ["self", "other"] (spR (R_Network__eq K)) := by
  refine fn_R T.F_Network__eq sc_Network__eq (by rintro _ _ (⟨_, _, _, rfl, _⟩ | ⟨_, _, _, rfl, _⟩) <;> rfl) (by decide) fun cdv A outer s H E hr => ⟨_, (pss_one (ps_ret (pe_and (pe_callB (isiK (K := K) rfl) (by rfl) T.z_isinstance (by decide +kernel) (pa_cons (pv 1) (pa_cons (pe_glob (v := .ref (He.ga K "Network")) rfl T.g_Network rfl) pa_nil))) (pe_and (pe_cmpR op_eq (pe_fldK (K := K) rfl (pv 0) rfl) (pe_fldK (K := K) rfl (pv 1) rfl) (nomark _)) (pe_and (pe_cmpR (op_eqLs (r := rNeuron K) (ok_Neuron__eq T) T.e_Neuron.1 T.e_Neuron.2 T.b_Neuron__eq (hr.mono (by decide))) (pe_fldK (K := K) rfl (pv 0) rfl) (pe_fldK (K := K) rfl (pv 1) rfl) (nomark _)) (pe_and (pe_cmpR (op_eqLs (r := rSynapse K) (ok_Synapse__eq T) T.e_Synapse.1 T.e_Synapse.2 T.b_Synapse__eq (hr.mono (by decide))) (pe_fldK (K := K) rfl (pv 0) rfl) (pe_fldK (K := K) rfl (pv 1) rfl) (nomark _)) (pe_one (pe_cmpR (op_eqO (r := rRule K) (ok_Rule__eq T) T.e_Rule.1 T.e_Rule.2 T.b_Rule__eq (hr.mono (by decide))) (pe_fldK (K := K) rfl (pv 0) rfl) (pe_fldK (K := K) rfl (pv 1) rfl) (nomark _))))))))), ?_⟩
  rintro _ _ (⟨a, b, r, rfl, rfl, h⟩ | ⟨a, P1, t, rfl, rfl, ht, hk⟩)
  · unfold m_Network__eq at h
    refine s_from (Γ' := [.val ((rNetwork K) a), .val ((rNetwork K) b)]) ?_ rfl
    obtain ⟨c16, h17, h⟩ := bs h
    have h := Option.some.inj h
    subst h
    exact s_ret (e_to (P' := pB c16) (e_andM (e_isi (e_var rfl) (ty_O T.c_Network T.i_Network) (.own _) T.ki_Network_Network) (fun b hc h18 => by obtain ⟨c13, h14, h18⟩ := bs h18; have h18 := Option.some.inj h18; subst h18; exact (e_andM (e_op rr_eqI (e_fld T.c_Network T.n_Network_inputs nd_Network (i := 0) rfl rfl (e_var rfl)) (e_fld T.c_Network T.n_Network_inputs nd_Network (i := 0) rfl rfl (e_var rfl))) (fun b hc h15 => by obtain ⟨same1, h2, h15⟩ := bs h15; obtain ⟨c10, h11, h15⟩ := bs h15; have h15 := Option.some.inj h15; subst h15; exact (e_andM (e_eqLs (R := R_Neuron__eq K) (f := fNeuron K) (fun c => .inl ⟨c, c, true, rfl, rfl, refl_Neuron c⟩) (eqSame_some h2) (e_fld T.c_Network T.n_Network_neurons nd_Network (i := 1) rfl rfl (e_var rfl)) (e_fld T.c_Network T.n_Network_neurons nd_Network (i := 1) rfl rfl (e_var rfl))) (fun b hc h12 => by obtain ⟨same3, h4, h12⟩ := bs h12; obtain ⟨c7, h8, h12⟩ := bs h12; have h12 := Option.some.inj h12; subst h12; exact (e_andM (e_eqLs (R := R_Synapse__eq K) (f := fSynapse K) (fun c => .inl ⟨c, c, true, rfl, rfl, refl_Synapse c⟩) (eqSame_some h4) (e_fld T.c_Network T.n_Network_synapses nd_Network (i := 2) rfl rfl (e_var rfl)) (e_fld T.c_Network T.n_Network_synapses nd_Network (i := 2) rfl rfl (e_var rfl))) (fun b hc h9 => by obtain ⟨same5, h6, h9⟩ := bs h9; have h9 := Option.some.inj h9; subst h9; exact (e_eqO (R := R_Rule__eq K) (f := fRule K) (fun c => .inl ⟨c, c, true, rfl, rfl, refl_Rule c⟩) (eqSame_some h6) (e_fld T.c_Network T.n_Network_rule nd_Network (i := 3) rfl rfl (e_var rfl)) (e_fld T.c_Network T.n_Network_rule nd_Network (i := 3) rfl rfl (e_var rfl)))) h8)) h11)) h14)) h17) rfl)
  · refine s_from (Γ' := [.val (rNetwork K a), .val P1]) ?_ rfl
    exact s_ret (e_and (b := false) (e_isi (e_var rfl) ht (.own _) hk) (fun z => Bool.noConfusion z) rfl)

def m_Run__eq (a b : Run) : Option Bool :=
  some (true && ((decide (a.spikes = b.spikes)) && (decide (a.weights = b.weights))))
theorem refl_Run (c : Run) : m_Run__eq c c = some true := by
  unfold m_Run__eq
  simp
def R_Run__eq (K : PySem.W.Frag) : List Pr → Pr → Prop := fun Ps Q => (∃ (a b : Run) (r : Bool), Ps = [rRun K a, rRun K b] ∧ Q = pB r ∧ m_Run__eq a b = some r) ∨ ∃ (a : Run) (P1 : Pr) (t : Value), Ps = [rRun K a, P1] ∧ Q = pB false ∧ TyP K P1 t ∧ PySem.W.kitOne K t (.ref (He.ga K "Run")) = some false
theorem sc_Run__eq : FnScope ["self", "other"] ["self", "other"] (defScope st_Run__eq) := ⟨rfl, rfl, rfl, by decide +kernel, rfl, by decide +kernel, by decide +kernel⟩
theorem ok_Run__eq (T : Txt P w K mg base D) : FnOk P w K mg base CX0 17 (He.fAd K ("Run", some "__eq__")) D.Run__eq ["self", "other"] (spR (R_Run__eq K)) := by
  refine fn_R T.F_Run__eq sc_Run__eq (by rintro _ _ (⟨_, _, _, rfl, _⟩ | ⟨_, _, _, rfl, _⟩) <;> rfl) (by decide) fun cdv A outer s H E hr => ⟨_, (pss_one (ps_ret (pe_and (pe_callB (isiK (K := K) rfl) (by rfl) T.z_isinstance (by decide +kernel) (pa_cons (pv 1) (pa_cons (pe_glob (v := .ref (He.ga K "Run")) rfl T.g_Run rfl) pa_nil))) (pe_and (pe_cmpR (eqDK (K := K) rfl hr.units) (pe_fldK (K := K) rfl (pv 0) rfl) (pe_fldK (K := K) rfl (pv 1) rfl) (nomark _)) (pe_one (pe_cmpR (eqDK (K := K) rfl hr.units) (pe_fldK (K := K) rfl (pv 0) rfl) (pe_fldK (K := K) rfl (pv 1) rfl) (nomark _))))))), ?_⟩
  rintro _ _ (⟨a, b, r, rfl, rfl, h⟩ | ⟨a, P1, t, rfl, rfl, ht, hk⟩)
  · unfold m_Run__eq at h
    refine s_from (Γ' := [.val ((rRun K) a), .val ((rRun K) b)]) ?_ rfl
    have h := Option.some.inj h
    subst h
    exact s_ret (e_to (P' := pB (true && ((decide (a.spikes = b.spikes)) && (decide (a.weights = b.weights))))) (e_and (e_isi (e_var rfl) (ty_O T.c_Run T.i_Run) (.own _) T.ki_Run_Run) (fun _ => (e_and (e_eqEn (enL (enL enI)) (Nat.le_of_ble_eq_true rfl) (e_fld T.c_Run T.n_Run_spikes nd_Run (i := 0) rfl rfl (e_var rfl)) (e_fld T.c_Run T.n_Run_spikes nd_Run (i := 0) rfl rfl (e_var rfl))) (fun _ => (e_eqEn (enL enI) (Nat.le_of_ble_eq_true rfl) (e_fld T.c_Run T.n_Run_weights nd_Run (i := 1) rfl rfl (e_var rfl)) (e_fld T.c_Run T.n_Run_weights nd_Run (i := 1) rfl rfl (e_var rfl)))) rfl)) rfl) rfl)
  · refine s_from (Γ' := [.val (rRun K a), .val P1]) ?_ rfl
    exact s_ret (e_and (b := false) (e_isi (e_var rfl) ht (.own _) hk) (fun z => Bool.noConfusion z) rfl)

def m_u_leaked (neuron : Neuron) (potential : Int) : Option Int :=
  if (decide (neuron.leak = 0)) then some potential
  else (shrM potential neuron.leak).bind fun q1 =>
  some (potential - q1)
def R_u_leaked (K : PySem.W.Frag) : List Pr → Pr → Prop := fun Ps Q => ∃ (neuron : Neuron) (potential : Int) (r : Int), Ps = [((rNeuron K) neuron), (pI potential)] ∧ Q = (pI r) ∧ m_u_leaked neuron potential = some r
theorem sc_u_leaked : FnScope ["neuron", "potential"] ["neuron", "potential"] (defScope st_u_leaked) := ⟨rfl, rfl, rfl, by decide +kernel, rfl, by decide +kernel, by decide +kernel⟩
theorem ok_u_leaked (T : Txt P w K mg base D) : FnOk P w K mg base CX0 21 (He.fAd K ("_leaked", none)) D.u_leaked ["neuron", "potential"] (spR (R_u_leaked K)) := by
  refine fn_R T.F_u_leaked sc_u_leaked (by rintro _ _ ⟨neuron, potential, _, rfl, rfl, _⟩; rfl) (by decide) fun cdv A outer s H E hr => ⟨_, (pss_cons (ps_if (pt_cmpR op_eq (pe_fldK (K := K) rfl (pv 0) rfl) pe_int (nomark _)) (pss_one (ps_ret (pv 1))) pss_nil)
      (pss_one (ps_ret (pe_op op_sub (pv 1) (pe_op op_shr (pv 1) (pe_fldK (K := K) rfl (pv 0) rfl)))))), ?_⟩
  rintro _ _ ⟨neuron, potential, r, rfl, rfl, h⟩
  unfold m_u_leaked at h
  refine s_from (Γ' := [.val ((rNeuron K) neuron), .val (pI potential)]) ?_ rfl
  refine s_ifK (b := (decide (neuron.leak = 0))) (t_test (e_op rr_eqI (e_fld T.c_Neuron T.n_Neuron_leak nd_Neuron (i := 1) rfl rfl (e_var rfl)) e_int)) (fun hc => ?_) (fun hc => ?_)
  ·   have h := if_t hc h
      have h := Option.some.inj h
      subst h
      exact s_seqR (s_ret (e_to (P' := (pI potential)) (e_var rfl) rfl))
  ·   have h := if_f hc h
      refine s_nxK ?_
      obtain ⟨q1, h2, h⟩ := bs h
      have h := Option.some.inj h
      subst h
      exact (s_ret (e_to (P' := (pI (potential - q1))) (e_op rr_I0 (e_var rfl) (e_op (rr_shrM h2) (e_var rfl) (e_fld T.c_Neuron T.n_Neuron_leak nd_Neuron (i := 1) rfl rfl (e_var rfl)))) rfl))

def m_u_has_fired (fired : (List (List (L2.Key × Bool)))) (tick : Int) (source : Int) : Option Bool :=
  (if ((decide (0 ≤ tick)) && (decide (tick < (fired.length : Int)))) then (atI fired tick).bind fun v1 => some ((valT v1 (.inl source)).isSome) else some false).bind fun c3 =>
  some c3
def R_u_has_fired (K : PySem.W.Frag) : List Pr → Pr → Prop := fun Ps Q => ∃ (fired : (List (List (L2.Key × Bool)))) (tick : Int) (source : Int) (r : Bool), Ps = [((rL (rD pB)) fired), (pI tick), (pI source)] ∧ Q = (pB r) ∧ m_u_has_fired fired tick source = some r
theorem sc_u_has_fired : FnScope ["fired", "tick", "source"] ["fired", "tick", "source"] (defScope st_u_has_fired) := ⟨rfl, rfl, rfl, by decide +kernel, rfl, by decide +kernel, by decide +kernel⟩
theorem ok_u_has_fired (T : Txt P w K mg base D) : FnOk P w K mg base CX0 21 (He.fAd K ("_has_fired", none)) D.u_has_fired ["fired", "tick", "source"] (spR (R_u_has_fired K)) := by
  refine fn_R T.F_u_has_fired sc_u_has_fired (by rintro _ _ ⟨fired, tick, source, _, rfl, rfl, _⟩; rfl) (by decide) fun cdv A outer s H E hr => ⟨_, (pss_one (ps_ret (pe_and (pe_chain op_le op_lt pe_int (pv 1) (pe_callB (len_seqK (K := K) rfl) (by rfl) T.z_len PySem.boot_len (pa_cons (pv 0) pa_nil))) (pe_one (pe_cmp (pc_din (hu_of hr) (pv 2) (pe_ix (ix_listK (K := K) rfl) (pv 0) (pv 1) (fun _ _ => rfl)))))))), ?_⟩
  rintro _ _ ⟨fired, tick, source, r, rfl, rfl, h⟩
  unfold m_u_has_fired at h
  refine s_from (Γ' := [.val ((rL (rD pB)) fired), .val (pI tick), .val (pI source)]) ?_ rfl
  obtain ⟨c3, h4, h⟩ := bs h
  have h := Option.some.inj h
  subst h
  exact (s_ret (e_to (P' := (pB c3)) (e_andM (e_chain rr_B0 (fun _ => rr_B0) e_int (e_var rfl) (fun _ => (e_lenM (r_E (e_var rfl)))) rfl) (fun b hc h5 => by obtain ⟨v1, h2, h5⟩ := bs h5; have h5 := Option.some.inj h5; subst h5; exact (e_to (e_dIn (Ps := v1.map (rK pB)) (k_I (e_var rfl)) (e_ixLM (r := (rD pB)) (xs := fired) (r_E (e_var rfl)) (e_var rfl) h2)) (by rw [valT_map, Option.isSome_map]))) h4) rfl))

def m_u_after_gains (network : Network) (weights : (List Int)) (spiking : (List Int)) (last_arrivals : (List (Option Int))) (tick : Int) : Option (List Int) :=
  bndv network.rule fun rule1 =>
  match rule1 with
  | none => some weights
  | some rule3 => (szM weights).bind fun ls4 =>
  (szM spiking).bind fun z10 =>
  (dcM (fun _ => some true) (fun x6 => some (.inl x6)) (fun x6 => some true) [] spiking).bind fun dc7 =>
  (List.foldlM (m := Option) (fun (changed14 : (List Int)) (x12 : (Int × Synapse)) => (if x12.2.plastic then (if (valT dc7 (.inl x12.2.target)).isSome then (atI last_arrivals x12.1).bind fun v15 => (m_u_is_recent v15 tick rule3.window).bind fun rv17 => some rv17 else some false).bind fun c19 => some c19 else some false).bind fun c22 =>
  (if c22 then (atI weights x12.1).bind fun v25 =>
  (m_potentiated rule3 v25).bind fun rv27 =>
  (setM changed14 x12.1 rv27).bind fun changed29 =>
  some changed29
  else some changed14 : Option (List Int)).bind fun changed31 =>
  some changed31) ls4 (enumI 0 network.synapses)).bind fun changed33 =>
  some changed33
def R_u_after_gains (K : PySem.W.Frag) : List Pr → Pr → Prop := fun Ps Q => ∃ (network : Network) (weights : (List Int)) (spiking : (List Int)) (last_arrivals : (List (Option Int))) (tick : Int) (r : (List Int)), Ps = [((rNetwork K) network), ((rV pI) weights), ((rL pI) spiking), ((rV (pOpt pI)) last_arrivals), (pI tick)] ∧ Q = ((rV pI) r) ∧ m_u_after_gains network weights spiking last_arrivals tick = some r
theorem sc_u_after_gains : FnScope ["network", "weights", "spiking", "last_arrivals", "tick", "rule", "changed", "spikes_now", "k", "synapse", "n"] ["network", "weights", "spiking", "last_arrivals", "tick"] (defScope st_u_after_gains) := ⟨rfl, rfl, rfl, by decide +kernel, rfl, by decide +kernel, by decide +kernel⟩
theorem ok_u_after_gains (T : Txt P w K mg base D) : FnOk P w K mg base CX0 21 (He.fAd K ("_after_gains", none)) D.u_after_gains ["network", "weights", "spiking", "last_arrivals", "tick"] (spR (R_u_after_gains K)) := by
  refine fn_R T.F_u_after_gains sc_u_after_gains (by rintro _ _ ⟨network, weights, spiking, last_arrivals, tick, _, rfl, rfl, _⟩; rfl) (by decide) fun cdv A outer s H E hr => ⟨_, (pss_cons (ps_set (i := 5) sc_u_after_gains.nd rfl (.inl rfl) (pe_fldK (K := K) rfl (pv 0) rfl))
      (pss_cons (ps_if (pt_cmpR op_isN (pv 5) pe_non (nomark _)) (pss_one (ps_ret (pv 1))) pss_nil)
      (pss_cons (ps_set (i := 6) sc_u_after_gains.nd rfl (.inl rfl) (pe_callTy (list_ofK (K := K) rfl) (by rfl) T.z_list (by decide +kernel) (pa_cons (pv 1) pa_nil)))
      (pss_cons (ps_setDc (i := 7) (own := [("n", 10)]) rfl sc_u_after_gains.nd rfl rfl (sw_dc rfl rfl rfl (by decide +kernel)) (pi_listK (K := K) rfl (pv 2)) (blkOk_by (N := ["network", "weights", "spiking", "last_arrivals", "tick", "rule", "changed", "spikes_now", "k", "synapse", "n"]) (sc := defScope st_u_after_gains) (by decide +kernel)) (fun _ _ _ _ _ => (pg_name (i := 10) sc_u_after_gains.nd rfl (.inl rfl))) (fun _ _ _ _ _ => pts_nil) (fun _ _ _ _ _ => (pv 10)) (fun _ _ _ _ _ => pe_bl))
      (pss_cons (ps_for PassesOwn.never rfl (pi_enum (by rfl) T.z_enumerate (pa_cons (pe_fldK (K := K) rfl (pv 0) rfl) pa_nil)) (pg_tupK (K := K) (n := 2) rfl rfl (pgs_cons (pg_name (i := 8) sc_u_after_gains.nd rfl (.inl rfl)) (pgs_cons (pg_name (i := 9) sc_u_after_gains.nd rfl (.inl rfl)) pgs_nil))) (pss_one (ps_if (PW.pt (pw_and (pt_val (pe_fldK (K := K) rfl (pv 9) rfl)) (pw_and (pt_cmp (pc_din (hu_of hr) (pe_fldK (K := K) rfl (pv 9) rfl) (pv 7))) (pw_and1 (pt_val (pe_call (ok_u_is_recent T) (hr.mono (by decide)) rfl T.g_u_is_recent T.F_u_is_recent.kp T.b_u_is_recent .nil pass0 (pa_cons (pe_ix (ix_tupK (K := K) rfl) (pv 3) (pv 8) (fun _ _ => rfl)) (pa_cons (pv 4) (pa_cons (pe_fldK (K := K) rfl (pv 5) rfl) pa_nil))))))))) (pss_one (ps_asg (pe_call (ok_potentiated T) (hr.mono (by decide)) rfl T.g_potentiated T.F_potentiated.kp T.b_potentiated .nil pass0 (pa_cons (pv 5) (pa_cons (pe_ix (ix_tupK (K := K) rfl) (pv 1) (pv 8) (fun _ _ => rfl)) pa_nil))) (pg_sub (pv 6) (pv 8) set_list))) pss_nil)))
      (pss_one (ps_ret (pe_callTy (tuple_ofK (K := K) rfl) (by rfl) T.z_tuple (by decide +kernel) (pa_cons (pv 6) pa_nil))))))))), ?_⟩
  rintro _ _ ⟨network, weights, spiking, last_arrivals, tick, r, rfl, rfl, h⟩
  unfold m_u_after_gains at h
  refine s_from (Γ' := [.val ((rNetwork K) network), .val ((rV pI) weights), .val ((rL pI) spiking), .val ((rV (pOpt pI)) last_arrivals), .val (pI tick), .any, .any, .any, .any, .any, .any]) ?_ rfl
  obtain ⟨rule1, e2, h⟩ := bndv_some h
  refine s_seq (Γ1 := [.val ((rNetwork K) network), .val ((rV pI) weights), .val ((rL pI) spiking), .val ((rV (pOpt pI)) last_arrivals), .val (pI tick), .val ((pOpt (rRule K)) rule1), .any, .any, .any, .any, .any]) (s_asg (e_as (r := (pOpt (rRule K))) (e_fld T.c_Network T.n_Network_rule nd_Network (i := 3) rfl rfl (e_var rfl)) e2) (show (5 : Nat) < 11 by decide)) ?_
  cases rule1 with
  | none =>
      refine s_ifK (t_to (t_test (e_op (rr_isN nn_Rule) (e_var rfl) e_non)) (show _ = true from rfl)) (fun _ => ?_) (fun z => Bool.noConfusion (show true = false from z))
      refine s_from (Γ' := [.val ((rNetwork K) network), .val ((rV pI) weights), .val ((rL pI) spiking), .val ((rV (pOpt pI)) last_arrivals), .val (pI tick), .val pN, .any, .any, .any, .any, .any]) ?_ rfl
      have h := Option.some.inj h
      subst h
      exact s_seqR (s_ret (e_to (P' := ((rV pI) weights)) (e_var rfl) rfl))
  | some rule3 =>
      refine s_ifK (t_to (t_test (e_op (rr_isN nn_Rule) (e_var rfl) e_non)) (show _ = false from rfl)) (fun z => Bool.noConfusion (show false = true from z)) (fun _ => ?_)
      refine s_from (Γ' := [.val ((rNetwork K) network), .val ((rV pI) weights), .val ((rL pI) spiking), .val ((rV (pOpt pI)) last_arrivals), .val (pI tick), .val ((rRule K) rule3), .any, .any, .any, .any, .any]) ?_ rfl
      refine s_nxK ?_
      obtain ⟨ls4, h5, h⟩ := bs h
      refine s_seq (Γ1 := [.val ((rNetwork K) network), .val ((rV pI) weights), .val ((rL pI) spiking), .val ((rV (pOpt pI)) last_arrivals), .val (pI tick), .val ((rRule K) rule3), .own (oL (ls4.map pI)), .any, .any, .any, .any]) (s_asgW (w_listV (r := pI) (xs := weights) (e_var rfl) h5) (show (6 : Nat) < 11 by decide)) ?_
      obtain ⟨z10, h9, h⟩ := bs h
      obtain ⟨dc7, h8, h⟩ := bs h
      refine s_seq (Γ1 := [.val ((rNetwork K) network), .val ((rV pI) weights), .val ((rL pI) spiking), .val ((rV (pOpt pI)) last_arrivals), .val (pI tick), .val ((rRule K) rule3), .own (oL (ls4.map pI)), .val ((rD pB) dc7), .any, .any, .any]) (s_asg (e_frz frz_D (e_dc (rb := pB) (js := [10]) (vs := [10]) (fun x6 => [.val ((rNetwork K) network), .val ((rV pI) weights), .val ((rL pI) spiking), .val ((rV (pOpt pI)) last_arrivals), .val (pI tick), .val ((rRule K) rule3), .own (oL (ls4.map pI)), .any, .any, .any, .val (pI x6)]) _ _ _ (i_list (e_var rfl)) (sz_ok h9) (fun x6 => (g_name (show (10 : Nat) < 11 by decide))) (by decide) (fun x6 b _ hb => by cases hb; exact t_yes) (fun x6 y _ _ h11 => by have h11 := Option.some.inj h11; subst h11; exact (k_I (e_var rfl))) (fun x6 y _ _ h11 => by have h11 := Option.some.inj h11; subst h11; exact e_bl) h8)) (show (7 : Nat) < 11 by decide)) ?_
      obtain ⟨changed33, h34, h⟩ := bs h
      refine s_seq (Γ1 := [.val ((rNetwork K) network), .val ((rV pI) weights), .val ((rL pI) spiking), .val ((rV (pOpt pI)) last_arrivals), .val (pI tick), .val ((rRule K) rule3), .own (oL (changed33.map pI)), .val ((rD pB) dc7), .any, .any, .any]) (s_forIM (r := (r2 pI (rSynapse K))) (fun (s_13 : (List Int)) => [.val ((rNetwork K) network), .val ((rV pI) weights), .val ((rL pI) spiking), .val ((rV (pOpt pI)) last_arrivals), .val (pI tick), .val ((rRule K) rule3), .own (oL (s_13.map pI)), .val ((rD pB) dc7), .any, .any, .any]) (fun (s_13 : (List Int)) (x12 : (Int × Synapse)) => [.val ((rNetwork K) network), .val ((rV pI) weights), .val ((rL pI) spiking), .val ((rV (pOpt pI)) last_arrivals), .val (pI tick), .val ((rRule K) rule3), .own (oL (s_13.map pI)), .val ((rD pB) dc7), .val (pI x12.1), .val ((rSynapse K) x12.2), .any]) _ ls4 (i_enum (a_cons (e_fld T.c_Network T.n_Network_synapses nd_Network (i := 2) rfl rfl (e_var rfl)) a_nil)) (fun s_13 x12 => (g_tup2 (show (8 : Nat) < 11 by decide) (show (9 : Nat) < 11 by decide))) (fun changed14 x12 s' _ h => by
            refine s_from (Γ' := [.val ((rNetwork K) network), .val ((rV pI) weights), .val ((rL pI) spiking), .val ((rV (pOpt pI)) last_arrivals), .val (pI tick), .val ((rRule K) rule3), .own (oL (changed14.map pI)), .val ((rD pB) dc7), .val (pI x12.1), .val ((rSynapse K) x12.2), .any]) ?_ rfl
            obtain ⟨c22, h23, h⟩ := bs h
            obtain ⟨changed31, h32, h⟩ := bs h
            have h := Option.some.inj h
            subst h
            exact s_ncN (s_to (s_mask [8, 9] (s_at [.val ((rNetwork K) network), .val ((rV pI) weights), .val ((rL pI) spiking), .val ((rV (pOpt pI)) last_arrivals), .val (pI tick), .val ((rRule K) rule3), .own (oL (changed31.map pI)), .val ((rD pB) dc7), .val (pI x12.1), .val ((rSynapse K) x12.2), .any] (by
              refine s_if (b := c22) (t_andM (t_B (e_fld T.c_Synapse T.n_Synapse_plastic nd_Synapse (i := 4) rfl rfl (e_var rfl))) (fun b hc h24 => by obtain ⟨c19, h20, h24⟩ := bs h24; have h24 := Option.some.inj h24; subst h24; exact (t_andM (t_B (e_to (e_dIn (Ps := dc7.map (rK pB)) (k_I (e_fld T.c_Synapse T.n_Synapse_target nd_Synapse (i := 1) rfl rfl (e_var rfl))) (e_var rfl)) (by rw [valT_map, Option.isSome_map]))) (fun b hc h21 => by obtain ⟨v15, h16, h21⟩ := bs h21; obtain ⟨rv17, h18, h21⟩ := bs h21; have h21 := Option.some.inj h21; subst h21; exact (t_B (e_call0 (a_cons (e_ixVM (r := (pOpt pI)) (xs := last_arrivals) (e_var rfl) (e_var rfl) h16) (a_cons (e_var rfl) (a_cons (e_fld T.c_Rule T.n_Rule_window nd_Rule (i := 2) rfl rfl (e_var rfl)) a_nil))) ⟨v15, tick, rule3.window, rv17, rfl, rfl, h18⟩))) h20)) h23) (fun hc => ?_) (fun hc => ?_)
              ·   have h := if_t hc h32
                  obtain ⟨v25, h26, h⟩ := bs h
                  obtain ⟨rv27, h28, h⟩ := bs h
                  obtain ⟨changed29, h30, h⟩ := bs h
                  have h := Option.some.inj h
                  subst h
                  exact s_to (s_at [.val ((rNetwork K) network), .val ((rV pI) weights), .val ((rL pI) spiking), .val ((rV (pOpt pI)) last_arrivals), .val (pI tick), .val ((rRule K) rule3), .own (oL (changed29.map pI)), .val ((rD pB) dc7), .val (pI x12.1), .val ((rSynapse K) x12.2), .any] (s_setLM (r := pI) (i := 6) rfl (e_call0 (a_cons (e_var rfl) (a_cons (e_ixVM (r := pI) (xs := weights) (e_var rfl) (e_var rfl) h26) a_nil)) ⟨rule3, v25, rv27, rfl, rfl, h28⟩) (e_var rfl) h30)) rfl
              ·   have h := if_f hc h32
                  have h := Option.some.inj h
                  subst h
                  exact s_to s_nx rfl
              ))) rfl)
          ) h34) ?_
      refine s_frz (i := 6) rfl frz_L (s_from (Γ' := [.val ((rNetwork K) network), .val ((rV pI) weights), .val ((rL pI) spiking), .val ((rV (pOpt pI)) last_arrivals), .val (pI tick), .val ((rRule K) rule3), .val ((rL pI) changed33), .val ((rD pB) dc7), .any, .any, .any]) ?_ rfl)
      have h := Option.some.inj h
      subst h
      exact (s_ret (e_to (P' := ((rV pI) changed33)) (e_tupL (r := pI) (xs := changed33) (r_E (e_var rfl))) rfl))

def m_stimulus_of (network : Network) (number : Int) : Option (List Int) :=
  (rngM network.inputs).bind fun rng1 =>
  (szM rng1).bind fun z9 =>
  (lcM (fun x3 => (shrM number x3).bind fun q4 => some (decide ((Builtin.bitAnd q4 1) = 1))) (fun x3 => (some x3 : Option Int)) rng1).bind fun lc6 =>
  some lc6
def R_stimulus_of (K : PySem.W.Frag) : List Pr → Pr → Prop := fun Ps Q => ∃ (network : Network) (number : Int) (r : (List Int)), Ps = [((rNetwork K) network), (pI number)] ∧ Q = ((rL pI) r) ∧ m_stimulus_of network number = some r
theorem sc_stimulus_of : FnScope ["network", "number", "i"] ["network", "number"] (defScope st_stimulus_of) := ⟨rfl, rfl, rfl, by decide +kernel, rfl, by decide +kernel, by decide +kernel⟩
theorem ok_stimulus_of (T : Txt P w K mg base D) : FnOk P w K mg base CX0 21 (He.fAd K ("stimulus_of", none)) D.stimulus_of ["network", "number"] (spR (R_stimulus_of K)) := by
  refine fn_R T.F_stimulus_of sc_stimulus_of (by rintro _ _ ⟨network, number, _, rfl, rfl, _⟩; rfl) (by decide) fun cdv A outer s H E hr => ⟨_, (pss_one (ps_ret (pe_lc (own := [("i", 2)]) rfl sc_stimulus_of.nd (pi_range1 rfl T.z_range (pa_cons (pe_fldK (K := K) rfl (pv 0) rfl) pa_nil)) (blkOk_by (N := ["network", "number", "i"]) (sc := defScope st_stimulus_of) (by decide +kernel)) (fun _ _ _ _ _ => (pg_name (i := 2) sc_stimulus_of.nd rfl (.inl rfl))) (fun _ _ _ _ _ => (pts_one (pt_cmpR op_eq (pe_op op_and (pe_op op_shr (pv 1) (pv 2)) pe_int) pe_int (nomark _)))) (fun _ _ _ _ _ => (pv 2))))), ?_⟩
  rintro _ _ ⟨network, number, r, rfl, rfl, h⟩
  unfold m_stimulus_of at h
  refine s_from (Γ' := [.val ((rNetwork K) network), .val (pI number), .any]) ?_ rfl
  obtain ⟨rng1, h2, h⟩ := bs h
  obtain ⟨z9, h8, h⟩ := bs h
  obtain ⟨lc6, h7, h⟩ := bs h
  have h := Option.some.inj h
  subst h
  exact (s_ret (e_to (P' := ((rL pI) lc6)) (e_L (w_lc (rb := pI) (js := [2]) (vs := [2]) (fun x3 => [.val ((rNetwork K) network), .val (pI number), .val (pI x3)]) _ _ (i_rngM (a_cons (e_fld T.c_Network T.n_Network_inputs nd_Network (i := 0) rfl rfl (e_var rfl)) a_nil) h2) (sz_ok h8) (fun x3 => (g_name (show (2 : Nat) < 3 by decide))) (by decide) (fun x3 b _ h10 => by obtain ⟨q4, h5, h10⟩ := bs h10; have h10 := Option.some.inj h10; subst h10; exact (t_test (e_op rr_eqI (e_op rr_and (e_op (rr_shrM h5) (e_var rfl) (e_var rfl)) e_int) e_int))) (fun x3 y _ _ h10 => by have h10 := Option.some.inj h10; subst h10; exact (e_var rfl)) h7)) rfl))

def m_next_watch (claim : (Str × List Int)) (watch : Int) (stimulus : (List Int)) (spikes : (List Int)) : Option Int :=
  if (!(claim.1 == ("answer" : Str))) then some 0
  else un4 claim fun un1 cause2 n3 within4 =>
  (if (decide (0 < watch)) then (if (decide (n3 ∈ spikes)) then some 0 else some (watch - 1)).bind fun v5 =>
  some v5
  else some watch : Option Int).bind fun left8 =>
  if ((decide (left8 = 0)) && (decide (cause2 ∈ stimulus))) then some within4
  else some left8
def R_next_watch (K : PySem.W.Frag) : List Pr → Pr → Prop := fun Ps Q => ∃ (claim : (Str × List Int)) (watch : Int) (stimulus : (List Int)) (spikes : (List Int)) (r : Int), Ps = [(rSTI claim), (pI watch), ((rL pI) stimulus), ((rL pI) spikes)] ∧ Q = (pI r) ∧ m_next_watch claim watch stimulus spikes = some r
theorem sc_next_watch : FnScope ["claim", "watch", "stimulus", "spikes", "_", "cause", "n", "within", "left"] ["claim", "watch", "stimulus", "spikes"] (defScope st_next_watch) := ⟨rfl, rfl, rfl, by decide +kernel, rfl, by decide +kernel, by decide +kernel⟩
theorem ok_next_watch (T : Txt P w K mg base D) : FnOk P w K mg base CX0 21 (He.fAd K ("next_watch", none)) D.next_watch ["claim", "watch", "stimulus", "spikes"] (spR (R_next_watch K)) := by
  refine fn_R T.F_next_watch sc_next_watch (by rintro _ _ ⟨claim, watch, stimulus, spikes, _, rfl, rfl, _⟩; rfl) (by decide) fun cdv A outer s H E hr => ⟨_, (pss_cons (ps_if (pt_cmpR op_ne (pe_ix (ix_tupK (K := K) rfl) (pv 0) pe_int (fun _ _ => rfl)) pe_str (nomark _)) (pss_one (ps_ret pe_int)) pss_nil)
      (pss_cons (ps_asg (pv 0) (pg_tupK (K := K) (n := 4) rfl rfl (pgs_cons (pg_name (i := 4) sc_next_watch.nd rfl (.inl rfl)) (pgs_cons (pg_name (i := 5) sc_next_watch.nd rfl (.inl rfl)) (pgs_cons (pg_name (i := 6) sc_next_watch.nd rfl (.inl rfl)) (pgs_cons (pg_name (i := 7) sc_next_watch.nd rfl (.inl rfl)) pgs_nil))))))
      (pss_cons (ps_set (i := 8) sc_next_watch.nd rfl (.inl rfl) (pv 1))
      (pss_cons (ps_if (pt_cmpR op_gt (pv 1) pe_int (nomark _)) (pss_one (ps_set (i := 8) sc_next_watch.nd rfl (.inl rfl) (pe_ifExp (pt_cmpR (in_seqK (K := K) rfl) (pv 6) (pv 3) (by rfl)) pe_int (pe_op op_sub (pv 1) pe_int)))) pss_nil)
      (pss_cons (ps_if (PW.pt (pw_and (pt_cmpR op_eq (pv 8) pe_int (nomark _)) (pw_and1 (pt_cmpR (in_seqK (K := K) rfl) (pv 5) (pv 2) (by rfl))))) (pss_one (ps_ret (pv 7))) pss_nil)
      (pss_one (ps_ret (pv 8)))))))), ?_⟩
  rintro _ _ ⟨claim, watch, stimulus, spikes, r, rfl, rfl, h⟩
  unfold m_next_watch at h
  refine s_from (Γ' := [.val (rSTI claim), .val (pI watch), .val ((rL pI) stimulus), .val ((rL pI) spikes), .any, .any, .any, .any, .any]) ?_ rfl
  refine s_ifK (b := (!(claim.1 == ("answer" : Str)))) (t_test (e_op rr_neS (e_ixT (P := pS claim.1) (e_var rfl) e_int (atT 0 rfl)) e_str)) (fun hc => ?_) (fun hc => ?_)
  ·   have h := if_t hc h
      have h := Option.some.inj h
      subst h
      exact s_seqR (s_ret (e_to (P' := (pI 0)) e_int rfl))
  ·   have h := if_f hc h
      refine s_nxK ?_
      obtain ⟨un1, cause2, n3, within4, e10, h⟩ := un4_some h
      subst e10
      refine s_seq (Γ1 := [.val (rSTI (un1, [cause2, n3, within4])), .val (pI watch), .val ((rL pI) stimulus), .val ((rL pI) spikes), .val (pS un1), .val (pI cause2), .val (pI n3), .val (pI within4), .any]) (s_asgT (e_to (P' := (r4 pS pI pI pI) (un1, cause2, n3, within4)) (e_var rfl) rfl) (g_tup4 (show (4 : Nat) < 9 by decide) (show (5 : Nat) < 9 by decide) (show (6 : Nat) < 9 by decide) (show (7 : Nat) < 9 by decide))) ?_
      refine s_seq (Γ1 := [.val (rSTI (un1, [cause2, n3, within4])), .val (pI watch), .val ((rL pI) stimulus), .val ((rL pI) spikes), .val (pS un1), .val (pI cause2), .val (pI n3), .val (pI within4), .val (pI watch)]) (s_asg (e_var rfl) (show (8 : Nat) < 9 by decide)) ?_
      obtain ⟨left8, h9, h⟩ := bs h
      refine s_seq (Γ1 := [.val (rSTI (un1, [cause2, n3, within4])), .val (pI watch), .val ((rL pI) stimulus), .val ((rL pI) spikes), .val (pS un1), .val (pI cause2), .val (pI n3), .val (pI within4), .val (pI left8)]) (by
        refine s_if (b := (decide (0 < watch))) (t_test (e_op rr_B0 (e_var rfl) e_int)) (fun hc => ?_) (fun hc => ?_)
        ·   have h := if_t hc h9
            obtain ⟨v5, h6, h⟩ := bs h
            have h := Option.some.inj h
            subst h
            exact s_to (s_at [.val (rSTI (un1, [cause2, n3, within4])), .val (pI watch), .val ((rL pI) stimulus), .val ((rL pI) spikes), .val (pS un1), .val (pI cause2), .val (pI n3), .val (pI within4), .val (pI v5)] (s_asg (e_if (r := pI) (t_test (e_inL (e_var rfl) (r_E (e_var rfl)))) (fun x hc h7 => by have h7 := Option.some.inj h7; subst h7; exact e_int) (fun x hc h7 => by have h7 := Option.some.inj h7; subst h7; exact (e_op rr_I0 (e_var rfl) e_int)) h6) (show (8 : Nat) < 9 by decide))) rfl
        ·   have h := if_f hc h9
            have h := Option.some.inj h
            subst h
            exact s_to s_nx rfl
        ) ?_
      refine s_ifK (b := ((decide (left8 = 0)) && (decide (cause2 ∈ stimulus)))) (t_and (t_test (e_op rr_eqI (e_var rfl) e_int)) (fun _ => (t_test (e_inL (e_var rfl) (r_E (e_var rfl))))) rfl) (fun hc => ?_) (fun hc => ?_)
      ·   have h := if_t hc h
          have h := Option.some.inj h
          subst h
          exact s_seqR (s_ret (e_to (P' := (pI within4)) (e_var rfl) rfl))
      ·   have h := if_f hc h
          refine s_nxK ?_
          have h := Option.some.inj h
          subst h
          exact (s_ret (e_to (P' := (pI left8)) (e_var rfl) rfl))

def m_is_broken (claim : (Str × List Int)) (watch : Int) (spikes : (List Int)) : Option Bool :=
  if (claim.1 == ("never" : Str)) then (claim.2[0]?).bind fun v1 =>
  some (decide (v1 ∈ spikes))
  else if (claim.1 == ("apart" : Str)) then (claim.2[0]?).bind fun v3 =>
  (if (decide (v3 ∈ spikes)) then (claim.2[1]?).bind fun v5 => some (decide (v5 ∈ spikes)) else some false).bind fun c7 =>
  some c7
  else (if (decide (watch = 1)) then (claim.2[1]?).bind fun v10 => some (!decide (v10 ∈ spikes)) else some false).bind fun c12 =>
  some c12
def R_is_broken (K : PySem.W.Frag) : List Pr → Pr → Prop := fun Ps Q => ∃ (claim : (Str × List Int)) (watch : Int) (spikes : (List Int)) (r : Bool), Ps = [(rSTI claim), (pI watch), ((rL pI) spikes)] ∧ Q = (pB r) ∧ m_is_broken claim watch spikes = some r
theorem sc_is_broken : FnScope ["claim", "watch", "spikes"] ["claim", "watch", "spikes"] (defScope st_is_broken) := ⟨rfl, rfl, rfl, by decide +kernel, rfl, by decide +kernel, by decide +kernel⟩
theorem ok_is_broken (T : Txt P w K mg base D) : FnOk P w K mg base CX0 21 (He.fAd K ("is_broken", none)) D.is_broken ["claim", "watch", "spikes"] (spR (R_is_broken K)) := by
  refine fn_R T.F_is_broken sc_is_broken (by rintro _ _ ⟨claim, watch, spikes, _, rfl, rfl, _⟩; rfl) (by decide) fun cdv A outer s H E hr => ⟨_, (pss_cons (ps_if (pt_cmpR op_eq (pe_ix (ix_tupK (K := K) rfl) (pv 0) pe_int (fun _ _ => rfl)) pe_str (nomark _)) (pss_one (ps_ret (pe_cmpR (in_seqK (K := K) rfl) (pe_ix (ix_tupK (K := K) rfl) (pv 0) pe_int (fun _ _ => rfl)) (pv 2) (by rfl)))) pss_nil)
      (pss_cons (ps_if (pt_cmpR op_eq (pe_ix (ix_tupK (K := K) rfl) (pv 0) pe_int (fun _ _ => rfl)) pe_str (nomark _)) (pss_one (ps_ret (pe_and (pe_cmpR (in_seqK (K := K) rfl) (pe_ix (ix_tupK (K := K) rfl) (pv 0) pe_int (fun _ _ => rfl)) (pv 2) (by rfl)) (pe_one (pe_cmpR (in_seqK (K := K) rfl) (pe_ix (ix_tupK (K := K) rfl) (pv 0) pe_int (fun _ _ => rfl)) (pv 2) (by rfl)))))) pss_nil)
      (pss_one (ps_ret (pe_and (pe_cmpR op_eq (pv 1) pe_int (nomark _)) (pe_one (pe_cmpR (notIn_seqK (K := K) rfl) (pe_ix (ix_tupK (K := K) rfl) (pv 0) pe_int (fun _ _ => rfl)) (pv 2) (by rfl)))))))), ?_⟩
  rintro _ _ ⟨claim, watch, spikes, r, rfl, rfl, h⟩
  unfold m_is_broken at h
  refine s_from (Γ' := [.val (rSTI claim), .val (pI watch), .val ((rL pI) spikes)]) ?_ rfl
  refine s_ifK (b := (claim.1 == ("never" : Str))) (t_test (e_op rr_eqS (e_ixT (P := pS claim.1) (e_var rfl) e_int (atT 0 rfl)) e_str)) (fun hc => ?_) (fun hc => ?_)
  ·   have h := if_t hc h
      obtain ⟨v1, h2, h⟩ := bs h
      have h := Option.some.inj h
      subst h
      exact s_seqR (s_ret (e_to (P' := (pB (decide (v1 ∈ spikes)))) (e_inL (e_ixSTI (c := claim) (k := 0) (e_var rfl) e_int h2) (r_E (e_var rfl))) rfl))
  ·   have h := if_f hc h
      refine s_nxK ?_
      refine s_ifK (b := (claim.1 == ("apart" : Str))) (t_test (e_op rr_eqS (e_ixT (P := pS claim.1) (e_var rfl) e_int (atT 0 rfl)) e_str)) (fun hc => ?_) (fun hc => ?_)
      ·   have h := if_t hc h
          obtain ⟨v3, h4, h⟩ := bs h
          obtain ⟨c7, h8, h⟩ := bs h
          have h := Option.some.inj h
          subst h
          exact s_seqR (s_ret (e_to (P' := (pB c7)) (e_andM (e_inL (e_ixSTI (c := claim) (k := 0) (e_var rfl) e_int h4) (r_E (e_var rfl))) (fun b hc h9 => by obtain ⟨v5, h6, h9⟩ := bs h9; have h9 := Option.some.inj h9; subst h9; exact (e_inL (e_ixSTI (c := claim) (k := 1) (e_var rfl) e_int h6) (r_E (e_var rfl)))) h8) rfl))
      ·   have h := if_f hc h
          refine s_nxK ?_
          obtain ⟨c12, h13, h⟩ := bs h
          have h := Option.some.inj h
          subst h
          exact (s_ret (e_to (P' := (pB c12)) (e_andM (e_op rr_eqI (e_var rfl) e_int) (fun b hc h14 => by obtain ⟨v10, h11, h14⟩ := bs h14; have h14 := Option.some.inj h14; subst h14; exact (e_notInL (e_ixSTI (c := claim) (k := 1) (e_var rfl) e_int h11) (r_E (e_var rfl)))) h13) rfl))

def m_u_with_sources (effects : (List (List (Int × Int × Int)))) (state : ((List Int) × (List Int) × (List (List Int)))) (sources : (List Int)) : Option ((List Int) × (List Int) × (List (List Int))) :=
  bndv state fun (potentials1, rests2, pending3) =>
  bndv ([] : (List (L2.Key × (List Int)))) fun changed6 =>
  (List.foldlM (m := Option) (fun (changed10 : (List (L2.Key × (List Int)))) (x8 : Int) => (atI effects x8).bind fun v11 =>
  (List.foldlM (m := Option) (fun (changed15 : (List (L2.Key × (List Int)))) (x13 : (Int × Int × Int)) => (if (!(valT changed15 (.inl x13.1)).isSome) then (atI pending3 x13.1).bind fun v16 =>
  (szM v16).bind fun ls18 =>
  (dputN changed15 (.inl x13.1) ls18).bind fun changed20 =>
  some changed20
  else some changed15 : Option (List (L2.Key × (List Int)))).bind fun changed22 =>
  (atK changed22 (.inl x13.1)).bind fun kv24 =>
  (atI kv24.2 x13.2.1).bind fun old26 =>
  (setM kv24.2 x13.2.1 (old26 + x13.2.2)).bind fun changed28 =>
  some (setK changed22 kv24.1 changed28)) changed10 v11).bind fun changed30 =>
  some changed30) changed6 sources).bind fun changed32 =>
  (szM (enumI 0 pending3)).bind fun z43 =>
  (mapO (fun x34 => ((if (valT changed32 (.inl x34.1)).isSome then (valT changed32 (.inl x34.1)).bind fun v35 => some v35 else some x34.2).bind fun v37 => some v37 : Option (List Int))) (enumI 0 pending3)).bind fun lc40 =>
  some (potentials1, rests2, lc40)
def R_u_with_sources (K : PySem.W.Frag) : List Pr → Pr → Prop := fun Ps Q => ∃ (effects : (List (List (Int × Int × Int)))) (state : ((List Int) × (List Int) × (List (List Int)))) (sources : (List Int)) (r : ((List Int) × (List Int) × (List (List Int)))), Ps = [((rL (rL (r3 pI pI pI))) effects), ((r3 (rV pI) (rV pI) (rV (rV pI))) state), ((rL pI) sources)] ∧ Q = ((r3 (rV pI) (rV pI) (rV (rV pI))) r) ∧ m_u_with_sources effects state sources = some r
theorem sc_u_with_sources : FnScope ["effects", "state", "sources", "potentials", "rests", "pending", "changed", "source", "entry", "target", "weight", "added", "sums"] ["effects", "state", "sources"] (defScope st_u_with_sources) := ⟨rfl, rfl, rfl, by decide +kernel, rfl, by decide +kernel, by decide +kernel⟩
theorem ok_u_with_sources (T : Txt P w K mg base D) : FnOk P w K mg base CX0 21 (He.fAd K ("_with_sources", none)) D.u_with_sources ["effects", "state", "sources"] (spR (R_u_with_sources K)) := by
  refine fn_R T.F_u_with_sources sc_u_with_sources (by rintro _ _ ⟨effects, state, sources, _, rfl, rfl, _⟩; rfl) (by decide) fun cdv A outer s H E hr => ⟨_, (pss_cons (ps_asg (pv 1) (pg_tupK (K := K) (n := 3) rfl rfl (pgs_cons (pg_name (i := 3) sc_u_with_sources.nd rfl (.inl rfl)) (pgs_cons (pg_name (i := 4) sc_u_with_sources.nd rfl (.inl rfl)) (pgs_cons (pg_name (i := 5) sc_u_with_sources.nd rfl (.inl rfl)) pgs_nil)))))
      (pss_cons (ps_set (i := 6) sc_u_with_sources.nd rfl (.inr rfl) pe_dnewK)
      (pss_cons (ps_for PassesOwn.never rfl (pi_listK (K := K) rfl (pv 2)) (pg_name (i := 7) sc_u_with_sources.nd rfl (.inl rfl)) (pss_one (ps_for PassesOwn.never rfl (pi_listK (K := K) rfl (pe_ix (ix_listK (K := K) rfl) (pv 0) (pv 7) (fun _ _ => rfl))) (pg_tupK (K := K) (n := 3) rfl rfl (pgs_cons (pg_name (i := 8) sc_u_with_sources.nd rfl (.inl rfl)) (pgs_cons (pg_name (i := 9) sc_u_with_sources.nd rfl (.inl rfl)) (pgs_cons (pg_name (i := 10) sc_u_with_sources.nd rfl (.inl rfl)) pgs_nil)))) (pss_cons (ps_if (pt_cmp (pc_dnotin (hu_of hr) (pv 8) (pv 6))) (pss_one (ps_dput (hu_of hr) (pv 6) (pv 8) (pe_callTy (list_ofK (K := K) rfl) (by rfl) T.z_list (by decide +kernel) (pa_cons (pe_ix (ix_tupK (K := K) rfl) (pv 5) (pv 8) (fun _ _ => rfl)) pa_nil)) rfl)) pss_nil)
      (pss_one (ps_augS (pe_dget (hu_of hr) (pv 6) (pv 8) (fun _ _ => rfl)) (pv 9) pget_list (pv 10) ip_add set_list))))))
      (pss_cons (ps_setLc (i := 11) (own := [("entry", 8), ("sums", 12)]) rfl sc_u_with_sources.nd rfl rfl (sw_true rfl rfl rfl (by decide +kernel)) (pi_enumT (by rfl) T.z_enumerate (pa_cons (pv 5) pa_nil)) (blkOk_by (N := ["effects", "state", "sources", "potentials", "rests", "pending", "changed", "source", "entry", "target", "weight", "added", "sums"]) (sc := defScope st_u_with_sources) (by decide +kernel)) (fun _ _ _ _ _ => (pg_tupK (K := K) (n := 2) rfl rfl (pgs_cons (pg_name (i := 8) sc_u_with_sources.nd rfl (.inl rfl) (.inr rfl)) (pgs_cons (pg_name (i := 12) sc_u_with_sources.nd rfl (.inl rfl) (.inr rfl)) pgs_nil)))) (fun _ _ _ _ _ => pts_nil) (fun _ _ _ _ _ => (pe_ifExp (pt_cmp (pc_din (hu_of hr) (pv 8) (pv 6))) (pe_callTy (tuple_ofK (K := K) rfl) (by rfl) T.z_tuple (by decide +kernel) (pa_cons (pe_dget (hu_of hr) (pv 6) (pv 8) (fun _ _ => rfl)) pa_nil)) (pv 12))))
      (pss_one (ps_ret (pe_tup (pa_cons (pv 3) (pa_cons (pv 4) (pa_cons (pe_callTy (tuple_ofK (K := K) rfl) (by rfl) T.z_tuple (by decide +kernel) (pa_cons (pv 11) pa_nil)) pa_nil)))))))))), ?_⟩
  rintro _ _ ⟨effects, state, sources, r, rfl, rfl, h⟩
  unfold m_u_with_sources at h
  refine s_from (Γ' := [.val ((rL (rL (r3 pI pI pI))) effects), .val ((r3 (rV pI) (rV pI) (rV (rV pI))) state), .val ((rL pI) sources), .any, .any, .any, .any, .any, .any, .any, .any, .any, .any]) ?_ rfl
  obtain ⟨t4, e5, h⟩ := bndv_some h
  obtain ⟨potentials1, rests2, pending3⟩ := t4
  refine s_seq (Γ1 := [.val ((rL (rL (r3 pI pI pI))) effects), .val ((r3 (rV pI) (rV pI) (rV (rV pI))) state), .val ((rL pI) sources), .val ((rV pI) potentials1), .val ((rV pI) rests2), .val ((rV (rV pI)) pending3), .any, .any, .any, .any, .any, .any, .any]) (s_asgT (e_as (r := (r3 (rV pI) (rV pI) (rV (rV pI)))) (e_var rfl) e5) (g_tup3 (show (3 : Nat) < 13 by decide) (show (4 : Nat) < 13 by decide) (show (5 : Nat) < 13 by decide))) ?_
  obtain ⟨changed6, e7, h⟩ := bndv_some h
  refine s_seq (Γ1 := [.val ((rL (rL (r3 pI pI pI))) effects), .val ((r3 (rV pI) (rV pI) (rV (rV pI))) state), .val ((rL pI) sources), .val ((rV pI) potentials1), .val ((rV pI) rests2), .val ((rV (rV pI)) pending3), .own (oDs (changed6.map (oK (fun x => (oL (x.map pI)))))), .any, .any, .any, .any, .any, .any]) (s_asgW (w_asO (o := (fun x => (oDs (x.map (oK (fun x => (oL (x.map pI)))))))) (show EvW _ _ (oDs (([] : (List (L2.Key × (List Int)))).map (oK (fun x => (oL (x.map pI)))))) from w_dnewOM w_dnew) e7) (show (6 : Nat) < 13 by decide)) ?_
  obtain ⟨changed32, h33, h⟩ := bs h
  refine s_seq (Γ1 := [.val ((rL (rL (r3 pI pI pI))) effects), .val ((r3 (rV pI) (rV pI) (rV (rV pI))) state), .val ((rL pI) sources), .val ((rV pI) potentials1), .val ((rV pI) rests2), .val ((rV (rV pI)) pending3), .own (oDs (changed32.map (oK (fun x => (oL (x.map pI)))))), .any, .any, .any, .any, .any, .any]) (s_forIM (r := pI) (fun (s_9 : (List (L2.Key × (List Int)))) => [.val ((rL (rL (r3 pI pI pI))) effects), .val ((r3 (rV pI) (rV pI) (rV (rV pI))) state), .val ((rL pI) sources), .val ((rV pI) potentials1), .val ((rV pI) rests2), .val ((rV (rV pI)) pending3), .own (oDs (s_9.map (oK (fun x => (oL (x.map pI)))))), .any, .any, .any, .any, .any, .any]) (fun (s_9 : (List (L2.Key × (List Int)))) (x8 : Int) => [.val ((rL (rL (r3 pI pI pI))) effects), .val ((r3 (rV pI) (rV pI) (rV (rV pI))) state), .val ((rL pI) sources), .val ((rV pI) potentials1), .val ((rV pI) rests2), .val ((rV (rV pI)) pending3), .own (oDs (s_9.map (oK (fun x => (oL (x.map pI)))))), .val (pI x8), .any, .any, .any, .any, .any]) _ changed6 (i_list (e_var rfl)) (fun s_9 x8 => (g_name (show (7 : Nat) < 13 by decide))) (fun changed10 x8 s' _ h => by
        refine s_from (Γ' := [.val ((rL (rL (r3 pI pI pI))) effects), .val ((r3 (rV pI) (rV pI) (rV (rV pI))) state), .val ((rL pI) sources), .val ((rV pI) potentials1), .val ((rV pI) rests2), .val ((rV (rV pI)) pending3), .own (oDs (changed10.map (oK (fun x => (oL (x.map pI)))))), .val (pI x8), .any, .any, .any, .any, .any]) ?_ rfl
        obtain ⟨v11, h12, h⟩ := bs h
        obtain ⟨changed30, h31, h⟩ := bs h
        have h := Option.some.inj h
        subst h
        exact s_ncN (s_to (s_mask [7] (s_at [.val ((rL (rL (r3 pI pI pI))) effects), .val ((r3 (rV pI) (rV pI) (rV (rV pI))) state), .val ((rL pI) sources), .val ((rV pI) potentials1), .val ((rV pI) rests2), .val ((rV (rV pI)) pending3), .own (oDs (changed30.map (oK (fun x => (oL (x.map pI)))))), .val (pI x8), .any, .any, .any, .any, .any] (s_forIM (r := (r3 pI pI pI)) (fun (s_14 : (List (L2.Key × (List Int)))) => [.val ((rL (rL (r3 pI pI pI))) effects), .val ((r3 (rV pI) (rV pI) (rV (rV pI))) state), .val ((rL pI) sources), .val ((rV pI) potentials1), .val ((rV pI) rests2), .val ((rV (rV pI)) pending3), .own (oDs (s_14.map (oK (fun x => (oL (x.map pI)))))), .val (pI x8), .any, .any, .any, .any, .any]) (fun (s_14 : (List (L2.Key × (List Int)))) (x13 : (Int × Int × Int)) => [.val ((rL (rL (r3 pI pI pI))) effects), .val ((r3 (rV pI) (rV pI) (rV (rV pI))) state), .val ((rL pI) sources), .val ((rV pI) potentials1), .val ((rV pI) rests2), .val ((rV (rV pI)) pending3), .own (oDs (s_14.map (oK (fun x => (oL (x.map pI)))))), .val (pI x8), .val (pI x13.1), .val (pI x13.2.1), .val (pI x13.2.2), .any, .any]) _ changed10 (i_list (e_ixLM (r := (rL (r3 pI pI pI))) (xs := effects) (r_E (e_var rfl)) (e_var rfl) h12)) (fun s_14 x13 => (g_tup3 (show (8 : Nat) < 13 by decide) (show (9 : Nat) < 13 by decide) (show (10 : Nat) < 13 by decide))) (fun changed15 x13 s' _ h => by
              refine s_from (Γ' := [.val ((rL (rL (r3 pI pI pI))) effects), .val ((r3 (rV pI) (rV pI) (rV (rV pI))) state), .val ((rL pI) sources), .val ((rV pI) potentials1), .val ((rV pI) rests2), .val ((rV (rV pI)) pending3), .own (oDs (changed15.map (oK (fun x => (oL (x.map pI)))))), .val (pI x8), .val (pI x13.1), .val (pI x13.2.1), .val (pI x13.2.2), .any, .any]) ?_ rfl
              obtain ⟨changed22, h23, h⟩ := bs h
              refine s_seq (Γ1 := [.val ((rL (rL (r3 pI pI pI))) effects), .val ((r3 (rV pI) (rV pI) (rV (rV pI))) state), .val ((rL pI) sources), .val ((rV pI) potentials1), .val ((rV pI) rests2), .val ((rV (rV pI)) pending3), .own (oDs (changed22.map (oK (fun x => (oL (x.map pI)))))), .val (pI x8), .val (pI x13.1), .val (pI x13.2.1), .val (pI x13.2.2), .any, .any]) (by
                refine s_if (b := (!(valT changed15 (.inl x13.1)).isSome)) (t_lend (i := 6) rfl (frz_DsM (o := (fun x => (oL (x.map pI)))) (r := (rL pI)) (fun _ => frz_L) _) (t_B (e_to (e_dNotIn (Ps := changed15.map (rK (rL pI))) (k_I (e_var rfl)) (e_var rfl)) (by rw [valT_map, Option.isSome_map])))) (fun hc => ?_) (fun hc => ?_)
                ·   have h := if_t hc h23
                    obtain ⟨v16, h17, h⟩ := bs h
                    obtain ⟨ls18, h19, h⟩ := bs h
                    obtain ⟨changed20, h21, h⟩ := bs h
                    have h := Option.some.inj h
                    subst h
                    exact s_to (s_at [.val ((rL (rL (r3 pI pI pI))) effects), .val ((r3 (rV pI) (rV pI) (rV (rV pI))) state), .val ((rL pI) sources), .val ((rV pI) potentials1), .val ((rV pI) rests2), .val ((rV (rV pI)) pending3), .own (oDs (changed20.map (oK (fun x => (oL (x.map pI)))))), .val (pI x8), .val (pI x13.1), .val (pI x13.2.1), .val (pI x13.2.2), .any, .any] (s_dputOM (o := (fun x => (oL (x.map pI)))) (i := 6) rfl (w_listV (r := pI) (xs := v16) (e_ixVM (r := (rV pI)) (xs := pending3) (e_var rfl) (e_var rfl) h17) h19) (k_I (e_var rfl)) h21)) rfl
                ·   have h := if_f hc h23
                    have h := Option.some.inj h
                    subst h
                    exact s_to s_nx rfl
                ) ?_
              obtain ⟨kv24, h25, h⟩ := bs h
              obtain ⟨old26, h27, h⟩ := bs h
              obtain ⟨changed28, h29, h⟩ := bs h
              have h := Option.some.inj h
              subst h
              exact s_ncN (s_to (s_mask [8, 9, 10] (s_at [.val ((rL (rL (r3 pI pI pI))) effects), .val ((r3 (rV pI) (rV pI) (rV (rV pI))) state), .val ((rL pI) sources), .val ((rV pI) potentials1), .val ((rV pI) rests2), .val ((rV (rV pI)) pending3), .own (oDs ((setK changed22 kv24.1 changed28).map (oK (fun x => (oL (x.map pI)))))), .val (pI x8), .val (pI x13.1), .val (pI x13.2.1), .val (pI x13.2.2), .any, .any] (s_augLFM (f := fun x y => x + y) (f_dkM (o := (fun x => (oL (x.map pI)))) (kvs := changed22) (f_var (i := 6) rfl) (k_I (e_var rfl)) h25) (e_var rfl) h27 (e_var rfl) h29 ⟨_, rfl, rfl⟩ rfl))) rfl)
            ) h31))) rfl)
      ) h33) ?_
  obtain ⟨z43, h42, h⟩ := bs h
  obtain ⟨lc40, h41, h⟩ := bs h
  refine s_seq (Γ1 := [.val ((rL (rL (r3 pI pI pI))) effects), .val ((r3 (rV pI) (rV pI) (rV (rV pI))) state), .val ((rL pI) sources), .val ((rV pI) potentials1), .val ((rV pI) rests2), .val ((rV (rV pI)) pending3), .own (oDs (changed32.map (oK (fun x => (oL (x.map pI)))))), .any, .any, .any, .any, .val ((rL (rV pI)) lc40), .any]) (s_asg (e_L (w_lendX (i := 6) rfl (frz_DsM (o := (fun x => (oL (x.map pI)))) (r := (rL pI)) (fun _ => frz_L) _) (nt_Ds (nt_mapK (fun _ => nt_L) _)) (nxw_L (nx_map (show ∀ p : (List Int), NoX ((rV pI) p) from fun p => nx_T (nx_map (show ∀ p : Int, NoX (pI p) from fun p => nx_pure pure_I) p)) _)) (w_lcY (rb := (rV pI)) (js := [8, 12]) (vs := [8, 12]) (fun x34 => [.val ((rL (rL (r3 pI pI pI))) effects), .val ((r3 (rV pI) (rV pI) (rV (rV pI))) state), .val ((rL pI) sources), .val ((rV pI) potentials1), .val ((rV pI) rests2), .val ((rV (rV pI)) pending3), .val ((rD (rL pI)) changed32), .any, .val (pI x34.1), .any, .any, .any, .val ((rV pI) x34.2)]) _ (i_enumV (r := (rV pI)) (xs := pending3) (a_cons (e_var rfl) a_nil)) (sz_ok h42) (fun x34 => (g_tup2 (show (8 : Nat) < 13 by decide) (show (12 : Nat) < 13 by decide))) (by decide) (fun x34 y _ h44 => by obtain ⟨v37, h38, h44⟩ := bs h44; have h44 := Option.some.inj h44; subst h44; exact (e_if (r := (rV pI)) (t_B (e_to (e_dIn (Ps := changed32.map (rK (rL pI))) (k_I (e_var rfl)) (e_var rfl)) (by rw [valT_map, Option.isSome_map]))) (fun x hc h39 => by obtain ⟨v35, h36, h39⟩ := bs h39; have h39 := Option.some.inj h39; subst h39; exact (e_tupL (r := pI) (xs := v35) (r_E (e_dGet (e_var rfl) (k_I (e_var rfl)) (by rw [valT_map, h36] <;> rfl))))) (fun x hc h39 => by have h39 := Option.some.inj h39; subst h39; exact (e_var rfl)) h38)) h41))) (show (11 : Nat) < 13 by decide)) ?_
  have h := Option.some.inj h
  subst h
  exact (s_ret (e_to (P' := ((r3 (rV pI) (rV pI) (rV (rV pI))) (potentials1, rests2, lc40))) (e_tup (a_cons (e_var rfl) (a_cons (e_var rfl) (a_cons (e_tupL (r := (rV pI)) (xs := lc40) (r_E (e_var rfl))) a_nil))) (Nat.le_of_ble_eq_true rfl)) rfl))

def m_u_law_neuron (cell : Int) : Option Neuron :=
  bndv (1 + (cell % 12)) fun high1 =>
  (if (decide ((cell % 31) = 5)) then bndv (1 + ((cell / 31) % 1048576)) fun high3 =>
  some high3
  else some high1 : Option Int).bind fun high5 =>
  bndv ((cell / 12) % 4) fun lost7 =>
  (if (decide (((cell / 48) % 9) = 1)) then bndv ((cell / 432) % 16) fun lost9 =>
  some lost9
  else some lost7 : Option Int).bind fun lost11 =>
  (m_Neuron__init high5 lost11 ((cell / 5000) % 4) (-((cell / 20000) % 20)) (decide (((cell / 400000) % 2) = 1))).bind fun neuron13 =>
  some neuron13
def R_u_law_neuron (K : PySem.W.Frag) : List Pr → Pr → Prop := fun Ps Q => ∃ (cell : Int) (r : Neuron), Ps = [(pI cell)] ∧ Q = ((rNeuron K) r) ∧ m_u_law_neuron cell = some r
theorem sc_u_law_neuron : FnScope ["cell", "high", "lost"] ["cell"] (defScope st_u_law_neuron) := ⟨rfl, rfl, rfl, by decide +kernel, rfl, by decide +kernel, by decide +kernel⟩
theorem ok_u_law_neuron (T : Txt P w K mg base D) : FnOk P w K mg base CX0 21 (He.fAd K ("_law_neuron", none)) D.u_law_neuron ["cell"] (spR (R_u_law_neuron K)) := by
  obtain ⟨mv_k_Neuron__init_1_leak_refractory_floor_subtract, hk_k_Neuron__init_1_leak_refractory_floor_subtract⟩ := T.k_Neuron__init_1_leak_refractory_floor_subtract
  refine fn_R T.F_u_law_neuron sc_u_law_neuron (by rintro _ _ ⟨cell, _, rfl, rfl, _⟩; rfl) (by decide) fun cdv A outer s H E hr => ⟨_, (pss_cons (ps_set (i := 1) sc_u_law_neuron.nd rfl (.inl rfl) (pe_op op_add pe_int (pe_op op_mod (pv 0) pe_int)))
      (pss_cons (ps_if (pt_cmpR op_eq (pe_op op_mod (pv 0) pe_int) pe_int (nomark _)) (pss_one (ps_set (i := 1) sc_u_law_neuron.nd rfl (.inl rfl) (pe_op op_add pe_int (pe_op op_mod (pe_op op_fdiv (pv 0) pe_int) pe_int)))) pss_nil)
      (pss_cons (ps_set (i := 2) sc_u_law_neuron.nd rfl (.inl rfl) (pe_op op_mod (pe_op op_fdiv (pv 0) pe_int) pe_int))
      (pss_cons (ps_if (pt_cmpR op_eq (pe_op op_mod (pe_op op_fdiv (pv 0) pe_int) pe_int) pe_int (nomark _)) (pss_one (ps_set (i := 2) sc_u_law_neuron.nd rfl (.inl rfl) (pe_op op_mod (pe_op op_fdiv (pv 0) pe_int) pe_int))) pss_nil)
      (pss_one (ps_ret (pe_makeK T.k_Neuron (ok_Neuron__init T) (hr.mono (by decide)) rfl T.g_Neuron hk_k_Neuron__init_1_leak_refractory_floor_subtract pass0 (pa_cons (pv 1) pa_nil) (pk_cons (pv 2) (pk_cons (pe_op op_mod (pe_op op_fdiv (pv 0) pe_int) pe_int) (pk_cons (pe_un un_neg (pe_op op_mod (pe_op op_fdiv (pv 0) pe_int) pe_int)) (pk_cons (pe_cmpR op_eq (pe_op op_mod (pe_op op_fdiv (pv 0) pe_int) pe_int) pe_int (nomark _)) pk_nil))))))))))), ?_⟩
  rintro _ _ ⟨cell, r, rfl, rfl, h⟩
  unfold m_u_law_neuron at h
  refine s_from (Γ' := [.val (pI cell), .any, .any]) ?_ rfl
  obtain ⟨high1, e2, h⟩ := bndv_some h
  refine s_seq (Γ1 := [.val (pI cell), .val (pI high1), .any]) (s_asg (e_as (r := pI) (e_op rr_I0 e_int (e_op (rr_I (by decide)) (e_var rfl) e_int)) e2) (show (1 : Nat) < 3 by decide)) ?_
  obtain ⟨high5, h6, h⟩ := bs h
  refine s_seq (Γ1 := [.val (pI cell), .val (pI high5), .any]) (by
    refine s_if (b := (decide ((cell % 31) = 5))) (t_test (e_op rr_eqI (e_op (rr_I (by decide)) (e_var rfl) e_int) e_int)) (fun hc => ?_) (fun hc => ?_)
    ·   have h := if_t hc h6
        obtain ⟨high3, e4, h⟩ := bndv_some h
        have h := Option.some.inj h
        subst h
        exact s_to (s_at [.val (pI cell), .val (pI high3), .any] (s_asg (e_as (r := pI) (e_op rr_I0 e_int (e_op (rr_I (by decide)) (e_op (rr_I (by exact ⟨by decide, by decide⟩)) (e_var rfl) e_int) e_int)) e4) (show (1 : Nat) < 3 by decide))) rfl
    ·   have h := if_f hc h6
        have h := Option.some.inj h
        subst h
        exact s_to s_nx rfl
    ) ?_
  obtain ⟨lost7, e8, h⟩ := bndv_some h
  refine s_seq (Γ1 := [.val (pI cell), .val (pI high5), .val (pI lost7)]) (s_asg (e_as (r := pI) (e_op (rr_I (by decide)) (e_op (rr_I (by exact ⟨by decide, by decide⟩)) (e_var rfl) e_int) e_int) e8) (show (2 : Nat) < 3 by decide)) ?_
  obtain ⟨lost11, h12, h⟩ := bs h
  refine s_seq (Γ1 := [.val (pI cell), .val (pI high5), .val (pI lost11)]) (by
    refine s_if (b := (decide (((cell / 48) % 9) = 1))) (t_test (e_op rr_eqI (e_op (rr_I (by decide)) (e_op (rr_I (by exact ⟨by decide, by decide⟩)) (e_var rfl) e_int) e_int) e_int)) (fun hc => ?_) (fun hc => ?_)
    ·   have h := if_t hc h12
        obtain ⟨lost9, e10, h⟩ := bndv_some h
        have h := Option.some.inj h
        subst h
        exact s_to (s_at [.val (pI cell), .val (pI high5), .val (pI lost9)] (s_asg (e_as (r := pI) (e_op (rr_I (by decide)) (e_op (rr_I (by exact ⟨by decide, by decide⟩)) (e_var rfl) e_int) e_int) e10) (show (2 : Nat) < 3 by decide))) rfl
    ·   have h := if_f hc h12
        have h := Option.some.inj h
        subst h
        exact s_to s_nx rfl
    ) ?_
  obtain ⟨neuron13, h14, h⟩ := bs h
  have h := Option.some.inj h
  subst h
  exact (s_ret (e_to (P' := ((rNeuron K) neuron13)) (e_makeK (gV := gv_k_Neuron__init_1_leak_refractory_floor_subtract) (Ws := [(pI high5), (pI lost11), (pI ((cell / 5000) % 4)), (pI (-((cell / 20000) % 20))), (pB (decide (((cell / 400000) % 2) = 1)))]) (a_cons (e_var rfl) a_nil) (a_cons (e_var rfl) (a_cons (e_op (rr_I (by decide)) (e_op (rr_I (by exact ⟨by decide, by decide⟩)) (e_var rfl) e_int) e_int) (a_cons (e_un ru_I (e_op (rr_I (by decide)) (e_op (rr_I (by exact ⟨by decide, by decide⟩)) (e_var rfl) e_int) e_int)) (a_cons (e_op rr_eqI (e_op (rr_I (by decide)) (e_op (rr_I (by exact ⟨by decide, by decide⟩)) (e_var rfl) e_int) e_int) e_int) a_nil)))) rfl rfl (fun x vs zs G hv hz => match vs, zs, hv, hz with | [v0], [z0, z1, z2, z3], hv, hz => ⟨_, rfl, ⟨hv.1, hz.1, hz.2.1, hz.2.2.1, hz.2.2.2.1, trivial⟩⟩) ⟨high5, lost11, ((cell / 5000) % 4), (-((cell / 20000) % 20)), (decide (((cell / 400000) % 2) = 1)), neuron13, rfl, rfl, h14⟩) rfl))

def m_u_law_synapse (cell : Int) (sources : Int) (many : Int) (learns : Bool) : Option Synapse :=
  bndv (1 + ((cell / 5000) % 4)) fun lag1 =>
  (if (decide ((cell % 13) = 7)) then bndv (1 + ((cell / 5000) % 15)) fun lag3 =>
  some lag3
  else some lag1 : Option Int).bind fun lag5 =>
  bndv (((cell / 200) % 17) - 5) fun heavy7 =>
  (modM cell sources).bind fun q9 =>
  (modM (cell / 10) many).bind fun q11 =>
  (m_Synapse__init q9 q11 heavy7 lag5 (learns && (decide (((cell / 80000) % 2) = 1)))).bind fun synapse13 =>
  some synapse13
def R_u_law_synapse (K : PySem.W.Frag) : List Pr → Pr → Prop := fun Ps Q => ∃ (cell : Int) (sources : Int) (many : Int) (learns : Bool) (r : Synapse), Ps = [(pI cell), (pI sources), (pI many), (pB learns)] ∧ Q = ((rSynapse K) r) ∧ m_u_law_synapse cell sources many learns = some r
theorem sc_u_law_synapse : FnScope ["cell", "sources", "many", "learns", "lag", "heavy"] ["cell", "sources", "many", "learns"] (defScope st_u_law_synapse) := ⟨rfl, rfl, rfl, by decide +kernel, rfl, by decide +kernel, by decide +kernel⟩
theorem ok_u_law_synapse (T : Txt P w K mg base D) : FnOk P w K mg base CX0 21 (He.fAd K ("_law_synapse", none)) D.u_law_synapse ["cell", "sources", "many", "learns"] (spR (R_u_law_synapse K)) := by
  refine fn_R T.F_u_law_synapse sc_u_law_synapse (by rintro _ _ ⟨cell, sources, many, learns, _, rfl, rfl, _⟩; rfl) (by decide) fun cdv A outer s H E hr => ⟨_, (pss_cons (ps_set (i := 4) sc_u_law_synapse.nd rfl (.inl rfl) (pe_op op_add pe_int (pe_op op_mod (pe_op op_fdiv (pv 0) pe_int) pe_int)))
      (pss_cons (ps_if (pt_cmpR op_eq (pe_op op_mod (pv 0) pe_int) pe_int (nomark _)) (pss_one (ps_set (i := 4) sc_u_law_synapse.nd rfl (.inl rfl) (pe_op op_add pe_int (pe_op op_mod (pe_op op_fdiv (pv 0) pe_int) pe_int)))) pss_nil)
      (pss_cons (ps_set (i := 5) sc_u_law_synapse.nd rfl (.inl rfl) (pe_op op_sub (pe_op op_mod (pe_op op_fdiv (pv 0) pe_int) pe_int) pe_int))
      (pss_one (ps_ret (pe_make T.k_Synapse (ok_Synapse__init T) (hr.mono (by decide)) rfl T.g_Synapse T.b_Synapse__init .nil pass0 (pa_cons (pe_op op_mod (pv 0) (pv 1)) (pa_cons (pe_op op_mod (pe_op op_fdiv (pv 0) pe_int) (pv 2)) (pa_cons (pv 5) (pa_cons (pv 4) (pa_cons (pe_and (pv 3) (pe_one (pe_cmpR op_eq (pe_op op_mod (pe_op op_fdiv (pv 0) pe_int) pe_int) pe_int (nomark _)))) pa_nil))))))))))), ?_⟩
  rintro _ _ ⟨cell, sources, many, learns, r, rfl, rfl, h⟩
  unfold m_u_law_synapse at h
  refine s_from (Γ' := [.val (pI cell), .val (pI sources), .val (pI many), .val (pB learns), .any, .any]) ?_ rfl
  obtain ⟨lag1, e2, h⟩ := bndv_some h
  refine s_seq (Γ1 := [.val (pI cell), .val (pI sources), .val (pI many), .val (pB learns), .val (pI lag1), .any]) (s_asg (e_as (r := pI) (e_op rr_I0 e_int (e_op (rr_I (by decide)) (e_op (rr_I (by exact ⟨by decide, by decide⟩)) (e_var rfl) e_int) e_int)) e2) (show (4 : Nat) < 6 by decide)) ?_
  obtain ⟨lag5, h6, h⟩ := bs h
  refine s_seq (Γ1 := [.val (pI cell), .val (pI sources), .val (pI many), .val (pB learns), .val (pI lag5), .any]) (by
    refine s_if (b := (decide ((cell % 13) = 7))) (t_test (e_op rr_eqI (e_op (rr_I (by decide)) (e_var rfl) e_int) e_int)) (fun hc => ?_) (fun hc => ?_)
    ·   have h := if_t hc h6
        obtain ⟨lag3, e4, h⟩ := bndv_some h
        have h := Option.some.inj h
        subst h
        exact s_to (s_at [.val (pI cell), .val (pI sources), .val (pI many), .val (pB learns), .val (pI lag3), .any] (s_asg (e_as (r := pI) (e_op rr_I0 e_int (e_op (rr_I (by decide)) (e_op (rr_I (by exact ⟨by decide, by decide⟩)) (e_var rfl) e_int) e_int)) e4) (show (4 : Nat) < 6 by decide))) rfl
    ·   have h := if_f hc h6
        have h := Option.some.inj h
        subst h
        exact s_to s_nx rfl
    ) ?_
  obtain ⟨heavy7, e8, h⟩ := bndv_some h
  refine s_seq (Γ1 := [.val (pI cell), .val (pI sources), .val (pI many), .val (pB learns), .val (pI lag5), .val (pI heavy7)]) (s_asg (e_as (r := pI) (e_op rr_I0 (e_op (rr_I (by decide)) (e_op (rr_I (by exact ⟨by decide, by decide⟩)) (e_var rfl) e_int) e_int) e_int) e8) (show (5 : Nat) < 6 by decide)) ?_
  obtain ⟨q9, h10, h⟩ := bs h
  obtain ⟨q11, h12, h⟩ := bs h
  obtain ⟨synapse13, h14, h⟩ := bs h
  have h := Option.some.inj h
  subst h
  exact (s_ret (e_to (P' := ((rSynapse K) synapse13)) (e_make0 (a_cons (e_op (rr_modM h10) (e_var rfl) (e_var rfl)) (a_cons (e_op (rr_modM h12) (e_op (rr_I (by exact ⟨by decide, by decide⟩)) (e_var rfl) e_int) (e_var rfl)) (a_cons (e_var rfl) (a_cons (e_var rfl) (a_cons (e_and (e_var rfl) (fun _ => (e_op rr_eqI (e_op (rr_I (by decide)) (e_op (rr_I (by exact ⟨by decide, by decide⟩)) (e_var rfl) e_int) e_int) e_int)) rfl) a_nil))))) ⟨q9, q11, heavy7, lag5, (learns && (decide (((cell / 80000) % 2) = 1))), synapse13, rfl, rfl, h14⟩) rfl))

def m_u_law_stimuli (script : (List Int)) (inputs : Int) : Option (List (List Int)) :=
  bndv ([] : (List (List Int))) fun stimuli1 =>
  (rng2M 23 (min 47 (script.length : Int))).bind fun rng3 =>
  (List.foldlM (m := Option) (fun (stimuli7 : (List (List Int))) (x5 : Int) => (rngM inputs).bind fun rng8 =>
  (szM rng8).bind fun z20 =>
  (lcM (fun x10 => (atI script x5).bind fun v11 => (shlM 1 x10).bind fun q13 => (fdivM v11 q13).bind fun q15 => some (decide ((q15 % 2) = 1))) (fun x10 => (some x10 : Option Int)) rng8).bind fun lc17 =>
  (appM stimuli7 lc17).bind fun stimuli22 =>
  some stimuli22) stimuli1 rng3).bind fun stimuli24 =>
  some stimuli24
def R_u_law_stimuli (K : PySem.W.Frag) : List Pr → Pr → Prop := fun Ps Q => ∃ (script : (List Int)) (inputs : Int) (r : (List (List Int))), Ps = [((pScr K) script), (pI inputs)] ∧ Q = ((rL (rL pI)) r) ∧ m_u_law_stimuli script inputs = some r
theorem sc_u_law_stimuli : FnScope ["script", "inputs", "stimuli", "k", "j"] ["script", "inputs"] (defScope st_u_law_stimuli) := ⟨rfl, rfl, rfl, by decide +kernel, rfl, by decide +kernel, by decide +kernel⟩
theorem ok_u_law_stimuli (T : Txt P w K mg base D) : FnOk P w K mg base CX0 21 (He.fAd K ("_law_stimuli", none)) D.u_law_stimuli ["script", "inputs"] (spR (R_u_law_stimuli K)) := by
  refine fn_R T.F_u_law_stimuli sc_u_law_stimuli (by rintro _ _ ⟨script, inputs, _, rfl, rfl, _⟩; rfl) (by decide) fun cdv A outer s H E hr => ⟨_, (pss_cons (ps_set (i := 2) sc_u_law_stimuli.nd rfl (.inl rfl) (pe_lst pa_nil))
      (pss_cons (ps_for PassesOwn.never rfl (pi_range2 rfl T.z_range (pa_cons pe_int (pa_cons (pe_callB (call_min2 rfl) (by rfl) T.z_min (by decide +kernel) (pa_cons pe_int (pa_cons (pe_callB (len_seqK (K := K) rfl) (by rfl) T.z_len PySem.boot_len (pa_cons (pv 0) pa_nil)) pa_nil))) pa_nil))) (pg_name (i := 3) sc_u_law_stimuli.nd rfl (.inr rfl)) (pss_one (ps_expr (pe_bm PySem.F.plainAttrs_list PySem.F.slot_list_append PySem.F.type_list_append mt_append (pv 2) (pa_cons (pe_lc (own := [("j", 4)]) rfl sc_u_law_stimuli.nd (pi_range1 rfl T.z_range (pa_cons (pv 1) pa_nil)) (blkOk_by (N := ["script", "inputs", "stimuli", "k", "j"]) (sc := defScope st_u_law_stimuli) (by decide +kernel)) (fun _ _ _ _ _ => (pg_name (i := 4) sc_u_law_stimuli.nd rfl (.inl rfl))) (fun _ _ _ _ _ => (pts_one (pt_cmpR op_eq (pe_op op_mod (pe_op op_fdiv (pe_callTy call_int1 (by rfl) T.z_int (by decide +kernel) (pa_cons (pe_ix (ix_listK (K := K) rfl) (pv 0) (pv 3) (fun _ _ => rfl)) pa_nil)) (pe_op op_shl pe_int (pv 4))) pe_int) pe_int (nomark _)))) (fun _ _ _ _ _ => (pv 4))) pa_nil)))))
      (pss_one (ps_ret (pv 2))))), ?_⟩
  rintro _ _ ⟨script, inputs, r, rfl, rfl, h⟩
  unfold m_u_law_stimuli at h
  refine s_from (Γ' := [.val ((pScr K) script), .val (pI inputs), .any, .any, .any]) ?_ rfl
  obtain ⟨stimuli1, e2, h⟩ := bndv_some h
  refine s_seq (Γ1 := [.val ((pScr K) script), .val (pI inputs), .own (oL (stimuli1.map (rL pI))), .any, .any]) (s_asgW (w_as (r := (rL pI)) (w_to (r := (rL pI)) (xs := ([] : (List (List Int)))) (w_lst a_nil (Nat.le_of_ble_eq_true rfl)) rfl) e2) (show (2 : Nat) < 5 by decide)) ?_
  obtain ⟨rng3, h4, h⟩ := bs h
  obtain ⟨stimuli24, h25, h⟩ := bs h
  refine s_seq (Γ1 := [.val ((pScr K) script), .val (pI inputs), .own (oL (stimuli24.map (rL pI))), .any, .any]) (s_forIM (r := pI) (fun (s_6 : (List (List Int))) => [.val ((pScr K) script), .val (pI inputs), .own (oL (s_6.map (rL pI))), .any, .any]) (fun (s_6 : (List (List Int))) (x5 : Int) => [.val ((pScr K) script), .val (pI inputs), .own (oL (s_6.map (rL pI))), .val (pI x5), .any]) _ stimuli1 (i_rng2M (a_cons e_int (a_cons (e_cb rc_min2 (a_cons e_int (a_cons (e_lenM (r_scr (e_var rfl))) a_nil))) a_nil)) h4) (fun s_6 x5 => (g_name (show (3 : Nat) < 5 by decide))) (fun stimuli7 x5 s' _ h => by
        refine s_from (Γ' := [.val ((pScr K) script), .val (pI inputs), .own (oL (stimuli7.map (rL pI))), .val (pI x5), .any]) ?_ rfl
        obtain ⟨rng8, h9, h⟩ := bs h
        obtain ⟨z20, h19, h⟩ := bs h
        obtain ⟨lc17, h18, h⟩ := bs h
        obtain ⟨stimuli22, h23, h⟩ := bs h
        have h := Option.some.inj h
        subst h
        exact s_ncN (s_to (s_mask [3] (s_at [.val ((pScr K) script), .val (pI inputs), .own (oL (stimuli22.map (rL pI))), .val (pI x5), .any] (s_appM (r := (rL pI)) (a := lc17) (i := 2) rfl (e_L (w_lc (rb := pI) (js := [4]) (vs := [4]) (fun x10 => [.val ((pScr K) script), .val (pI inputs), .own (oL (stimuli7.map (rL pI))), .val (pI x5), .val (pI x10)]) _ _ (i_rngM (a_cons (e_var rfl) a_nil) h9) (sz_ok h19) (fun x10 => (g_name (show (4 : Nat) < 5 by decide))) (by decide) (fun x10 b _ h21 => by obtain ⟨v11, h12, h21⟩ := bs h21; obtain ⟨q13, h14, h21⟩ := bs h21; obtain ⟨q15, h16, h21⟩ := bs h21; have h21 := Option.some.inj h21; subst h21; exact (t_test (e_op rr_eqI (e_op (rr_I (by decide)) (e_op (rr_fdivM h16) (e_cb rc_intI (a_cons (e_ixLM (r := pI) (xs := script) (r_scr (e_var rfl)) (e_var rfl) h12) a_nil)) (e_op (rr_shlM h14) e_int (e_var rfl))) e_int) e_int))) (fun x10 y _ _ h21 => by have h21 := Option.some.inj h21; subst h21; exact (e_var rfl)) h18)) h23))) rfl)
      ) h25) ?_
  refine s_frz (i := 2) rfl frz_L (s_from (Γ' := [.val ((pScr K) script), .val (pI inputs), .val ((rL (rL pI)) stimuli24), .any, .any]) ?_ rfl)
  have h := Option.some.inj h
  subst h
  exact (s_ret (e_to (P' := ((rL (rL pI)) stimuli24)) (e_var rfl) rfl))

def m_u_law_breaks (claim : (Str × List Int)) (stimuli : (List (List Int))) (spikes : (List (List Int))) (t : Int) : Option Bool :=
  if (claim.1 == ("never" : Str)) then (claim.2[0]?).bind fun v1 =>
  (atI spikes t).bind fun v3 =>
  some (decide (v1 ∈ v3))
  else if (claim.1 == ("apart" : Str)) then (claim.2[0]?).bind fun v5 =>
  (atI spikes t).bind fun v7 =>
  (if (decide (v5 ∈ v7)) then (claim.2[1]?).bind fun v9 => (atI spikes t).bind fun v11 => some (decide (v9 ∈ v11)) else some false).bind fun c13 =>
  some c13
  else (claim.2[2]?).bind fun v16 =>
  bndv (t - v16) fun start18 =>
  (if (decide (start18 < 0)) then some true else (claim.2[0]?).bind fun v20 => (atI stimuli start18).bind fun v22 => some (!decide (v20 ∈ v22))).bind fun c24 =>
  if c24 then some false
  else (rng2M (start18 + 1) (t + 1)).bind fun rng27 =>
  (loopM (ρ := Bool) (fun (_ : Unit) (x29 : Int) => (claim.2[1]?).bind fun v31 =>
  (atI spikes x29).bind fun v33 =>
  if (decide (v31 ∈ v33)) then some (Fl.rt false)
  else some (Fl.go ())) () rng27).bind fun o36 => match o36 with
  | .inl _ => some true
  | .inr rv37 => some rv37
def R_u_law_breaks (K : PySem.W.Frag) : List Pr → Pr → Prop := fun Ps Q => ∃ (claim : (Str × List Int)) (stimuli : (List (List Int))) (spikes : (List (List Int))) (t : Int) (r : Bool), Ps = [(rSTI claim), ((rL (rL pI)) stimuli), ((rL (rL pI)) spikes), (pI t)] ∧ Q = (pB r) ∧ m_u_law_breaks claim stimuli spikes t = some r
theorem sc_u_law_breaks : FnScope ["claim", "stimuli", "spikes", "t", "start", "k"] ["claim", "stimuli", "spikes", "t"] (defScope st_u_law_breaks) := ⟨rfl, rfl, rfl, by decide +kernel, rfl, by decide +kernel, by decide +kernel⟩
theorem ok_u_law_breaks (T : Txt P w K mg base D) : FnOk P w K mg base CX0 21 (He.fAd K ("_law_breaks", none)) D.u_law_breaks ["claim", "stimuli", "spikes", "t"] (spR (R_u_law_breaks K)) := by
  refine fn_R T.F_u_law_breaks sc_u_law_breaks (by rintro _ _ ⟨claim, stimuli, spikes, t, _, rfl, rfl, _⟩; rfl) (by decide) fun cdv A outer s H E hr => ⟨_, (pss_cons (ps_if (pt_cmpR op_eq (pe_ix (ix_tupK (K := K) rfl) (pv 0) pe_int (fun _ _ => rfl)) pe_str (nomark _)) (pss_one (ps_ret (pe_cmpR (in_seqK (K := K) rfl) (pe_ix (ix_tupK (K := K) rfl) (pv 0) pe_int (fun _ _ => rfl)) (pe_ix (ix_listK (K := K) rfl) (pv 2) (pv 3) (fun _ _ => rfl)) (by rfl)))) pss_nil)
      (pss_cons (ps_if (pt_cmpR op_eq (pe_ix (ix_tupK (K := K) rfl) (pv 0) pe_int (fun _ _ => rfl)) pe_str (nomark _)) (pss_one (ps_ret (pe_and (pe_cmpR (in_seqK (K := K) rfl) (pe_ix (ix_tupK (K := K) rfl) (pv 0) pe_int (fun _ _ => rfl)) (pe_ix (ix_listK (K := K) rfl) (pv 2) (pv 3) (fun _ _ => rfl)) (by rfl)) (pe_one (pe_cmpR (in_seqK (K := K) rfl) (pe_ix (ix_tupK (K := K) rfl) (pv 0) pe_int (fun _ _ => rfl)) (pe_ix (ix_listK (K := K) rfl) (pv 2) (pv 3) (fun _ _ => rfl)) (by rfl)))))) pss_nil)
      (pss_cons (ps_set (i := 4) sc_u_law_breaks.nd rfl (.inl rfl) (pe_op op_sub (pv 3) (pe_ix (ix_tupK (K := K) rfl) (pv 0) pe_int (fun _ _ => rfl))))
      (pss_cons (ps_if (PW.pt (pw_or (pt_cmpR op_lt (pv 4) pe_int (nomark _)) (pw_or1 (pt_cmpR (notIn_seqK (K := K) rfl) (pe_ix (ix_tupK (K := K) rfl) (pv 0) pe_int (fun _ _ => rfl)) (pe_ix (ix_listK (K := K) rfl) (pv 1) (pv 4) (fun _ _ => rfl)) (by rfl))))) (pss_one (ps_ret pe_bl)) pss_nil)
      (pss_cons (ps_for PassesOwn.never rfl (pi_range2 rfl T.z_range (pa_cons (pe_op op_add (pv 4) pe_int) (pa_cons (pe_op op_add (pv 3) pe_int) pa_nil))) (pg_name (i := 5) sc_u_law_breaks.nd rfl (.inl rfl)) (pss_one (ps_if (pt_cmpR (in_seqK (K := K) rfl) (pe_ix (ix_tupK (K := K) rfl) (pv 0) pe_int (fun _ _ => rfl)) (pe_ix (ix_listK (K := K) rfl) (pv 2) (pv 5) (fun _ _ => rfl)) (by rfl)) (pss_one (ps_ret pe_bl)) pss_nil)))
      (pss_one (ps_ret pe_bl))))))), ?_⟩
  rintro _ _ ⟨claim, stimuli, spikes, t, r, rfl, rfl, h⟩
  unfold m_u_law_breaks at h
  refine s_from (Γ' := [.val (rSTI claim), .val ((rL (rL pI)) stimuli), .val ((rL (rL pI)) spikes), .val (pI t), .any, .any]) ?_ rfl
  refine s_ifK (b := (claim.1 == ("never" : Str))) (t_test (e_op rr_eqS (e_ixT (P := pS claim.1) (e_var rfl) e_int (atT 0 rfl)) e_str)) (fun hc => ?_) (fun hc => ?_)
  ·   have h := if_t hc h
      obtain ⟨v1, h2, h⟩ := bs h
      obtain ⟨v3, h4, h⟩ := bs h
      have h := Option.some.inj h
      subst h
      exact s_seqR (s_ret (e_to (P' := (pB (decide (v1 ∈ v3)))) (e_inL (e_ixSTI (c := claim) (k := 0) (e_var rfl) e_int h2) (r_E (e_ixLM (r := (rL pI)) (xs := spikes) (r_E (e_var rfl)) (e_var rfl) h4))) rfl))
  ·   have h := if_f hc h
      refine s_nxK ?_
      refine s_ifK (b := (claim.1 == ("apart" : Str))) (t_test (e_op rr_eqS (e_ixT (P := pS claim.1) (e_var rfl) e_int (atT 0 rfl)) e_str)) (fun hc => ?_) (fun hc => ?_)
      ·   have h := if_t hc h
          obtain ⟨v5, h6, h⟩ := bs h
          obtain ⟨v7, h8, h⟩ := bs h
          obtain ⟨c13, h14, h⟩ := bs h
          have h := Option.some.inj h
          subst h
          exact s_seqR (s_ret (e_to (P' := (pB c13)) (e_andM (e_inL (e_ixSTI (c := claim) (k := 0) (e_var rfl) e_int h6) (r_E (e_ixLM (r := (rL pI)) (xs := spikes) (r_E (e_var rfl)) (e_var rfl) h8))) (fun b hc h15 => by obtain ⟨v9, h10, h15⟩ := bs h15; obtain ⟨v11, h12, h15⟩ := bs h15; have h15 := Option.some.inj h15; subst h15; exact (e_inL (e_ixSTI (c := claim) (k := 1) (e_var rfl) e_int h10) (r_E (e_ixLM (r := (rL pI)) (xs := spikes) (r_E (e_var rfl)) (e_var rfl) h12)))) h14) rfl))
      ·   have h := if_f hc h
          refine s_nxK ?_
          obtain ⟨v16, h17, h⟩ := bs h
          obtain ⟨start18, e19, h⟩ := bndv_some h
          refine s_seq (Γ1 := [.val (rSTI claim), .val ((rL (rL pI)) stimuli), .val ((rL (rL pI)) spikes), .val (pI t), .val (pI start18), .any]) (s_asg (e_as (r := pI) (e_op rr_I0 (e_var rfl) (e_ixSTI (c := claim) (k := 2) (e_var rfl) e_int h17)) e19) (show (4 : Nat) < 6 by decide)) ?_
          obtain ⟨c24, h25, h⟩ := bs h
          refine s_ifK (b := c24) (t_orM (t_test (e_op rr_B0 (e_var rfl) e_int)) (fun b hc h26 => by obtain ⟨v20, h21, h26⟩ := bs h26; obtain ⟨v22, h23, h26⟩ := bs h26; have h26 := Option.some.inj h26; subst h26; exact (t_test (e_notInL (e_ixSTI (c := claim) (k := 0) (e_var rfl) e_int h21) (r_E (e_ixLM (r := (rL pI)) (xs := stimuli) (r_E (e_var rfl)) (e_var rfl) h23))))) h25) (fun hc => ?_) (fun hc => ?_)
          ·   have h := if_t hc h
              have h := Option.some.inj h
              subst h
              exact s_seqR (s_ret (e_to (P' := (pB false)) e_bl rfl))
          ·   have h := if_f hc h
              refine s_nxK ?_
              obtain ⟨rng27, h28, h⟩ := bs h
              obtain ⟨o36, h35, h⟩ := bs h
              refine s_seqL (s_forI (r := pI) (fun (s_30 : Unit) => [.val (rSTI claim), .val ((rL (rL pI)) stimuli), .val ((rL (rL pI)) spikes), .val (pI t), .val (pI start18), .any]) (fun (s_30 : Unit) (x29 : Int) => [.val (rSTI claim), .val ((rL (rL pI)) stimuli), .val ((rL (rL pI)) spikes), .val (pI t), .val (pI start18), .val (pI x29)]) pB _ () (i_rng2M (a_cons (e_op rr_I0 (e_var rfl) e_int) (a_cons (e_op rr_I0 (e_var rfl) e_int) a_nil)) h28) (fun s_30 x29 => (g_name (show (5 : Nat) < 6 by decide))) (fun _ x29 fl _ h => by
                    refine s_from (Γ' := [.val (rSTI claim), .val ((rL (rL pI)) stimuli), .val ((rL (rL pI)) spikes), .val (pI t), .val (pI start18), .val (pI x29)]) ?_ rfl
                    obtain ⟨v31, h32, h⟩ := bs h
                    obtain ⟨v33, h34, h⟩ := bs h
                    refine s_if (b := (decide (v31 ∈ v33))) (t_test (e_inL (e_ixSTI (c := claim) (k := 1) (e_var rfl) e_int h32) (r_E (e_ixLM (r := (rL pI)) (xs := spikes) (r_E (e_var rfl)) (e_var rfl) h34)))) (fun hc => ?_) (fun hc => ?_)
                    ·   have h := if_t hc h
                        have h := Option.some.inj h
                        subst h
                        exact (s_ret (e_to (P' := (pB false)) e_bl rfl))
                    ·   have h := if_f hc h
                        have h := Option.some.inj h
                        subst h
                        exact s_ncN (s_to (s_mask [5] s_nx) rfl)
                  ) h35) (fun _ ho => ?_) (fun rv37 ho => ?_)
              ·   subst ho
                  refine s_from (Γ' := [.val (rSTI claim), .val ((rL (rL pI)) stimuli), .val ((rL (rL pI)) spikes), .val (pI t), .val (pI start18), .any]) ?_ rfl
                  have h := Option.some.inj h
                  subst h
                  exact (s_ret (e_to (P' := (pB true)) e_bl rfl))
              ·   subst ho
                  cases h
                  rfl

def m_step (neuron : Neuron) (potential : Int) (rest : Int) (incoming : Int) : Option (Int × Int × Bool) :=
  (m_u_leaked neuron potential).bind fun rv1 =>
  bndv (max (rv1 + incoming) neuron.floor) fun charged3 =>
  if (decide (0 < rest)) then some (charged3, (rest - 1), false)
  else if (decide (charged3 < neuron.threshold)) then some (charged3, rest, false)
  else (m_u_left_after_spike neuron charged3).bind fun rv5 =>
  some (rv5, neuron.refractory, true)
def R_step (K : PySem.W.Frag) : List Pr → Pr → Prop := fun Ps Q => ∃ (neuron : Neuron) (potential : Int) (rest : Int) (incoming : Int) (r : (Int × Int × Bool)), Ps = [((rNeuron K) neuron), (pI potential), (pI rest), (pI incoming)] ∧ Q = ((r3 pI pI pB) r) ∧ m_step neuron potential rest incoming = some r
theorem sc_step : FnScope ["neuron", "potential", "rest", "incoming", "charged"] ["neuron", "potential", "rest", "incoming"] (defScope st_step) := ⟨rfl, rfl, rfl, by decide +kernel, rfl, by decide +kernel, by decide +kernel⟩
theorem ok_step (T : Txt P w K mg base D) : FnOk P w K mg base CX0 22 (He.fAd K ("step", none)) D.step ["neuron", "potential", "rest", "incoming"] (spR (R_step K)) := by
  refine fn_R T.F_step sc_step (by rintro _ _ ⟨neuron, potential, rest, incoming, _, rfl, rfl, _⟩; rfl) (by decide) fun cdv A outer s H E hr => ⟨_, (pss_cons (ps_set (i := 4) sc_step.nd rfl (.inl rfl) (pe_callB (call_max2 rfl) (by rfl) T.z_max (by decide +kernel) (pa_cons (pe_op op_add (pe_call (ok_u_leaked T) (hr.mono (by decide)) rfl T.g_u_leaked T.F_u_leaked.kp T.b_u_leaked .nil pass0 (pa_cons (pv 0) (pa_cons (pv 1) pa_nil))) (pv 3)) (pa_cons (pe_fldK (K := K) rfl (pv 0) rfl) pa_nil))))
      (pss_cons (ps_if (pt_cmpR op_gt (pv 2) pe_int (nomark _)) (pss_one (ps_ret (pe_tup (pa_cons (pv 4) (pa_cons (pe_op op_sub (pv 2) pe_int) (pa_cons pe_bl pa_nil)))))) pss_nil)
      (pss_cons (ps_if (pt_cmpR op_lt (pv 4) (pe_fldK (K := K) rfl (pv 0) rfl) (nomark _)) (pss_one (ps_ret (pe_tup (pa_cons (pv 4) (pa_cons (pv 2) (pa_cons pe_bl pa_nil)))))) pss_nil)
      (pss_one (ps_ret (pe_tup (pa_cons (pe_call (ok_u_left_after_spike T) (hr.mono (by decide)) rfl T.g_u_left_after_spike T.F_u_left_after_spike.kp T.b_u_left_after_spike .nil pass0 (pa_cons (pv 0) (pa_cons (pv 4) pa_nil))) (pa_cons (pe_fldK (K := K) rfl (pv 0) rfl) (pa_cons pe_bl pa_nil))))))))), ?_⟩
  rintro _ _ ⟨neuron, potential, rest, incoming, r, rfl, rfl, h⟩
  unfold m_step at h
  refine s_from (Γ' := [.val ((rNeuron K) neuron), .val (pI potential), .val (pI rest), .val (pI incoming), .any]) ?_ rfl
  obtain ⟨rv1, h2, h⟩ := bs h
  obtain ⟨charged3, e4, h⟩ := bndv_some h
  refine s_seq (Γ1 := [.val ((rNeuron K) neuron), .val (pI potential), .val (pI rest), .val (pI incoming), .val (pI charged3)]) (s_asg (e_as (r := pI) (e_cb rc_max2 (a_cons (e_op rr_I0 (e_call0 (a_cons (e_var rfl) (a_cons (e_var rfl) a_nil)) ⟨neuron, potential, rv1, rfl, rfl, h2⟩) (e_var rfl)) (a_cons (e_fld T.c_Neuron T.n_Neuron_floor nd_Neuron (i := 3) rfl rfl (e_var rfl)) a_nil))) e4) (show (4 : Nat) < 5 by decide)) ?_
  refine s_ifK (b := (decide (0 < rest))) (t_test (e_op rr_B0 (e_var rfl) e_int)) (fun hc => ?_) (fun hc => ?_)
  ·   have h := if_t hc h
      have h := Option.some.inj h
      subst h
      exact s_seqR (s_ret (e_to (P' := ((r3 pI pI pB) (charged3, (rest - 1), false))) (e_tup (a_cons (e_var rfl) (a_cons (e_op rr_I0 (e_var rfl) e_int) (a_cons e_bl a_nil))) (Nat.le_of_ble_eq_true rfl)) rfl))
  ·   have h := if_f hc h
      refine s_nxK ?_
      refine s_ifK (b := (decide (charged3 < neuron.threshold))) (t_test (e_op rr_B0 (e_var rfl) (e_fld T.c_Neuron T.n_Neuron_threshold nd_Neuron (i := 0) rfl rfl (e_var rfl)))) (fun hc => ?_) (fun hc => ?_)
      ·   have h := if_t hc h
          have h := Option.some.inj h
          subst h
          exact s_seqR (s_ret (e_to (P' := ((r3 pI pI pB) (charged3, rest, false))) (e_tup (a_cons (e_var rfl) (a_cons (e_var rfl) (a_cons e_bl a_nil))) (Nat.le_of_ble_eq_true rfl)) rfl))
      ·   have h := if_f hc h
          refine s_nxK ?_
          obtain ⟨rv5, h6, h⟩ := bs h
          have h := Option.some.inj h
          subst h
          exact (s_ret (e_to (P' := ((r3 pI pI pB) (rv5, neuron.refractory, true))) (e_tup (a_cons (e_call0 (a_cons (e_var rfl) (a_cons (e_var rfl) a_nil)) ⟨neuron, charged3, rv5, rfl, rfl, h6⟩) (a_cons (e_fld T.c_Neuron T.n_Neuron_refractory nd_Neuron (i := 2) rfl rfl (e_var rfl)) (a_cons e_bl a_nil))) (Nat.le_of_ble_eq_true rfl)) rfl))

def m_u_arriving (network : Network) (fired : (List (List (L2.Key × Bool)))) (tick : Int) : Option (List Int) :=
  (szM (enumI 0 network.synapses)).bind fun z7 =>
  (lcM (fun x1 => (m_u_has_fired fired (tick - x1.2.delay) x1.2.source).bind fun rv2 => some rv2) (fun x1 => (some x1.1 : Option Int)) (enumI 0 network.synapses)).bind fun lc4 =>
  some lc4
def R_u_arriving (K : PySem.W.Frag) : List Pr → Ow → Prop := fun Ps W => ∃ (network : Network) (fired : (List (List (L2.Key × Bool)))) (tick : Int) (r : (List Int)), Ps = [((rNetwork K) network), ((rL (rD pB)) fired), (pI tick)] ∧ W = (oL (r.map pI)) ∧ m_u_arriving network fired tick = some r
theorem sc_u_arriving : FnScope ["network", "fired", "tick", "k", "synapse"] ["network", "fired", "tick"] (defScope st_u_arriving) := ⟨rfl, rfl, rfl, by decide +kernel, rfl, by decide +kernel, by decide +kernel⟩
theorem ok_u_arriving (T : Txt P w K mg base D) : FnOk P w K mg base CX0 22 (He.fAd K ("_arriving", none)) D.u_arriving ["network", "fired", "tick"] (spW (R_u_arriving K)) := by
  refine fn_W T.F_u_arriving sc_u_arriving (by rintro _ _ ⟨network, fired, tick, _, rfl, rfl, _⟩; rfl) (by decide) fun cdv A outer s H E hr => ⟨_, (pss_one (ps_ret (pe_lc (own := [("k", 3), ("synapse", 4)]) rfl sc_u_arriving.nd (pi_enum (by rfl) T.z_enumerate (pa_cons (pe_fldK (K := K) rfl (pv 0) rfl) pa_nil)) (blkOk_by (N := ["network", "fired", "tick", "k", "synapse"]) (sc := defScope st_u_arriving) (by decide +kernel)) (fun _ _ _ _ _ => (pg_tupK (K := K) (n := 2) rfl rfl (pgs_cons (pg_name (i := 3) sc_u_arriving.nd rfl (.inl rfl) (.inr rfl)) (pgs_cons (pg_name (i := 4) sc_u_arriving.nd rfl (.inl rfl) (.inr rfl)) pgs_nil)))) (fun _ _ _ _ _ => (pts_one (pt_val (pe_call (ok_u_has_fired T) (hr.mono (by decide)) rfl T.g_u_has_fired T.F_u_has_fired.kp T.b_u_has_fired .nil pass0 (pa_cons (pv 1) (pa_cons (pe_op op_sub (pv 2) (pe_fldK (K := K) rfl (pv 4) rfl)) (pa_cons (pe_fldK (K := K) rfl (pv 4) rfl) pa_nil))))))) (fun _ _ _ _ _ => (pv 3))))), ?_⟩
  rintro _ _ ⟨network, fired, tick, r, rfl, rfl, h⟩
  unfold m_u_arriving at h
  refine s_from (Γ' := [.val ((rNetwork K) network), .val ((rL (rD pB)) fired), .val (pI tick), .any, .any]) ?_ rfl
  obtain ⟨z7, h6, h⟩ := bs h
  obtain ⟨lc4, h5, h⟩ := bs h
  have h := Option.some.inj h
  subst h
  exact (s_retW (W := (oL (lc4.map pI))) (w_lc (rb := pI) (js := [3, 4]) (vs := [3, 4]) (fun x1 => [.val ((rNetwork K) network), .val ((rL (rD pB)) fired), .val (pI tick), .val (pI x1.1), .val ((rSynapse K) x1.2)]) _ _ (i_enum (a_cons (e_fld T.c_Network T.n_Network_synapses nd_Network (i := 2) rfl rfl (e_var rfl)) a_nil)) (sz_ok h6) (fun x1 => (g_tup2 (show (3 : Nat) < 5 by decide) (show (4 : Nat) < 5 by decide))) (by decide) (fun x1 b _ h8 => by obtain ⟨rv2, h3, h8⟩ := bs h8; have h8 := Option.some.inj h8; subst h8; exact (t_B (e_call0 (a_cons (e_var rfl) (a_cons (e_op rr_I0 (e_var rfl) (e_fld T.c_Synapse T.n_Synapse_delay nd_Synapse (i := 3) rfl rfl (e_var rfl))) (a_cons (e_fld T.c_Synapse T.n_Synapse_source nd_Synapse (i := 0) rfl rfl (e_var rfl)) a_nil))) ⟨fired, (tick - x1.2.delay), x1.2.source, rv2, rfl, rfl, h3⟩))) (fun x1 y _ _ h8 => by have h8 := Option.some.inj h8; subst h8; exact (e_var rfl)) h5))

def m_u_law_network (script : (List Int)) (learns : Bool) : Option Network :=
  (m_u_law_cell script 0).bind fun rv1 =>
  bndv (1 + (rv1 % 3)) fun inputs3 =>
  bndv (1 + ((rv1 / 3) % 5)) fun many5 =>
  (rngM many5).bind fun rng7 =>
  (szM rng7).bind fun z17 =>
  (mapO (fun x9 => ((m_u_law_cell script (2 + x9)).bind fun rv10 => (m_u_law_neuron rv10).bind fun rv12 => some rv12 : Option Neuron)) rng7).bind fun lc14 =>
  bndv ([] : (List Synapse)) fun synapses19 =>
  (rng2M 7 (min 23 (script.length : Int))).bind fun rng21 =>
  (List.foldlM (m := Option) (fun (synapses25 : (List Synapse)) (x23 : Int) => (atI script x23).bind fun v26 =>
  (m_u_law_synapse v26 (inputs3 + many5) many5 learns).bind fun rv28 =>
  (appM synapses25 rv28).bind fun synapses30 =>
  some synapses30) synapses19 rng21).bind fun synapses32 =>
  bndv none fun rule34 =>
  (if (learns && (decide (0 < ((rv1 / 15) % 4)))) then (m_u_law_cell script 1).bind fun rv36 =>
  (m_Rule__init (rv36 % 5) ((rv36 / 5) % 5) (((rv36 / 25) % 9) + (30 * ((rv36 / 20000) % 3))) ((-8) - ((rv36 / 225) % 9)) (11 + ((rv36 / 2025) % 9))).bind fun rule38 =>
  bndv (some rule38) fun rule40 =>
  some rule40
  else some rule34 : Option (Option Rule)).bind fun rule42 =>
  (m_Network__init inputs3 lc14 synapses32 rule42).bind fun network44 =>
  some network44
def R_u_law_network (K : PySem.W.Frag) : List Pr → Pr → Prop := fun Ps Q => ∃ (script : (List Int)) (learns : Bool) (r : Network), Ps = [((pScr K) script), (pB learns)] ∧ Q = ((rNetwork K) r) ∧ m_u_law_network script learns = some r
theorem sc_u_law_network : FnScope ["script", "learns", "shape", "inputs", "many", "neurons", "synapses", "k", "rule", "cell"] ["script", "learns"] (defScope st_u_law_network) := ⟨rfl, rfl, rfl, by decide +kernel, rfl, by decide +kernel, by decide +kernel⟩
theorem ok_u_law_network (T : Txt P w K mg base D) : FnOk P w K mg base CX0 22 (He.fAd K ("_law_network", none)) D.u_law_network ["script", "learns"] (spR (R_u_law_network K)) := by
  refine fn_R T.F_u_law_network sc_u_law_network (by rintro _ _ ⟨script, learns, _, rfl, rfl, _⟩; rfl) (by decide) fun cdv A outer s H E hr => ⟨_, (pss_cons (ps_set (i := 2) sc_u_law_network.nd rfl (.inl rfl) (pe_call (ok_u_law_cell T) (hr.mono (by decide)) rfl T.g_u_law_cell T.F_u_law_cell.kp T.b_u_law_cell .nil pass0 (pa_cons (pv 0) (pa_cons pe_int pa_nil))))
      (pss_cons (ps_set (i := 3) sc_u_law_network.nd rfl (.inl rfl) (pe_op op_add pe_int (pe_op op_mod (pv 2) pe_int)))
      (pss_cons (ps_set (i := 4) sc_u_law_network.nd rfl (.inl rfl) (pe_op op_add pe_int (pe_op op_mod (pe_op op_fdiv (pv 2) pe_int) pe_int)))
      (pss_cons (ps_setLc (i := 5) (own := [("k", 7)]) rfl sc_u_law_network.nd rfl rfl (sw_true rfl rfl rfl (by decide +kernel)) (pi_range1 rfl T.z_range (pa_cons (pv 4) pa_nil)) (blkOk_by (N := ["script", "learns", "shape", "inputs", "many", "neurons", "synapses", "k", "rule", "cell"]) (sc := defScope st_u_law_network) (by decide +kernel)) (fun _ _ _ _ _ => (pg_name (i := 7) sc_u_law_network.nd rfl (.inl rfl))) (fun _ _ _ _ _ => pts_nil) (fun _ _ _ _ _ => (pe_call (ok_u_law_neuron T) (hr.mono (by decide)) rfl T.g_u_law_neuron T.F_u_law_neuron.kp T.b_u_law_neuron .nil pass0 (pa_cons (pe_call (ok_u_law_cell T) (hr.mono (by decide)) rfl T.g_u_law_cell T.F_u_law_cell.kp T.b_u_law_cell .nil pass0 (pa_cons (pv 0) (pa_cons (pe_op op_add pe_int (pv 7)) pa_nil))) pa_nil))))
      (pss_cons (ps_set (i := 6) sc_u_law_network.nd rfl (.inl rfl) (pe_lst pa_nil))
      (pss_cons (ps_for PassesOwn.never rfl (pi_range2 rfl T.z_range (pa_cons pe_int (pa_cons (pe_callB (call_min2 rfl) (by rfl) T.z_min (by decide +kernel) (pa_cons pe_int (pa_cons (pe_callB (len_seqK (K := K) rfl) (by rfl) T.z_len PySem.boot_len (pa_cons (pv 0) pa_nil)) pa_nil))) pa_nil))) (pg_name (i := 7) sc_u_law_network.nd rfl (.inl rfl)) (pss_one (ps_expr (pe_bm PySem.F.plainAttrs_list PySem.F.slot_list_append PySem.F.type_list_append mt_append (pv 6) (pa_cons (pe_call (ok_u_law_synapse T) (hr.mono (by decide)) rfl T.g_u_law_synapse T.F_u_law_synapse.kp T.b_u_law_synapse .nil pass0 (pa_cons (pe_callTy call_int1 (by rfl) T.z_int (by decide +kernel) (pa_cons (pe_ix (ix_listK (K := K) rfl) (pv 0) (pv 7) (fun _ _ => rfl)) pa_nil)) (pa_cons (pe_op op_add (pv 3) (pv 4)) (pa_cons (pv 4) (pa_cons (pv 1) pa_nil))))) pa_nil)))))
      (pss_cons (ps_set (i := 8) sc_u_law_network.nd rfl (.inl rfl) pe_non)
      (pss_cons (ps_if (PW.pt (pw_and (pt_val (pv 1)) (pw_and1 (pt_cmpR op_gt (pe_op op_mod (pe_op op_fdiv (pv 2) pe_int) pe_int) pe_int (nomark _))))) (pss_cons (ps_set (i := 9) sc_u_law_network.nd rfl (.inl rfl) (pe_call (ok_u_law_cell T) (hr.mono (by decide)) rfl T.g_u_law_cell T.F_u_law_cell.kp T.b_u_law_cell .nil pass0 (pa_cons (pv 0) (pa_cons pe_int pa_nil))))
      (pss_one (ps_set (i := 8) sc_u_law_network.nd rfl (.inl rfl) (pe_make T.k_Rule (ok_Rule__init T) (hr.mono (by decide)) rfl T.g_Rule T.b_Rule__init .nil pass0 (pa_cons (pe_op op_mod (pv 9) pe_int) (pa_cons (pe_op op_mod (pe_op op_fdiv (pv 9) pe_int) pe_int) (pa_cons (pe_op op_add (pe_op op_mod (pe_op op_fdiv (pv 9) pe_int) pe_int) (pe_op op_mul pe_int (pe_op op_mod (pe_op op_fdiv (pv 9) pe_int) pe_int))) (pa_cons (pe_op op_sub (pe_un un_neg pe_int) (pe_op op_mod (pe_op op_fdiv (pv 9) pe_int) pe_int)) (pa_cons (pe_op op_add pe_int (pe_op op_mod (pe_op op_fdiv (pv 9) pe_int) pe_int)) pa_nil))))))))) pss_nil)
      (pss_one (ps_ret (pe_make T.k_Network (ok_Network__init T) (hr.mono (by decide)) rfl T.g_Network T.b_Network__init .nil pass0 (pa_cons (pv 3) (pa_cons (pv 5) (pa_cons (pv 6) (pa_cons (pv 8) pa_nil))))))))))))))), ?_⟩
  rintro _ _ ⟨script, learns, r, rfl, rfl, h⟩
  unfold m_u_law_network at h
  refine s_from (Γ' := [.val ((pScr K) script), .val (pB learns), .any, .any, .any, .any, .any, .any, .any, .any]) ?_ rfl
  obtain ⟨rv1, h2, h⟩ := bs h
  refine s_seq (Γ1 := [.val ((pScr K) script), .val (pB learns), .val (pI rv1), .any, .any, .any, .any, .any, .any, .any]) (s_asg (e_call0 (a_cons (e_var rfl) (a_cons e_int a_nil)) ⟨script, 0, rv1, rfl, rfl, h2⟩) (show (2 : Nat) < 10 by decide)) ?_
  obtain ⟨inputs3, e4, h⟩ := bndv_some h
  refine s_seq (Γ1 := [.val ((pScr K) script), .val (pB learns), .val (pI rv1), .val (pI inputs3), .any, .any, .any, .any, .any, .any]) (s_asg (e_as (r := pI) (e_op rr_I0 e_int (e_op (rr_I (by decide)) (e_var rfl) e_int)) e4) (show (3 : Nat) < 10 by decide)) ?_
  obtain ⟨many5, e6, h⟩ := bndv_some h
  refine s_seq (Γ1 := [.val ((pScr K) script), .val (pB learns), .val (pI rv1), .val (pI inputs3), .val (pI many5), .any, .any, .any, .any, .any]) (s_asg (e_as (r := pI) (e_op rr_I0 e_int (e_op (rr_I (by decide)) (e_op (rr_I (by exact ⟨by decide, by decide⟩)) (e_var rfl) e_int) e_int)) e6) (show (4 : Nat) < 10 by decide)) ?_
  obtain ⟨rng7, h8, h⟩ := bs h
  obtain ⟨z17, h16, h⟩ := bs h
  obtain ⟨lc14, h15, h⟩ := bs h
  refine s_seq (Γ1 := [.val ((pScr K) script), .val (pB learns), .val (pI rv1), .val (pI inputs3), .val (pI many5), .val ((rL (rNeuron K)) lc14), .any, .any, .any, .any]) (s_asg (e_L (w_lcY (rb := (rNeuron K)) (js := [7]) (vs := [7]) (fun x9 => [.val ((pScr K) script), .val (pB learns), .val (pI rv1), .val (pI inputs3), .val (pI many5), .any, .any, .val (pI x9), .any, .any]) _ (i_rngM (a_cons (e_var rfl) a_nil) h8) (sz_ok h16) (fun x9 => (g_name (show (7 : Nat) < 10 by decide))) (by decide) (fun x9 y _ h18 => by obtain ⟨rv10, h11, h18⟩ := bs h18; obtain ⟨rv12, h13, h18⟩ := bs h18; have h18 := Option.some.inj h18; subst h18; exact (e_call0 (a_cons (e_call0 (a_cons (e_var rfl) (a_cons (e_op rr_I0 e_int (e_var rfl)) a_nil)) ⟨script, (2 + x9), rv10, rfl, rfl, h11⟩) a_nil) ⟨rv10, rv12, rfl, rfl, h13⟩)) h15)) (show (5 : Nat) < 10 by decide)) ?_
  obtain ⟨synapses19, e20, h⟩ := bndv_some h
  refine s_seq (Γ1 := [.val ((pScr K) script), .val (pB learns), .val (pI rv1), .val (pI inputs3), .val (pI many5), .val ((rL (rNeuron K)) lc14), .own (oL (synapses19.map (rSynapse K))), .any, .any, .any]) (s_asgW (w_as (r := (rSynapse K)) (w_to (r := (rSynapse K)) (xs := ([] : (List Synapse))) (w_lst a_nil (Nat.le_of_ble_eq_true rfl)) rfl) e20) (show (6 : Nat) < 10 by decide)) ?_
  obtain ⟨rng21, h22, h⟩ := bs h
  obtain ⟨synapses32, h33, h⟩ := bs h
  refine s_seq (Γ1 := [.val ((pScr K) script), .val (pB learns), .val (pI rv1), .val (pI inputs3), .val (pI many5), .val ((rL (rNeuron K)) lc14), .own (oL (synapses32.map (rSynapse K))), .any, .any, .any]) (s_forIM (r := pI) (fun (s_24 : (List Synapse)) => [.val ((pScr K) script), .val (pB learns), .val (pI rv1), .val (pI inputs3), .val (pI many5), .val ((rL (rNeuron K)) lc14), .own (oL (s_24.map (rSynapse K))), .any, .any, .any]) (fun (s_24 : (List Synapse)) (x23 : Int) => [.val ((pScr K) script), .val (pB learns), .val (pI rv1), .val (pI inputs3), .val (pI many5), .val ((rL (rNeuron K)) lc14), .own (oL (s_24.map (rSynapse K))), .val (pI x23), .any, .any]) _ synapses19 (i_rng2M (a_cons e_int (a_cons (e_cb rc_min2 (a_cons e_int (a_cons (e_lenM (r_scr (e_var rfl))) a_nil))) a_nil)) h22) (fun s_24 x23 => (g_name (show (7 : Nat) < 10 by decide))) (fun synapses25 x23 s' _ h => by
        refine s_from (Γ' := [.val ((pScr K) script), .val (pB learns), .val (pI rv1), .val (pI inputs3), .val (pI many5), .val ((rL (rNeuron K)) lc14), .own (oL (synapses25.map (rSynapse K))), .val (pI x23), .any, .any]) ?_ rfl
        obtain ⟨v26, h27, h⟩ := bs h
        obtain ⟨rv28, h29, h⟩ := bs h
        obtain ⟨synapses30, h31, h⟩ := bs h
        have h := Option.some.inj h
        subst h
        exact s_ncN (s_to (s_mask [7] (s_at [.val ((pScr K) script), .val (pB learns), .val (pI rv1), .val (pI inputs3), .val (pI many5), .val ((rL (rNeuron K)) lc14), .own (oL (synapses30.map (rSynapse K))), .val (pI x23), .any, .any] (s_appM (r := (rSynapse K)) (a := rv28) (i := 6) rfl (e_call0 (a_cons (e_cb rc_intI (a_cons (e_ixLM (r := pI) (xs := script) (r_scr (e_var rfl)) (e_var rfl) h27) a_nil)) (a_cons (e_op rr_I0 (e_var rfl) (e_var rfl)) (a_cons (e_var rfl) (a_cons (e_var rfl) a_nil)))) ⟨v26, (inputs3 + many5), many5, learns, rv28, rfl, rfl, h29⟩) h31))) rfl)
      ) h33) ?_
  obtain ⟨rule34, e35, h⟩ := bndv_some h
  refine s_seq (Γ1 := [.val ((pScr K) script), .val (pB learns), .val (pI rv1), .val (pI inputs3), .val (pI many5), .val ((rL (rNeuron K)) lc14), .own (oL (synapses32.map (rSynapse K))), .any, .val ((pOpt (rRule K)) rule34), .any]) (s_asg (e_as (r := (pOpt (rRule K))) e_non e35) (show (8 : Nat) < 10 by decide)) ?_
  obtain ⟨rule42, h43, h⟩ := bs h
  refine s_seq (Γ1 := [.val ((pScr K) script), .val (pB learns), .val (pI rv1), .val (pI inputs3), .val (pI many5), .val ((rL (rNeuron K)) lc14), .own (oL (synapses32.map (rSynapse K))), .any, .val ((pOpt (rRule K)) rule42), .any]) (by
    refine s_if (b := (learns && (decide (0 < ((rv1 / 15) % 4))))) (t_and (t_B (e_var rfl)) (fun _ => (t_test (e_op rr_B0 (e_op (rr_I (by decide)) (e_op (rr_I (by exact ⟨by decide, by decide⟩)) (e_var rfl) e_int) e_int) e_int))) rfl) (fun hc => ?_) (fun hc => ?_)
    ·   have h := if_t hc h43
        obtain ⟨rv36, h37, h⟩ := bs h
        refine s_seq (Γ1 := [.val ((pScr K) script), .val (pB learns), .val (pI rv1), .val (pI inputs3), .val (pI many5), .val ((rL (rNeuron K)) lc14), .own (oL (synapses32.map (rSynapse K))), .any, .val ((pOpt (rRule K)) rule34), .val (pI rv36)]) (s_asg (e_call0 (a_cons (e_var rfl) (a_cons e_int a_nil)) ⟨script, 1, rv36, rfl, rfl, h37⟩) (show (9 : Nat) < 10 by decide)) ?_
        obtain ⟨rule38, h39, h⟩ := bs h
        obtain ⟨rule40, e41, h⟩ := bndv_some h
        have h := Option.some.inj h
        subst h
        exact s_to (s_mask [9] (s_at [.val ((pScr K) script), .val (pB learns), .val (pI rv1), .val (pI inputs3), .val (pI many5), .val ((rL (rNeuron K)) lc14), .own (oL (synapses32.map (rSynapse K))), .any, .val ((pOpt (rRule K)) rule40), .val (pI rv36)] (s_asg (e_as (r := (pOpt (rRule K))) (e_make0 (a_cons (e_op (rr_I (by decide)) (e_var rfl) e_int) (a_cons (e_op (rr_I (by decide)) (e_op (rr_I (by exact ⟨by decide, by decide⟩)) (e_var rfl) e_int) e_int) (a_cons (e_op rr_I0 (e_op (rr_I (by decide)) (e_op (rr_I (by exact ⟨by decide, by decide⟩)) (e_var rfl) e_int) e_int) (e_op (rr_I (.inl (by decide))) e_int (e_op (rr_I (by decide)) (e_op (rr_I (by exact ⟨by decide, by decide⟩)) (e_var rfl) e_int) e_int))) (a_cons (e_op rr_I0 (e_un ru_I e_int) (e_op (rr_I (by decide)) (e_op (rr_I (by exact ⟨by decide, by decide⟩)) (e_var rfl) e_int) e_int)) (a_cons (e_op rr_I0 e_int (e_op (rr_I (by decide)) (e_op (rr_I (by exact ⟨by decide, by decide⟩)) (e_var rfl) e_int) e_int)) a_nil))))) ⟨(rv36 % 5), ((rv36 / 5) % 5), (((rv36 / 25) % 9) + (30 * ((rv36 / 20000) % 3))), ((-8) - ((rv36 / 225) % 9)), (11 + ((rv36 / 2025) % 9)), rule38, rfl, rfl, h39⟩) e41) (show (8 : Nat) < 10 by decide)))) rfl
    ·   have h := if_f hc h43
        have h := Option.some.inj h
        subst h
        exact s_to s_nx rfl
    ) ?_
  refine s_frz (i := 6) rfl frz_L (s_from (Γ' := [.val ((pScr K) script), .val (pB learns), .val (pI rv1), .val (pI inputs3), .val (pI many5), .val ((rL (rNeuron K)) lc14), .val ((rL (rSynapse K)) synapses32), .any, .val ((pOpt (rRule K)) rule42), .any]) ?_ rfl)
  obtain ⟨network44, h45, h⟩ := bs h
  have h := Option.some.inj h
  subst h
  exact (s_ret (e_to (P' := ((rNetwork K) network44)) (e_make0 (a_cons (e_var rfl) (a_cons (e_var rfl) (a_cons (e_var rfl) (a_cons (e_var rfl) a_nil)))) ⟨inputs3, lc14, synapses32, rule42, network44, rfl, rfl, h45⟩) rfl))

def m_after_steps (network : Network) (potentials : (List Int)) (rests : (List Int)) (sums : (List Int)) : Option ((List Int) × (List Int) × (List Int)) :=
  (szM (enumI 0 network.neurons)).bind fun z13 =>
  (mapO (fun x1 => ((atI potentials x1.1).bind fun v2 => (atI rests x1.1).bind fun v4 => (atI sums x1.1).bind fun v6 => (m_step x1.2 v2 v4 v6).bind fun rv8 => some rv8 : Option (Int × Int × Bool))) (enumI 0 network.neurons)).bind fun lc10 =>
  (szM (enumI 0 lc10)).bind fun z19 =>
  (lcM (fun x15 => some x15.2.2.2) (fun x15 => (some x15.1 : Option Int)) (enumI 0 lc10)).bind fun lc16 =>
  (szM lc10).bind fun z25 =>
  (mapO (fun x21 => (some x21.1 : Option Int)) lc10).bind fun lc22 =>
  (szM lc10).bind fun z31 =>
  (mapO (fun x27 => (some x27.2.1 : Option Int)) lc10).bind fun lc28 =>
  some (lc22, lc28, lc16)
def R_after_steps (K : PySem.W.Frag) : List Pr → Pr → Prop := fun Ps Q => ∃ (network : Network) (potentials : (List Int)) (rests : (List Int)) (sums : (List Int)) (r : ((List Int) × (List Int) × (List Int))), Ps = [((rNetwork K) network), ((rV pI) potentials), ((rV pI) rests), ((rLV pI) sums)] ∧ Q = ((r3 (rV pI) (rV pI) (rL pI)) r) ∧ m_after_steps network potentials rests sums = some r
theorem sc_after_steps : FnScope ["network", "potentials", "rests", "sums", "steps", "spiking", "n", "neuron", "row"] ["network", "potentials", "rests", "sums"] (defScope st_after_steps) := ⟨rfl, rfl, rfl, by decide +kernel, rfl, by decide +kernel, by decide +kernel⟩
theorem ok_after_steps (T : Txt P w K mg base D) : FnOk P w K mg base CX0 23 (He.fAd K ("after_steps", none)) D.after_steps ["network", "potentials", "rests", "sums"] (spR (R_after_steps K)) := by
  refine fn_R T.F_after_steps sc_after_steps (by rintro _ _ ⟨network, potentials, rests, sums, _, rfl, rfl, _⟩; rfl) (by decide) fun cdv A outer s H E hr => ⟨_, (pss_cons (ps_setLc (i := 4) (own := [("n", 6), ("neuron", 7)]) rfl sc_after_steps.nd rfl rfl (sw_true rfl rfl rfl (by decide +kernel)) (pi_enum (by rfl) T.z_enumerate (pa_cons (pe_fldK (K := K) rfl (pv 0) rfl) pa_nil)) (blkOk_by (N := ["network", "potentials", "rests", "sums", "steps", "spiking", "n", "neuron", "row"]) (sc := defScope st_after_steps) (by decide +kernel)) (fun _ _ _ _ _ => (pg_tupK (K := K) (n := 2) rfl rfl (pgs_cons (pg_name (i := 6) sc_after_steps.nd rfl (.inl rfl) (.inr rfl)) (pgs_cons (pg_name (i := 7) sc_after_steps.nd rfl (.inl rfl) (.inr rfl)) pgs_nil)))) (fun _ _ _ _ _ => pts_nil) (fun _ _ _ _ _ => (pe_call (ok_step T) (hr.mono (by decide)) rfl T.g_step T.F_step.kp T.b_step .nil pass0 (pa_cons (pv 7) (pa_cons (pe_ix (ix_tupK (K := K) rfl) (pv 1) (pv 6) (fun _ _ => rfl)) (pa_cons (pe_ix (ix_tupK (K := K) rfl) (pv 2) (pv 6) (fun _ _ => rfl)) (pa_cons (pe_ix (ix_bothK (K := K) rfl) (pv 3) (pv 6) (fun _ _ => rfl)) pa_nil)))))))
      (pss_cons (ps_setLc (i := 5) (own := [("n", 6), ("row", 8)]) rfl sc_after_steps.nd rfl rfl (sw_true rfl rfl rfl (by decide +kernel)) (pi_enum (by rfl) T.z_enumerate (pa_cons (pv 4) pa_nil)) (blkOk_by (N := ["network", "potentials", "rests", "sums", "steps", "spiking", "n", "neuron", "row"]) (sc := defScope st_after_steps) (by decide +kernel)) (fun _ _ _ _ _ => (pg_tupK (K := K) (n := 2) rfl rfl (pgs_cons (pg_name (i := 6) sc_after_steps.nd rfl (.inl rfl) (.inr rfl)) (pgs_cons (pg_name (i := 8) sc_after_steps.nd rfl (.inl rfl) (.inr rfl)) pgs_nil)))) (fun _ _ _ _ _ => (pts_one (pt_val (pe_ix (ix_tupK (K := K) rfl) (pv 8) pe_int (fun _ _ => rfl))))) (fun _ _ _ _ _ => (pv 6)))
      (pss_one (ps_ret (pe_tup (pa_cons (pe_callTy (tuple_ofK (K := K) rfl) (by rfl) T.z_tuple (by decide +kernel) (pa_cons (pe_lc (own := [("row", 8)]) rfl sc_after_steps.nd (pi_listK (K := K) rfl (pv 4)) (blkOk_by (N := ["network", "potentials", "rests", "sums", "steps", "spiking", "n", "neuron", "row"]) (sc := defScope st_after_steps) (by decide +kernel)) (fun _ _ _ _ _ => (pg_name (i := 8) sc_after_steps.nd rfl (.inl rfl))) (fun _ _ _ _ _ => pts_nil) (fun _ _ _ _ _ => (pe_ix (ix_tupK (K := K) rfl) (pv 8) pe_int (fun _ _ => rfl)))) pa_nil)) (pa_cons (pe_callTy (tuple_ofK (K := K) rfl) (by rfl) T.z_tuple (by decide +kernel) (pa_cons (pe_lc (own := [("row", 8)]) rfl sc_after_steps.nd (pi_listK (K := K) rfl (pv 4)) (blkOk_by (N := ["network", "potentials", "rests", "sums", "steps", "spiking", "n", "neuron", "row"]) (sc := defScope st_after_steps) (by decide +kernel)) (fun _ _ _ _ _ => (pg_name (i := 8) sc_after_steps.nd rfl (.inl rfl))) (fun _ _ _ _ _ => pts_nil) (fun _ _ _ _ _ => (pe_ix (ix_tupK (K := K) rfl) (pv 8) pe_int (fun _ _ => rfl)))) pa_nil)) (pa_cons (pv 5) pa_nil)))))))), ?_⟩
  rintro _ _ ⟨network, potentials, rests, sums, r, rfl, rfl, h⟩
  unfold m_after_steps at h
  refine s_from (Γ' := [.val ((rNetwork K) network), .val ((rV pI) potentials), .val ((rV pI) rests), .val ((rLV pI) sums), .any, .any, .any, .any, .any]) ?_ rfl
  obtain ⟨z13, h12, h⟩ := bs h
  obtain ⟨lc10, h11, h⟩ := bs h
  refine s_seq (Γ1 := [.val ((rNetwork K) network), .val ((rV pI) potentials), .val ((rV pI) rests), .val ((rLV pI) sums), .val ((rL (r3 pI pI pB)) lc10), .any, .any, .any, .any]) (s_asg (e_L (w_lcY (rb := (r3 pI pI pB)) (js := [6, 7]) (vs := [6, 7]) (fun x1 => [.val ((rNetwork K) network), .val ((rV pI) potentials), .val ((rV pI) rests), .val ((rLV pI) sums), .any, .any, .val (pI x1.1), .val ((rNeuron K) x1.2), .any]) _ (i_enum (a_cons (e_fld T.c_Network T.n_Network_neurons nd_Network (i := 1) rfl rfl (e_var rfl)) a_nil)) (sz_ok h12) (fun x1 => (g_tup2 (show (6 : Nat) < 9 by decide) (show (7 : Nat) < 9 by decide))) (by decide) (fun x1 y _ h14 => by obtain ⟨v2, h3, h14⟩ := bs h14; obtain ⟨v4, h5, h14⟩ := bs h14; obtain ⟨v6, h7, h14⟩ := bs h14; obtain ⟨rv8, h9, h14⟩ := bs h14; have h14 := Option.some.inj h14; subst h14; exact (e_call0 (a_cons (e_var rfl) (a_cons (e_ixVM (r := pI) (xs := potentials) (e_var rfl) (e_var rfl) h3) (a_cons (e_ixVM (r := pI) (xs := rests) (e_var rfl) (e_var rfl) h5) (a_cons (e_ixLV (r := pI) (xs := sums) (e_var rfl) (e_var rfl) h7) a_nil)))) ⟨x1.2, v2, v4, v6, rv8, rfl, rfl, h9⟩)) h11)) (show (4 : Nat) < 9 by decide)) ?_
  obtain ⟨z19, h18, h⟩ := bs h
  obtain ⟨lc16, h17, h⟩ := bs h
  refine s_seq (Γ1 := [.val ((rNetwork K) network), .val ((rV pI) potentials), .val ((rV pI) rests), .val ((rLV pI) sums), .val ((rL (r3 pI pI pB)) lc10), .val ((rL pI) lc16), .any, .any, .any]) (s_asg (e_L (w_lc (rb := pI) (js := [6, 8]) (vs := [6, 8]) (fun x15 => [.val ((rNetwork K) network), .val ((rV pI) potentials), .val ((rV pI) rests), .val ((rLV pI) sums), .val ((rL (r3 pI pI pB)) lc10), .any, .val (pI x15.1), .any, .val ((r3 pI pI pB) x15.2)]) _ _ (i_enum (a_cons (e_var rfl) a_nil)) (sz_ok h18) (fun x15 => (g_tup2 (show (6 : Nat) < 9 by decide) (show (8 : Nat) < 9 by decide))) (by decide) (fun x15 b _ h20 => by have h20 := Option.some.inj h20; subst h20; exact (t_B (e_ixT (e_var rfl) e_int (atT 2 rfl)))) (fun x15 y _ _ h20 => by have h20 := Option.some.inj h20; subst h20; exact (e_var rfl)) h17)) (show (5 : Nat) < 9 by decide)) ?_
  obtain ⟨z25, h24, h⟩ := bs h
  obtain ⟨lc22, h23, h⟩ := bs h
  obtain ⟨z31, h30, h⟩ := bs h
  obtain ⟨lc28, h29, h⟩ := bs h
  have h := Option.some.inj h
  subst h
  exact (s_ret (e_to (P' := ((r3 (rV pI) (rV pI) (rL pI)) (lc22, lc28, lc16))) (e_tup (a_cons (e_tupL (r := pI) (xs := lc22) (r_W (w_lcY (rb := pI) (js := [8]) (vs := [8]) (fun x21 => [.val ((rNetwork K) network), .val ((rV pI) potentials), .val ((rV pI) rests), .val ((rLV pI) sums), .val ((rL (r3 pI pI pB)) lc10), .val ((rL pI) lc16), .any, .any, .val ((r3 pI pI pB) x21)]) _ (i_list (e_var rfl)) (sz_ok h24) (fun x21 => (g_name (show (8 : Nat) < 9 by decide))) (by decide) (fun x21 y _ h26 => by have h26 := Option.some.inj h26; subst h26; exact (e_ixT (e_var rfl) e_int (atT 0 rfl))) h23))) (a_cons (e_tupL (r := pI) (xs := lc28) (r_W (w_lcY (rb := pI) (js := [8]) (vs := [8]) (fun x27 => [.val ((rNetwork K) network), .val ((rV pI) potentials), .val ((rV pI) rests), .val ((rLV pI) sums), .val ((rL (r3 pI pI pB)) lc10), .val ((rL pI) lc16), .any, .any, .val ((r3 pI pI pB) x27)]) _ (i_list (e_var rfl)) (sz_ok h30) (fun x27 => (g_name (show (8 : Nat) < 9 by decide))) (by decide) (fun x27 y _ h32 => by have h32 := Option.some.inj h32; subst h32; exact (e_ixT (e_var rfl) e_int (atT 1 rfl))) h29))) (a_cons (e_var rfl) a_nil))) (Nat.le_of_ble_eq_true rfl)) rfl))

def m_state_after (network : Network) (state : ((List Int) × (List Int) × (List (Option Int)) × (List Int) × (List (Option Int)))) (arriving : (List Int)) (tick : Int) : Option (((List Int) × (List Int) × (List (Option Int)) × (List Int) × (List (Option Int))) × (List Int)) :=
  bndv state fun (potentials1, rests2, last_spikes3, weights4, last_arrivals5) =>
  (m_u_incoming_sums network weights4 arriving).bind fun rv8 =>
  (m_u_after_losses network weights4 arriving last_spikes3 tick).bind fun rv10 =>
  (m_u_noted last_arrivals5 arriving tick).bind fun rv12 =>
  (m_after_steps network potentials1 rests2 rv8).bind fun rv14 =>
  bndv rv14 fun (potentials16, rests17, spiking18) =>
  (m_u_after_gains network rv10 spiking18 rv12 tick).bind fun rv21 =>
  (m_u_noted last_spikes3 spiking18 tick).bind fun rv23 =>
  some ((potentials16, rests17, rv23, rv21, rv12), spiking18)
def R_state_after (K : PySem.W.Frag) : List Pr → Pr → Prop := fun Ps Q => ∃ (network : Network) (state : ((List Int) × (List Int) × (List (Option Int)) × (List Int) × (List (Option Int)))) (arriving : (List Int)) (tick : Int) (r : (((List Int) × (List Int) × (List (Option Int)) × (List Int) × (List (Option Int))) × (List Int))), Ps = [((rNetwork K) network), ((r5 (rV pI) (rV pI) (rV (pOpt pI)) (rV pI) (rV (pOpt pI))) state), ((rL pI) arriving), (pI tick)] ∧ Q = ((r2 (r5 (rV pI) (rV pI) (rV (pOpt pI)) (rV pI) (rV (pOpt pI))) (rL pI)) r) ∧ m_state_after network state arriving tick = some r
theorem sc_state_after : FnScope ["network", "state", "arriving", "tick", "potentials", "rests", "last_spikes", "weights", "last_arrivals", "sums", "spiking"] ["network", "state", "arriving", "tick"] (defScope st_state_after) := ⟨rfl, rfl, rfl, by decide +kernel, rfl, by decide +kernel, by decide +kernel⟩
theorem ok_state_after (T : Txt P w K mg base D) : FnOk P w K mg base CX0 24 (He.fAd K ("state_after", none)) D.state_after ["network", "state", "arriving", "tick"] (spR (R_state_after K)) := by
  refine fn_R T.F_state_after sc_state_after (by rintro _ _ ⟨network, state, arriving, tick, _, rfl, rfl, _⟩; rfl) (by decide) fun cdv A outer s H E hr => ⟨_, (pss_cons (ps_asg (pv 1) (pg_tupK (K := K) (n := 5) rfl rfl (pgs_cons (pg_name (i := 4) sc_state_after.nd rfl (.inl rfl)) (pgs_cons (pg_name (i := 5) sc_state_after.nd rfl (.inl rfl)) (pgs_cons (pg_name (i := 6) sc_state_after.nd rfl (.inl rfl)) (pgs_cons (pg_name (i := 7) sc_state_after.nd rfl (.inl rfl)) (pgs_cons (pg_name (i := 8) sc_state_after.nd rfl (.inl rfl)) pgs_nil)))))))
      (pss_cons (ps_set (i := 9) sc_state_after.nd rfl (.inl rfl) (pe_call (ok_u_incoming_sums T) (hr.mono (by decide)) rfl T.g_u_incoming_sums T.F_u_incoming_sums.kp T.b_u_incoming_sums .nil pass0 (pa_cons (pv 0) (pa_cons (pv 7) (pa_cons (pv 2) pa_nil)))))
      (pss_cons (ps_set (i := 7) sc_state_after.nd rfl (.inl rfl) (pe_call (ok_u_after_losses T) (hr.mono (by decide)) rfl T.g_u_after_losses T.F_u_after_losses.kp T.b_u_after_losses .nil pass0 (pa_cons (pv 0) (pa_cons (pv 7) (pa_cons (pv 2) (pa_cons (pv 6) (pa_cons (pv 3) pa_nil)))))))
      (pss_cons (ps_set (i := 8) sc_state_after.nd rfl (.inl rfl) (pe_call (ok_u_noted T) (hr.mono (by decide)) rfl T.g_u_noted T.F_u_noted.kp T.b_u_noted .nil pass0 (pa_cons (pv 8) (pa_cons (pv 2) (pa_cons (pv 3) pa_nil)))))
      (pss_cons (ps_asg (pe_call (ok_after_steps T) (hr.mono (by decide)) rfl T.g_after_steps T.F_after_steps.kp T.b_after_steps .nil pass0 (pa_cons (pv 0) (pa_cons (pv 4) (pa_cons (pv 5) (pa_cons (pv 9) pa_nil))))) (pg_tupK (K := K) (n := 3) rfl rfl (pgs_cons (pg_name (i := 4) sc_state_after.nd rfl (.inl rfl)) (pgs_cons (pg_name (i := 5) sc_state_after.nd rfl (.inl rfl)) (pgs_cons (pg_name (i := 10) sc_state_after.nd rfl (.inl rfl)) pgs_nil)))))
      (pss_cons (ps_set (i := 7) sc_state_after.nd rfl (.inl rfl) (pe_call (ok_u_after_gains T) (hr.mono (by decide)) rfl T.g_u_after_gains T.F_u_after_gains.kp T.b_u_after_gains .nil pass0 (pa_cons (pv 0) (pa_cons (pv 7) (pa_cons (pv 10) (pa_cons (pv 8) (pa_cons (pv 3) pa_nil)))))))
      (pss_cons (ps_set (i := 6) sc_state_after.nd rfl (.inl rfl) (pe_call (ok_u_noted T) (hr.mono (by decide)) rfl T.g_u_noted T.F_u_noted.kp T.b_u_noted .nil pass0 (pa_cons (pv 6) (pa_cons (pv 10) (pa_cons (pv 3) pa_nil)))))
      (pss_one (ps_ret (pe_tup (pa_cons (pe_tup (pa_cons (pv 4) (pa_cons (pv 5) (pa_cons (pv 6) (pa_cons (pv 7) (pa_cons (pv 8) pa_nil)))))) (pa_cons (pv 10) pa_nil)))))))))))), ?_⟩
  rintro _ _ ⟨network, state, arriving, tick, r, rfl, rfl, h⟩
  unfold m_state_after at h
  refine s_from (Γ' := [.val ((rNetwork K) network), .val ((r5 (rV pI) (rV pI) (rV (pOpt pI)) (rV pI) (rV (pOpt pI))) state), .val ((rL pI) arriving), .val (pI tick), .any, .any, .any, .any, .any, .any, .any]) ?_ rfl
  obtain ⟨t6, e7, h⟩ := bndv_some h
  obtain ⟨potentials1, rests2, last_spikes3, weights4, last_arrivals5⟩ := t6
  refine s_seq (Γ1 := [.val ((rNetwork K) network), .val ((r5 (rV pI) (rV pI) (rV (pOpt pI)) (rV pI) (rV (pOpt pI))) state), .val ((rL pI) arriving), .val (pI tick), .val ((rV pI) potentials1), .val ((rV pI) rests2), .val ((rV (pOpt pI)) last_spikes3), .val ((rV pI) weights4), .val ((rV (pOpt pI)) last_arrivals5), .any, .any]) (s_asgT (e_as (r := (r5 (rV pI) (rV pI) (rV (pOpt pI)) (rV pI) (rV (pOpt pI)))) (e_var rfl) e7) (g_tup5 (show (4 : Nat) < 11 by decide) (show (5 : Nat) < 11 by decide) (show (6 : Nat) < 11 by decide) (show (7 : Nat) < 11 by decide) (show (8 : Nat) < 11 by decide))) ?_
  obtain ⟨rv8, h9, h⟩ := bs h
  refine s_seq (Γ1 := [.val ((rNetwork K) network), .val ((r5 (rV pI) (rV pI) (rV (pOpt pI)) (rV pI) (rV (pOpt pI))) state), .val ((rL pI) arriving), .val (pI tick), .val ((rV pI) potentials1), .val ((rV pI) rests2), .val ((rV (pOpt pI)) last_spikes3), .val ((rV pI) weights4), .val ((rV (pOpt pI)) last_arrivals5), .val ((rL pI) rv8), .any]) (s_asg (e_call0 (a_cons (e_var rfl) (a_cons (e_var rfl) (a_cons (e_var rfl) a_nil))) ⟨network, weights4, arriving, rv8, rfl, rfl, h9⟩) (show (9 : Nat) < 11 by decide)) ?_
  obtain ⟨rv10, h11, h⟩ := bs h
  refine s_seq (Γ1 := [.val ((rNetwork K) network), .val ((r5 (rV pI) (rV pI) (rV (pOpt pI)) (rV pI) (rV (pOpt pI))) state), .val ((rL pI) arriving), .val (pI tick), .val ((rV pI) potentials1), .val ((rV pI) rests2), .val ((rV (pOpt pI)) last_spikes3), .val ((rV pI) rv10), .val ((rV (pOpt pI)) last_arrivals5), .val ((rL pI) rv8), .any]) (s_asg (e_call0 (a_cons (e_var rfl) (a_cons (e_var rfl) (a_cons (e_var rfl) (a_cons (e_var rfl) (a_cons (e_var rfl) a_nil))))) ⟨network, weights4, arriving, last_spikes3, tick, rv10, rfl, rfl, h11⟩) (show (7 : Nat) < 11 by decide)) ?_
  obtain ⟨rv12, h13, h⟩ := bs h
  refine s_seq (Γ1 := [.val ((rNetwork K) network), .val ((r5 (rV pI) (rV pI) (rV (pOpt pI)) (rV pI) (rV (pOpt pI))) state), .val ((rL pI) arriving), .val (pI tick), .val ((rV pI) potentials1), .val ((rV pI) rests2), .val ((rV (pOpt pI)) last_spikes3), .val ((rV pI) rv10), .val ((rV (pOpt pI)) rv12), .val ((rL pI) rv8), .any]) (s_asg (e_call0 (a_cons (e_var rfl) (a_cons (e_var rfl) (a_cons (e_var rfl) a_nil))) ⟨last_arrivals5, arriving, tick, rv12, rfl, rfl, h13⟩) (show (8 : Nat) < 11 by decide)) ?_
  obtain ⟨rv14, h15, h⟩ := bs h
  obtain ⟨t19, e20, h⟩ := bndv_some h
  obtain ⟨potentials16, rests17, spiking18⟩ := t19
  refine s_seq (Γ1 := [.val ((rNetwork K) network), .val ((r5 (rV pI) (rV pI) (rV (pOpt pI)) (rV pI) (rV (pOpt pI))) state), .val ((rL pI) arriving), .val (pI tick), .val ((rV pI) potentials16), .val ((rV pI) rests17), .val ((rV (pOpt pI)) last_spikes3), .val ((rV pI) rv10), .val ((rV (pOpt pI)) rv12), .val ((rL pI) rv8), .val ((rL pI) spiking18)]) (s_asgT (e_as (r := (r3 (rV pI) (rV pI) (rL pI))) (e_call0 (a_cons (e_var rfl) (a_cons (e_var rfl) (a_cons (e_var rfl) (a_cons (show EvE _ _ ((rLV pI) rv8) from e_orL (e_var rfl)) a_nil)))) ⟨network, potentials1, rests2, rv8, rv14, rfl, rfl, h15⟩) e20) (g_tup3 (show (4 : Nat) < 11 by decide) (show (5 : Nat) < 11 by decide) (show (10 : Nat) < 11 by decide))) ?_
  obtain ⟨rv21, h22, h⟩ := bs h
  refine s_seq (Γ1 := [.val ((rNetwork K) network), .val ((r5 (rV pI) (rV pI) (rV (pOpt pI)) (rV pI) (rV (pOpt pI))) state), .val ((rL pI) arriving), .val (pI tick), .val ((rV pI) potentials16), .val ((rV pI) rests17), .val ((rV (pOpt pI)) last_spikes3), .val ((rV pI) rv21), .val ((rV (pOpt pI)) rv12), .val ((rL pI) rv8), .val ((rL pI) spiking18)]) (s_asg (e_call0 (a_cons (e_var rfl) (a_cons (e_var rfl) (a_cons (e_var rfl) (a_cons (e_var rfl) (a_cons (e_var rfl) a_nil))))) ⟨network, rv10, spiking18, rv12, tick, rv21, rfl, rfl, h22⟩) (show (7 : Nat) < 11 by decide)) ?_
  obtain ⟨rv23, h24, h⟩ := bs h
  refine s_seq (Γ1 := [.val ((rNetwork K) network), .val ((r5 (rV pI) (rV pI) (rV (pOpt pI)) (rV pI) (rV (pOpt pI))) state), .val ((rL pI) arriving), .val (pI tick), .val ((rV pI) potentials16), .val ((rV pI) rests17), .val ((rV (pOpt pI)) rv23), .val ((rV pI) rv21), .val ((rV (pOpt pI)) rv12), .val ((rL pI) rv8), .val ((rL pI) spiking18)]) (s_asg (e_call0 (a_cons (e_var rfl) (a_cons (e_var rfl) (a_cons (e_var rfl) a_nil))) ⟨last_spikes3, spiking18, tick, rv23, rfl, rfl, h24⟩) (show (6 : Nat) < 11 by decide)) ?_
  have h := Option.some.inj h
  subst h
  exact (s_ret (e_to (P' := ((r2 (r5 (rV pI) (rV pI) (rV (pOpt pI)) (rV pI) (rV (pOpt pI))) (rL pI)) ((potentials16, rests17, rv23, rv21, rv12), spiking18))) (e_tup (a_cons (e_tup (a_cons (e_var rfl) (a_cons (e_var rfl) (a_cons (e_var rfl) (a_cons (e_var rfl) (a_cons (e_var rfl) a_nil))))) (Nat.le_of_ble_eq_true rfl)) (a_cons (e_var rfl) a_nil)) (Nat.le_of_ble_eq_true rfl)) rfl))

def m_u_before_stimulus (network : Network) (effects : (List (List (Int × Int × Int)))) (state : ((List Int) × (List Int) × (List (List Int)))) : Option (((List Int) × (List Int) × (List (List Int))) × (List Int)) :=
  bndv state fun (potentials1, rests2, pending3) =>
  (atI pending3 0).bind fun v6 =>
  (m_after_steps network potentials1 rests2 v6).bind fun rv8 =>
  bndv rv8 fun (potentials10, rests11, spikes12) =>
  (repVM (0 : Int) (network.neurons.length : Int)).bind fun rep15 =>
  (catM (cutP pending3 (some 1) none) ([(rep15)] : (List (List Int)))).bind fun cat17 =>
  bndv (potentials10, rests11, cat17) fun settled19 =>
  (szM spikes12).bind fun z25 =>
  (mapO (fun x21 => (some (network.inputs + x21) : Option Int)) spikes12).bind fun lc22 =>
  (m_u_with_sources effects settled19 lc22).bind fun rv27 =>
  some (rv27, spikes12)
def R_u_before_stimulus (K : PySem.W.Frag) : List Pr → Pr → Prop := fun Ps Q => ∃ (network : Network) (effects : (List (List (Int × Int × Int)))) (state : ((List Int) × (List Int) × (List (List Int)))) (r : (((List Int) × (List Int) × (List (List Int))) × (List Int))), Ps = [((rNetwork K) network), ((rL (rL (r3 pI pI pI))) effects), ((r3 (rV pI) (rV pI) (rV (rV pI))) state)] ∧ Q = ((r2 (r3 (rV pI) (rV pI) (rV (rV pI))) (rL pI)) r) ∧ m_u_before_stimulus network effects state = some r
theorem sc_u_before_stimulus : FnScope ["network", "effects", "state", "potentials", "rests", "pending", "spikes", "zeros", "settled", "n"] ["network", "effects", "state"] (defScope st_u_before_stimulus) := ⟨rfl, rfl, rfl, by decide +kernel, rfl, by decide +kernel, by decide +kernel⟩
theorem ok_u_before_stimulus (T : Txt P w K mg base D) : FnOk P w K mg base CX0 24 (He.fAd K ("_before_stimulus", none)) D.u_before_stimulus ["network", "effects", "state"] (spR (R_u_before_stimulus K)) := by
  refine fn_R T.F_u_before_stimulus sc_u_before_stimulus (by rintro _ _ ⟨network, effects, state, _, rfl, rfl, _⟩; rfl) (by decide) fun cdv A outer s H E hr => ⟨_, (pss_cons (ps_asg (pv 2) (pg_tupK (K := K) (n := 3) rfl rfl (pgs_cons (pg_name (i := 3) sc_u_before_stimulus.nd rfl (.inl rfl)) (pgs_cons (pg_name (i := 4) sc_u_before_stimulus.nd rfl (.inl rfl)) (pgs_cons (pg_name (i := 5) sc_u_before_stimulus.nd rfl (.inl rfl)) pgs_nil)))))
      (pss_cons (ps_asg (pe_call (ok_after_steps T) (hr.mono (by decide)) rfl T.g_after_steps T.F_after_steps.kp T.b_after_steps .nil pass0 (pa_cons (pv 0) (pa_cons (pv 3) (pa_cons (pv 4) (pa_cons (pe_ix (ix_tupK (K := K) rfl) (pv 5) pe_int (fun _ _ => rfl)) pa_nil))))) (pg_tupK (K := K) (n := 3) rfl rfl (pgs_cons (pg_name (i := 3) sc_u_before_stimulus.nd rfl (.inl rfl)) (pgs_cons (pg_name (i := 4) sc_u_before_stimulus.nd rfl (.inl rfl)) (pgs_cons (pg_name (i := 6) sc_u_before_stimulus.nd rfl (.inl rfl)) pgs_nil)))))
      (pss_cons (ps_set (i := 7) sc_u_before_stimulus.nd rfl (.inl rfl) (pe_op (op_repAK (K := K) rfl) (pe_tup (pa_cons pe_int pa_nil)) (pe_callB (len_seqK (K := K) rfl) (by rfl) T.z_len PySem.boot_len (pa_cons (pe_fldK (K := K) rfl (pv 0) rfl) pa_nil))))
      (pss_cons (ps_set (i := 8) sc_u_before_stimulus.nd rfl (.inl rfl) (pe_tup (pa_cons (pv 3) (pa_cons (pv 4) (pa_cons (pe_op (op_catAK (K := K) rfl) (pe_slice (sl_tupAK (K := K) rfl) (pv 5) (po_some pe_int) po_none) (pe_tup (pa_cons (pv 7) pa_nil))) pa_nil)))))
      (pss_one (ps_ret (pe_tup (pa_cons (pe_call (ok_u_with_sources T) (hr.mono (by decide)) rfl T.g_u_with_sources T.F_u_with_sources.kp T.b_u_with_sources .nil pass0 (pa_cons (pv 1) (pa_cons (pv 8) (pa_cons (pe_lc (own := [("n", 9)]) rfl sc_u_before_stimulus.nd (pi_listK (K := K) rfl (pv 6)) (blkOk_by (N := ["network", "effects", "state", "potentials", "rests", "pending", "spikes", "zeros", "settled", "n"]) (sc := defScope st_u_before_stimulus) (by decide +kernel)) (fun _ _ _ _ _ => (pg_name (i := 9) sc_u_before_stimulus.nd rfl (.inl rfl))) (fun _ _ _ _ _ => pts_nil) (fun _ _ _ _ _ => (pe_op op_add (pe_fldK (K := K) rfl (pv 0) rfl) (pv 9)))) pa_nil)))) (pa_cons (pv 6) pa_nil))))))))), ?_⟩
  rintro _ _ ⟨network, effects, state, r, rfl, rfl, h⟩
  unfold m_u_before_stimulus at h
  refine s_from (Γ' := [.val ((rNetwork K) network), .val ((rL (rL (r3 pI pI pI))) effects), .val ((r3 (rV pI) (rV pI) (rV (rV pI))) state), .any, .any, .any, .any, .any, .any, .any]) ?_ rfl
  obtain ⟨t4, e5, h⟩ := bndv_some h
  obtain ⟨potentials1, rests2, pending3⟩ := t4
  refine s_seq (Γ1 := [.val ((rNetwork K) network), .val ((rL (rL (r3 pI pI pI))) effects), .val ((r3 (rV pI) (rV pI) (rV (rV pI))) state), .val ((rV pI) potentials1), .val ((rV pI) rests2), .val ((rV (rV pI)) pending3), .any, .any, .any, .any]) (s_asgT (e_as (r := (r3 (rV pI) (rV pI) (rV (rV pI)))) (e_var rfl) e5) (g_tup3 (show (3 : Nat) < 10 by decide) (show (4 : Nat) < 10 by decide) (show (5 : Nat) < 10 by decide))) ?_
  obtain ⟨v6, h7, h⟩ := bs h
  obtain ⟨rv8, h9, h⟩ := bs h
  obtain ⟨t13, e14, h⟩ := bndv_some h
  obtain ⟨potentials10, rests11, spikes12⟩ := t13
  refine s_seq (Γ1 := [.val ((rNetwork K) network), .val ((rL (rL (r3 pI pI pI))) effects), .val ((r3 (rV pI) (rV pI) (rV (rV pI))) state), .val ((rV pI) potentials10), .val ((rV pI) rests11), .val ((rV (rV pI)) pending3), .val ((rL pI) spikes12), .any, .any, .any]) (s_asgT (e_as (r := (r3 (rV pI) (rV pI) (rL pI))) (e_call0 (a_cons (e_var rfl) (a_cons (e_var rfl) (a_cons (e_var rfl) (a_cons (show EvE _ _ ((rLV pI) v6) from e_orR (e_ixVM (r := (rV pI)) (xs := pending3) (e_var rfl) e_int h7)) a_nil)))) ⟨network, potentials1, rests2, v6, rv8, rfl, rfl, h9⟩) e14) (g_tup3 (show (3 : Nat) < 10 by decide) (show (4 : Nat) < 10 by decide) (show (6 : Nat) < 10 by decide))) ?_
  obtain ⟨rep15, h16, h⟩ := bs h
  refine s_seq (Γ1 := [.val ((rNetwork K) network), .val ((rL (rL (r3 pI pI pI))) effects), .val ((r3 (rV pI) (rV pI) (rV (rV pI))) state), .val ((rV pI) potentials10), .val ((rV pI) rests11), .val ((rV (rV pI)) pending3), .val ((rL pI) spikes12), .val ((rV pI) rep15), .any, .any]) (s_asg (e_repV (r := pI) (x := 0) (e_tup (a_cons e_int a_nil) (Nat.le_of_ble_eq_true rfl)) (e_lenM (r_E (e_fld T.c_Network T.n_Network_neurons nd_Network (i := 1) rfl rfl (e_var rfl)))) h16) (show (7 : Nat) < 10 by decide)) ?_
  obtain ⟨cat17, h18, h⟩ := bs h
  obtain ⟨settled19, e20, h⟩ := bndv_some h
  refine s_seq (Γ1 := [.val ((rNetwork K) network), .val ((rL (rL (r3 pI pI pI))) effects), .val ((r3 (rV pI) (rV pI) (rV (rV pI))) state), .val ((rV pI) potentials10), .val ((rV pI) rests11), .val ((rV (rV pI)) pending3), .val ((rL pI) spikes12), .val ((rV pI) rep15), .val ((r3 (rV pI) (rV pI) (rV (rV pI))) settled19), .any]) (s_asg (e_as (r := (r3 (rV pI) (rV pI) (rV (rV pI)))) (e_tup (a_cons (e_var rfl) (a_cons (e_var rfl) (a_cons (e_catV (r := (rV pI)) (xs := (cutP pending3 (some 1) none)) (ys := ([(rep15)] : (List (List Int)))) (e_slV (r := (rV pI)) (xs := pending3) (e_var rfl) (o_some e_int) o_none) (show EvE _ _ ((rV (rV pI)) ([(rep15)] : (List (List Int)))) from (e_tup (a_cons (e_var rfl) a_nil) (Nat.le_of_ble_eq_true rfl))) h18) a_nil))) (Nat.le_of_ble_eq_true rfl)) e20) (show (8 : Nat) < 10 by decide)) ?_
  obtain ⟨z25, h24, h⟩ := bs h
  obtain ⟨lc22, h23, h⟩ := bs h
  obtain ⟨rv27, h28, h⟩ := bs h
  have h := Option.some.inj h
  subst h
  exact (s_ret (e_to (P' := ((r2 (r3 (rV pI) (rV pI) (rV (rV pI))) (rL pI)) (rv27, spikes12))) (e_tup (a_cons (e_call0 (a_cons (e_var rfl) (a_cons (e_var rfl) (a_cons (e_L (w_lcY (rb := pI) (js := [9]) (vs := [9]) (fun x21 => [.val ((rNetwork K) network), .val ((rL (rL (r3 pI pI pI))) effects), .val ((r3 (rV pI) (rV pI) (rV (rV pI))) state), .val ((rV pI) potentials10), .val ((rV pI) rests11), .val ((rV (rV pI)) pending3), .val ((rL pI) spikes12), .val ((rV pI) rep15), .val ((r3 (rV pI) (rV pI) (rV (rV pI))) settled19), .val (pI x21)]) _ (i_list (e_var rfl)) (sz_ok h24) (fun x21 => (g_name (show (9 : Nat) < 10 by decide))) (by decide) (fun x21 y _ h26 => by have h26 := Option.some.inj h26; subst h26; exact (e_op rr_I0 (e_fld T.c_Network T.n_Network_inputs nd_Network (i := 0) rfl rfl (e_var rfl)) (e_var rfl))) h23)) a_nil))) ⟨effects, settled19, lc22, rv27, rfl, rfl, h28⟩) (a_cons (e_var rfl) a_nil)) (Nat.le_of_ble_eq_true rfl)) rfl))

def m_run (network : Network) (stimuli : (List (List Int))) : Option Run :=
  (m_state_at_start network).bind fun rv1 =>
  bndv ([] : (List (List (L2.Key × Bool)))) fun fired3 =>
  bndv ([] : (List (List Int))) fun spikes5 =>
  (List.foldlM (m := Option) (fun (s_8 : (((List Int) × (List Int) × (List (Option Int)) × (List Int) × (List (Option Int))) × (List (List (L2.Key × Bool))) × (List (List Int)))) (x7 : (Int × (List Int))) => match s_8 with
  | (state9, fired10, spikes11) => (m_u_arriving network fired10 x7.1).bind fun rv12 =>
  (m_state_after network state9 rv12 x7.1).bind fun rv14 =>
  bndv rv14 fun (state16, spiking17) =>
  (m_u_spiking_sources network x7.2 spiking17).bind fun rv20 =>
  (appM fired10 rv20).bind fun fired22 =>
  (appM spikes11 spiking17).bind fun spikes24 =>
  some (state16, fired22, spikes24)) (rv1, fired3, spikes5) (enumI 0 stimuli)).bind fun (state26, fired27, spikes28) =>
  (m_weights_of state26).bind fun rv30 =>
  (m_Run__init spikes28 rv30).bind fun run32 =>
  some run32
def R_run (K : PySem.W.Frag) : List Pr → Ow → Prop := fun Ps W => ∃ (network : Network) (stimuli : (List (List Int))) (r : Run), Ps = [((rNetwork K) network), ((rL (rL pI)) stimuli)] ∧ W = (oRun K r) ∧ m_run network stimuli = some r
theorem sc_run : FnScope ["network", "stimuli", "state", "fired", "spikes", "tick", "stimulus", "spiking"] ["network", "stimuli"] (defScope st_run) := ⟨rfl, rfl, rfl, by decide +kernel, rfl, by decide +kernel, by decide +kernel⟩
theorem ok_run (T : Txt P w K mg base D) : FnOk P w K mg base CX0 25 (He.fAd K ("run", none)) D.run ["network", "stimuli"] (spW (R_run K)) := by
  refine fn_W T.F_run sc_run (by rintro _ _ ⟨network, stimuli, _, rfl, rfl, _⟩; rfl) (by decide) fun cdv A outer s H E hr => ⟨_, (pss_cons (ps_set (i := 2) sc_run.nd rfl (.inl rfl) (pe_call (ok_state_at_start T) (hr.mono (by decide)) rfl T.g_state_at_start T.F_state_at_start.kp T.b_state_at_start .nil pass0 (pa_cons (pv 0) pa_nil)))
      (pss_cons (ps_set (i := 3) sc_run.nd rfl (.inl rfl) (pe_lst pa_nil))
      (pss_cons (ps_set (i := 4) sc_run.nd rfl (.inl rfl) (pe_lst pa_nil))
      (pss_cons (ps_for PassesOwn.never rfl (pi_enum (by rfl) T.z_enumerate (pa_cons (pv 1) pa_nil)) (pg_tupK (K := K) (n := 2) rfl rfl (pgs_cons (pg_name (i := 5) sc_run.nd rfl (.inl rfl)) (pgs_cons (pg_name (i := 6) sc_run.nd rfl (.inl rfl)) pgs_nil))) (pss_cons (ps_asg (pe_call (ok_state_after T) (hr.mono (by decide)) rfl T.g_state_after T.F_state_after.kp T.b_state_after .nil pass0 (pa_cons (pv 0) (pa_cons (pv 2) (pa_cons (pe_call (ok_u_arriving T) (hr.mono (by decide)) rfl T.g_u_arriving T.F_u_arriving.kp T.b_u_arriving .nil pass0 (pa_cons (pv 0) (pa_cons (pv 3) (pa_cons (pv 5) pa_nil)))) (pa_cons (pv 5) pa_nil))))) (pg_tupK (K := K) (n := 2) rfl rfl (pgs_cons (pg_name (i := 2) sc_run.nd rfl (.inl rfl)) (pgs_cons (pg_name (i := 7) sc_run.nd rfl (.inl rfl)) pgs_nil))))
      (pss_cons (ps_expr (pe_bm PySem.F.plainAttrs_list PySem.F.slot_list_append PySem.F.type_list_append mt_append (pv 3) (pa_cons (pe_call (ok_u_spiking_sources T) (hr.mono (by decide)) rfl T.g_u_spiking_sources T.F_u_spiking_sources.kp T.b_u_spiking_sources .nil pass0 (pa_cons (pv 0) (pa_cons (pv 6) (pa_cons (pv 7) pa_nil)))) pa_nil)))
      (pss_one (ps_expr (pe_bm PySem.F.plainAttrs_list PySem.F.slot_list_append PySem.F.type_list_append mt_append (pv 4) (pa_cons (pv 7) pa_nil)))))))
      (pss_one (ps_ret (pe_make T.k_Run (ok_Run__init T) (hr.mono (by decide)) rfl T.g_Run T.b_Run__init .nil pass0 (pa_cons (pv 4) (pa_cons (pe_call (ok_weights_of T) (hr.mono (by decide)) rfl T.g_weights_of T.F_weights_of.kp T.b_weights_of .nil pass0 (pa_cons (pv 2) pa_nil)) pa_nil))))))))), ?_⟩
  rintro _ _ ⟨network, stimuli, r, rfl, rfl, h⟩
  unfold m_run at h
  refine s_from (Γ' := [.val ((rNetwork K) network), .val ((rL (rL pI)) stimuli), .any, .any, .any, .any, .any, .any]) ?_ rfl
  obtain ⟨rv1, h2, h⟩ := bs h
  refine s_seq (Γ1 := [.val ((rNetwork K) network), .val ((rL (rL pI)) stimuli), .val ((r5 (rV pI) (rV pI) (rV (pOpt pI)) (rV pI) (rV (pOpt pI))) rv1), .any, .any, .any, .any, .any]) (s_asg (e_call0 (a_cons (e_var rfl) a_nil) ⟨network, rv1, rfl, rfl, h2⟩) (show (2 : Nat) < 8 by decide)) ?_
  obtain ⟨fired3, e4, h⟩ := bndv_some h
  refine s_seq (Γ1 := [.val ((rNetwork K) network), .val ((rL (rL pI)) stimuli), .val ((r5 (rV pI) (rV pI) (rV (pOpt pI)) (rV pI) (rV (pOpt pI))) rv1), .own (oL (fired3.map (rD pB))), .any, .any, .any, .any]) (s_asgW (w_as (r := (rD pB)) (w_to (r := (rD pB)) (xs := ([] : (List (List (L2.Key × Bool))))) (w_lst a_nil (Nat.le_of_ble_eq_true rfl)) rfl) e4) (show (3 : Nat) < 8 by decide)) ?_
  obtain ⟨spikes5, e6, h⟩ := bndv_some h
  refine s_seq (Γ1 := [.val ((rNetwork K) network), .val ((rL (rL pI)) stimuli), .val ((r5 (rV pI) (rV pI) (rV (pOpt pI)) (rV pI) (rV (pOpt pI))) rv1), .own (oL (fired3.map (rD pB))), .own (oL (spikes5.map (rL pI))), .any, .any, .any]) (s_asgW (w_as (r := (rL pI)) (w_to (r := (rL pI)) (xs := ([] : (List (List Int)))) (w_lst a_nil (Nat.le_of_ble_eq_true rfl)) rfl) e6) (show (4 : Nat) < 8 by decide)) ?_
  obtain ⟨⟨state26, fired27, spikes28⟩, h29, h⟩ := bs h
  refine s_seq (Γ1 := [.val ((rNetwork K) network), .val ((rL (rL pI)) stimuli), .val ((r5 (rV pI) (rV pI) (rV (pOpt pI)) (rV pI) (rV (pOpt pI))) state26), .own (oL (fired27.map (rD pB))), .own (oL (spikes28.map (rL pI))), .any, .any, .any]) (s_forIM (r := (r2 pI (rL pI))) (fun (s_8 : (((List Int) × (List Int) × (List (Option Int)) × (List Int) × (List (Option Int))) × (List (List (L2.Key × Bool))) × (List (List Int)))) => [.val ((rNetwork K) network), .val ((rL (rL pI)) stimuli), .val ((r5 (rV pI) (rV pI) (rV (pOpt pI)) (rV pI) (rV (pOpt pI))) s_8.1), .own (oL (s_8.2.1.map (rD pB))), .own (oL (s_8.2.2.map (rL pI))), .any, .any, .any]) (fun (s_8 : (((List Int) × (List Int) × (List (Option Int)) × (List Int) × (List (Option Int))) × (List (List (L2.Key × Bool))) × (List (List Int)))) (x7 : (Int × (List Int))) => [.val ((rNetwork K) network), .val ((rL (rL pI)) stimuli), .val ((r5 (rV pI) (rV pI) (rV (pOpt pI)) (rV pI) (rV (pOpt pI))) s_8.1), .own (oL (s_8.2.1.map (rD pB))), .own (oL (s_8.2.2.map (rL pI))), .val (pI x7.1), .val ((rL pI) x7.2), .any]) _ (rv1, fired3, spikes5) (i_enum (a_cons (e_var rfl) a_nil)) (fun s_8 x7 => (g_tup2 (show (5 : Nat) < 8 by decide) (show (6 : Nat) < 8 by decide))) (fun s_8 x7 s' _ h => by
        obtain ⟨state9, fired10, spikes11⟩ := s_8
        refine s_from (Γ' := [.val ((rNetwork K) network), .val ((rL (rL pI)) stimuli), .val ((r5 (rV pI) (rV pI) (rV (pOpt pI)) (rV pI) (rV (pOpt pI))) state9), .own (oL (fired10.map (rD pB))), .own (oL (spikes11.map (rL pI))), .val (pI x7.1), .val ((rL pI) x7.2), .any]) ?_ rfl
        obtain ⟨rv12, h13, h⟩ := bs h
        obtain ⟨rv14, h15, h⟩ := bs h
        obtain ⟨t18, e19, h⟩ := bndv_some h
        obtain ⟨state16, spiking17⟩ := t18
        refine s_seq (Γ1 := [.val ((rNetwork K) network), .val ((rL (rL pI)) stimuli), .val ((r5 (rV pI) (rV pI) (rV (pOpt pI)) (rV pI) (rV (pOpt pI))) state16), .own (oL (fired10.map (rD pB))), .own (oL (spikes11.map (rL pI))), .val (pI x7.1), .val ((rL pI) x7.2), .val ((rL pI) spiking17)]) (s_asgT (e_as (r := (r2 (r5 (rV pI) (rV pI) (rV (pOpt pI)) (rV pI) (rV (pOpt pI))) (rL pI))) (e_call0 (a_cons (e_var rfl) (a_cons (e_var rfl) (a_cons (e_L (w_lend (i := 3) rfl frz_L (pureW_L (fun _ => pure_I)) (e_callW0 (a_cons (e_var rfl) (a_cons (e_var rfl) (a_cons (e_var rfl) a_nil))) ⟨network, fired10, x7.1, rv12, rfl, rfl, h13⟩))) (a_cons (e_var rfl) a_nil)))) ⟨network, state9, rv12, x7.1, rv14, rfl, rfl, h15⟩) e19) (g_tup2 (show (2 : Nat) < 8 by decide) (show (7 : Nat) < 8 by decide))) ?_
        obtain ⟨rv20, h21, h⟩ := bs h
        obtain ⟨fired22, h23, h⟩ := bs h
        refine s_seq (Γ1 := [.val ((rNetwork K) network), .val ((rL (rL pI)) stimuli), .val ((r5 (rV pI) (rV pI) (rV (pOpt pI)) (rV pI) (rV (pOpt pI))) state16), .own (oL (fired22.map (rD pB))), .own (oL (spikes11.map (rL pI))), .val (pI x7.1), .val ((rL pI) x7.2), .val ((rL pI) spiking17)]) (s_appM (r := (rD pB)) (a := rv20) (i := 3) rfl (e_call0 (a_cons (e_var rfl) (a_cons (e_var rfl) (a_cons (e_var rfl) a_nil))) ⟨network, x7.2, spiking17, rv20, rfl, rfl, h21⟩) h23) ?_
        obtain ⟨spikes24, h25, h⟩ := bs h
        have h := Option.some.inj h
        subst h
        exact s_ncN (s_to (s_mask [5, 6, 7] (s_at [.val ((rNetwork K) network), .val ((rL (rL pI)) stimuli), .val ((r5 (rV pI) (rV pI) (rV (pOpt pI)) (rV pI) (rV (pOpt pI))) state16), .own (oL (fired22.map (rD pB))), .own (oL (spikes24.map (rL pI))), .val (pI x7.1), .val ((rL pI) x7.2), .val ((rL pI) spiking17)] (s_appM (r := (rL pI)) (a := spiking17) (i := 4) rfl (e_var rfl) h25))) rfl)
      ) h29) ?_
  refine s_frz (i := 4) rfl frz_L (s_from (Γ' := [.val ((rNetwork K) network), .val ((rL (rL pI)) stimuli), .val ((r5 (rV pI) (rV pI) (rV (pOpt pI)) (rV pI) (rV (pOpt pI))) state26), .own (oL (fired27.map (rD pB))), .val ((rL (rL pI)) spikes28), .any, .any, .any]) ?_ rfl)
  obtain ⟨rv30, h31, h⟩ := bs h
  obtain ⟨run32, h33, h⟩ := bs h
  have h := Option.some.inj h
  subst h
  exact (s_retW (W := (oRun K run32)) (e_makeU0 (a_cons (e_var rfl) (a_cons (e_L (e_callW0 (a_cons (e_var rfl) a_nil) ⟨state26, rv30, rfl, rfl, h31⟩)) a_nil)) ⟨spikes28, rv30, run32, rfl, rfl, rfl, rfl, h33⟩))

def m_advance (network : Network) (state : ((List Int) × (List Int) × (List (List Int)))) (stimulus : (List Int)) : Option (((List Int) × (List Int) × (List (List Int))) × (List Int)) :=
  (m_u_effects network).bind fun rv1 =>
  (m_u_before_stimulus network rv1 state).bind fun rv3 =>
  bndv rv3 fun (settled5, spikes6) =>
  (m_u_with_sources rv1 settled5 stimulus).bind fun rv9 =>
  some (rv9, spikes6)
def R_advance (K : PySem.W.Frag) : List Pr → Pr → Prop := fun Ps Q => ∃ (network : Network) (state : ((List Int) × (List Int) × (List (List Int)))) (stimulus : (List Int)) (r : (((List Int) × (List Int) × (List (List Int))) × (List Int))), Ps = [((rNetwork K) network), ((r3 (rV pI) (rV pI) (rV (rV pI))) state), ((rL pI) stimulus)] ∧ Q = ((r2 (r3 (rV pI) (rV pI) (rV (rV pI))) (rL pI)) r) ∧ m_advance network state stimulus = some r
theorem sc_advance : FnScope ["network", "state", "stimulus", "effects", "settled", "spikes"] ["network", "state", "stimulus"] (defScope st_advance) := ⟨rfl, rfl, rfl, by decide +kernel, rfl, by decide +kernel, by decide +kernel⟩
theorem ok_advance (T : Txt P w K mg base D) : FnOk P w K mg base CX0 25 (He.fAd K ("advance", none)) D.advance ["network", "state", "stimulus"] (spR (R_advance K)) := by
  refine fn_R T.F_advance sc_advance (by rintro _ _ ⟨network, state, stimulus, _, rfl, rfl, _⟩; rfl) (by decide) fun cdv A outer s H E hr => ⟨_, (pss_cons (ps_set (i := 3) sc_advance.nd rfl (.inl rfl) (pe_call (ok_u_effects T) (hr.mono (by decide)) rfl T.g_u_effects T.F_u_effects.kp T.b_u_effects .nil pass0 (pa_cons (pv 0) pa_nil)))
      (pss_cons (ps_asg (pe_call (ok_u_before_stimulus T) (hr.mono (by decide)) rfl T.g_u_before_stimulus T.F_u_before_stimulus.kp T.b_u_before_stimulus .nil pass0 (pa_cons (pv 0) (pa_cons (pv 3) (pa_cons (pv 1) pa_nil)))) (pg_tupK (K := K) (n := 2) rfl rfl (pgs_cons (pg_name (i := 4) sc_advance.nd rfl (.inl rfl)) (pgs_cons (pg_name (i := 5) sc_advance.nd rfl (.inl rfl)) pgs_nil))))
      (pss_one (ps_ret (pe_tup (pa_cons (pe_call (ok_u_with_sources T) (hr.mono (by decide)) rfl T.g_u_with_sources T.F_u_with_sources.kp T.b_u_with_sources .nil pass0 (pa_cons (pv 3) (pa_cons (pv 4) (pa_cons (pv 2) pa_nil)))) (pa_cons (pv 5) pa_nil))))))), ?_⟩
  rintro _ _ ⟨network, state, stimulus, r, rfl, rfl, h⟩
  unfold m_advance at h
  refine s_from (Γ' := [.val ((rNetwork K) network), .val ((r3 (rV pI) (rV pI) (rV (rV pI))) state), .val ((rL pI) stimulus), .any, .any, .any]) ?_ rfl
  obtain ⟨rv1, h2, h⟩ := bs h
  refine s_seq (Γ1 := [.val ((rNetwork K) network), .val ((r3 (rV pI) (rV pI) (rV (rV pI))) state), .val ((rL pI) stimulus), .val ((rL (rL (r3 pI pI pI))) rv1), .any, .any]) (s_asg (e_call0 (a_cons (e_var rfl) a_nil) ⟨network, rv1, rfl, rfl, h2⟩) (show (3 : Nat) < 6 by decide)) ?_
  obtain ⟨rv3, h4, h⟩ := bs h
  obtain ⟨t7, e8, h⟩ := bndv_some h
  obtain ⟨settled5, spikes6⟩ := t7
  refine s_seq (Γ1 := [.val ((rNetwork K) network), .val ((r3 (rV pI) (rV pI) (rV (rV pI))) state), .val ((rL pI) stimulus), .val ((rL (rL (r3 pI pI pI))) rv1), .val ((r3 (rV pI) (rV pI) (rV (rV pI))) settled5), .val ((rL pI) spikes6)]) (s_asgT (e_as (r := (r2 (r3 (rV pI) (rV pI) (rV (rV pI))) (rL pI))) (e_call0 (a_cons (e_var rfl) (a_cons (e_var rfl) (a_cons (e_var rfl) a_nil))) ⟨network, rv1, state, rv3, rfl, rfl, h4⟩) e8) (g_tup2 (show (4 : Nat) < 6 by decide) (show (5 : Nat) < 6 by decide))) ?_
  obtain ⟨rv9, h10, h⟩ := bs h
  have h := Option.some.inj h
  subst h
  exact (s_ret (e_to (P' := ((r2 (r3 (rV pI) (rV pI) (rV (rV pI))) (rL pI)) (rv9, spikes6))) (e_tup (a_cons (e_call0 (a_cons (e_var rfl) (a_cons (e_var rfl) (a_cons (e_var rfl) a_nil))) ⟨rv1, settled5, stimulus, rv9, rfl, rfl, h10⟩) (a_cons (e_var rfl) a_nil)) (Nat.le_of_ble_eq_true rfl)) rfl))

def m_law (script : (List Int)) : Option Bool :=
  (m_u_law_network script false).bind fun rv1 =>
  (m_u_law_stimuli script rv1.inputs).bind fun rv3 =>
  (m_run rv1 rv3).bind fun rv5 =>
  bndv rv5.spikes fun spikes7 =>
  (szM rv1.neurons).bind fun z13 =>
  (mapO (fun x9 => (some 0 : Option Int)) rv1.neurons).bind fun lc10 =>
  (m_initial_state rv1).bind fun rv15 =>
  (rngM 15).bind fun rng17 =>
  (szM rng17).bind fun z23 =>
  (mapO (fun x19 => (some lc10 : Option (List Int))) rng17).bind fun lc20 =>
  if (!(decide (rv15 = (lc10, lc10, lc20)))) then some false
  else (m_u_law_claims script rv1).bind fun rv25 =>
  (szM rv25).bind fun z31 =>
  (mapO (fun x27 => (some 0 : Option Int)) rv25).bind fun lc28 =>
  (szM rv25).bind fun z37 =>
  (mapO (fun x33 => (some false : Option Bool)) rv25).bind fun lc34 =>
  (rngM (rv3.length : Int)).bind fun rng39 =>
  (loopM (ρ := Bool) (fun (s_42 : ((List Bool) × (List Int) × ((List Int) × (List Int) × (List (List Int))))) (x41 : Int) => match s_42 with
  | (broken43, watches44, state45) => (atI rv3 x41).bind fun v46 =>
  (m_advance rv1 state45 v46).bind fun rv48 =>
  (if (!true) then some true else (atI spikes7 x41).bind fun v50 => (if (!(decide (rv48.2 = v50))) then some true else (atI rv3 x41).bind fun v52 => (m_advance rv1 state45 v52).bind fun rv54 => some (!(decide (rv54 = rv48)))).bind fun c56 => some c56).bind fun c59 =>
  if c59 then some (Fl.rt false)
  else (rngM (rv25.length : Int)).bind fun rng62 =>
  (loopM (ρ := Bool) (fun (s_65 : ((List Bool) × (List Int))) (x64 : Int) => match s_65 with
  | (broken66, watches67) => (atI rv25 x64).bind fun v68 =>
  (m_u_law_breaks v68 rv3 spikes7 x41).bind fun rv70 =>
  (atI rv25 x64).bind fun v72 =>
  (atI watches67 x64).bind fun v74 =>
  (atI spikes7 x41).bind fun v76 =>
  (m_is_broken v72 v74 v76).bind fun rv78 =>
  (atI broken66 x64).bind fun v80 =>
  if ((!v80) && ((!true) || (!(rv78 == rv70)))) then some (Fl.rt false)
  else (atI broken66 x64).bind fun v82 =>
  (setM broken66 x64 (v82 || rv70)).bind fun broken84 =>
  (atI rv25 x64).bind fun v86 =>
  (atI watches67 x64).bind fun v88 =>
  (atI rv3 x41).bind fun v90 =>
  (atI spikes7 x41).bind fun v92 =>
  (m_next_watch v86 v88 v90 v92).bind fun rv94 =>
  (setM watches67 x64 rv94).bind fun watches96 =>
  (atI rv25 x64).bind fun v98 =>
  (if (!(v98.1 == ("answer" : Str))) then (atI watches96 x64).bind fun v100 => some (!(decide (v100 = 0))) else some false).bind fun c102 =>
  if c102 then some (Fl.rt false)
  else some (Fl.go (broken84, watches96))) (broken43, watches44) rng62).bind fun o108 => match o108 with
  | .inl (broken105, watches106) => bndv rv48.1 fun state110 =>
  some (Fl.go (broken105, watches106, state110))
  | .inr rv109 => some (Fl.rt rv109)) (lc34, lc28, rv15) rng39).bind fun o116 => match o116 with
  | .inl (broken112, watches113, state114) => (m_u_law_cell script 48).bind fun rv118 =>
  (shlM 1 rv1.inputs).bind fun q120 =>
  (modM rv118 q120).bind fun q122 =>
  (m_stimulus_of rv1 q122).bind fun rv124 =>
  (rngM rv1.inputs).bind fun rng126 =>
  (szM rng126).bind fun z136 =>
  (lcM (fun x128 => (shlM 1 x128).bind fun q129 => (fdivM q122 q129).bind fun q131 => some (decide ((q131 % 2) = 1))) (fun x128 => (some x128 : Option Int)) rng126).bind fun lc133 =>
  some (decide (rv124 = lc133))
  | .inr rv117 => some rv117
def R_law (K : PySem.W.Frag) : List Pr → Pr → Prop := fun Ps Q => ∃ (script : (List Int)) (r : Bool), Ps = [((pScr K) script)] ∧ Q = (pB r) ∧ m_law script = some r
theorem sc_law : FnScope ["script", "network", "stimuli", "spikes", "zeros", "state", "claims", "watches", "broken", "t", "found", "k", "due", "told", "number", "n", "claim", "j"] ["script"] (defScope st_law) := ⟨rfl, rfl, rfl, by decide +kernel, rfl, by decide +kernel, by decide +kernel⟩
theorem ok_law (T : Txt P w K mg base D) : FnOk P w K mg base CX0 26 (He.fAd K ("law", none)) D.law ["script"] (spR (R_law K)) := by
  refine fn_R T.F_law sc_law (by rintro _ _ ⟨script, _, rfl, rfl, _⟩; rfl) (by decide) fun cdv A outer s H E hr => ⟨_, (pss_cons (ps_set (i := 1) sc_law.nd rfl (.inl rfl) (pe_call (ok_u_law_network T) (hr.mono (by decide)) rfl T.g_u_law_network T.F_u_law_network.kp T.b_u_law_network .nil pass0 (pa_cons (pv 0) (pa_cons pe_bl pa_nil))))
      (pss_cons (ps_set (i := 2) sc_law.nd rfl (.inl rfl) (pe_call (ok_u_law_stimuli T) (hr.mono (by decide)) rfl T.g_u_law_stimuli T.F_u_law_stimuli.kp T.b_u_law_stimuli .nil pass0 (pa_cons (pv 0) (pa_cons (pe_fldK (K := K) rfl (pv 1) rfl) pa_nil))))
      (pss_cons (ps_set (i := 3) sc_law.nd rfl (.inl rfl) (pe_fldK (K := K) rfl (pe_call (ok_run T) (hr.mono (by decide)) rfl T.g_run T.F_run.kp T.b_run .nil pass0 (pa_cons (pv 1) (pa_cons (pv 2) pa_nil))) rfl))
      (pss_cons (ps_set (i := 4) sc_law.nd rfl (.inr rfl) (pe_callTy (tuple_ofK (K := K) rfl) (by rfl) T.z_tuple (by decide +kernel) (pa_cons (pe_lc (own := [("n", 15)]) rfl sc_law.nd (pi_listK (K := K) rfl (pe_fldK (K := K) rfl (pv 1) rfl)) (blkOk_by (N := ["script", "network", "stimuli", "spikes", "zeros", "state", "claims", "watches", "broken", "t", "found", "k", "due", "told", "number", "n", "claim", "j"]) (sc := defScope st_law) (by decide +kernel)) (fun _ _ _ _ _ => (pg_name (i := 15) sc_law.nd rfl (.inl rfl))) (fun _ _ _ _ _ => pts_nil) (fun _ _ _ _ _ => pe_int)) pa_nil)))
      (pss_cons (ps_set (i := 5) sc_law.nd rfl (.inl rfl) (pe_call (ok_initial_state T) (hr.mono (by decide)) rfl T.g_initial_state T.F_initial_state.kp T.b_initial_state .nil pass0 (pa_cons (pv 1) pa_nil)))
      (pss_cons (ps_if (pt_cmpR (neDK (K := K) rfl hr.units) (pv 5) (pe_tup (pa_cons (pv 4) (pa_cons (pv 4) (pa_cons (pe_callTy (tuple_ofK (K := K) rfl) (by rfl) T.z_tuple (by decide +kernel) (pa_cons (pe_lc (own := [("k", 11)]) rfl sc_law.nd (pi_range1 rfl T.z_range (pa_cons pe_int pa_nil)) (blkOk_by (N := ["script", "network", "stimuli", "spikes", "zeros", "state", "claims", "watches", "broken", "t", "found", "k", "due", "told", "number", "n", "claim", "j"]) (sc := defScope st_law) (by decide +kernel)) (fun _ _ _ _ _ => (pg_name (i := 11) sc_law.nd rfl (.inl rfl))) (fun _ _ _ _ _ => pts_nil) (fun _ _ _ _ _ => (pv 4))) pa_nil)) pa_nil)))) (nomark _)) (pss_one (ps_ret pe_bl)) pss_nil)
      (pss_cons (ps_set (i := 6) sc_law.nd rfl (.inl rfl) (pe_call (ok_u_law_claims T) (hr.mono (by decide)) rfl T.g_u_law_claims T.F_u_law_claims.kp T.b_u_law_claims .nil pass0 (pa_cons (pv 0) (pa_cons (pv 1) pa_nil))))
      (pss_cons (ps_setLc (i := 7) (own := [("claim", 16)]) rfl sc_law.nd rfl rfl (sw_true rfl rfl rfl (by decide +kernel)) (pi_listK (K := K) rfl (pv 6)) (blkOk_by (N := ["script", "network", "stimuli", "spikes", "zeros", "state", "claims", "watches", "broken", "t", "found", "k", "due", "told", "number", "n", "claim", "j"]) (sc := defScope st_law) (by decide +kernel)) (fun _ _ _ _ _ => (pg_name (i := 16) sc_law.nd rfl (.inl rfl))) (fun _ _ _ _ _ => pts_nil) (fun _ _ _ _ _ => pe_int))
      (pss_cons (ps_setLc (i := 8) (own := [("claim", 16)]) rfl sc_law.nd rfl rfl (sw_true rfl rfl rfl (by decide +kernel)) (pi_listK (K := K) rfl (pv 6)) (blkOk_by (N := ["script", "network", "stimuli", "spikes", "zeros", "state", "claims", "watches", "broken", "t", "found", "k", "due", "told", "number", "n", "claim", "j"]) (sc := defScope st_law) (by decide +kernel)) (fun _ _ _ _ _ => (pg_name (i := 16) sc_law.nd rfl (.inl rfl))) (fun _ _ _ _ _ => pts_nil) (fun _ _ _ _ _ => pe_bl))
      (pss_cons (ps_for PassesOwn.never rfl (pi_range1 rfl T.z_range (pa_cons (pe_callB (len_seqK (K := K) rfl) (by rfl) T.z_len PySem.boot_len (pa_cons (pv 2) pa_nil)) pa_nil)) (pg_name (i := 9) sc_law.nd rfl (.inl rfl)) (pss_cons (ps_set (i := 10) sc_law.nd rfl (.inl rfl) (pe_call (ok_advance T) (hr.mono (by decide)) rfl T.g_advance T.F_advance.kp T.b_advance .nil pass0 (pa_cons (pv 1) (pa_cons (pv 5) (pa_cons (pe_callTy (list_ofK (K := K) rfl) (by rfl) T.z_list (by decide +kernel) (pa_cons (pe_ix (ix_listK (K := K) rfl) (pv 2) (pv 9) (fun _ _ => rfl)) pa_nil)) pa_nil)))))
      (pss_cons (ps_if (PW.pt (pw_or (pt_not (pt_val (pe_callB (isiK (K := K) rfl) (by rfl) T.z_isinstance (by decide +kernel) (pa_cons (pv 10) (pa_cons (pe_bltn (v := .ty "tuple") (u := .type "tuple") (by rfl) T.z_tuple rfl rfl) pa_nil))))) (pw_or (pt_cmpR (neDK (K := K) rfl hr.units) (pe_ix (ix_tupK (K := K) rfl) (pv 10) pe_int (fun _ _ => rfl)) (pe_ix (ix_listK (K := K) rfl) (pv 3) (pv 9) (fun _ _ => rfl)) (nomark _)) (pw_or1 (pt_cmpR (neDK (K := K) rfl hr.units) (pe_call (ok_advance T) (hr.mono (by decide)) rfl T.g_advance T.F_advance.kp T.b_advance .nil pass0 (pa_cons (pv 1) (pa_cons (pv 5) (pa_cons (pe_ix (ix_listK (K := K) rfl) (pv 2) (pv 9) (fun _ _ => rfl)) pa_nil)))) (pv 10) (nomark _)))))) (pss_one (ps_ret pe_bl)) pss_nil)
      (pss_cons (ps_for PassesOwn.never rfl (pi_range1 rfl T.z_range (pa_cons (pe_callB (len_seqK (K := K) rfl) (by rfl) T.z_len PySem.boot_len (pa_cons (pv 6) pa_nil)) pa_nil)) (pg_name (i := 11) sc_law.nd rfl (.inl rfl)) (pss_cons (ps_set (i := 12) sc_law.nd rfl (.inl rfl) (pe_call (ok_u_law_breaks T) (hr.mono (by decide)) rfl T.g_u_law_breaks T.F_u_law_breaks.kp T.b_u_law_breaks .nil pass0 (pa_cons (pe_ix (ix_listK (K := K) rfl) (pv 6) (pv 11) (fun _ _ => rfl)) (pa_cons (pv 2) (pa_cons (pv 3) (pa_cons (pv 9) pa_nil))))))
      (pss_cons (ps_set (i := 13) sc_law.nd rfl (.inl rfl) (pe_call (ok_is_broken T) (hr.mono (by decide)) rfl T.g_is_broken T.F_is_broken.kp T.b_is_broken .nil pass0 (pa_cons (pe_ix (ix_listK (K := K) rfl) (pv 6) (pv 11) (fun _ _ => rfl)) (pa_cons (pe_ix (ix_listK (K := K) rfl) (pv 7) (pv 11) (fun _ _ => rfl)) (pa_cons (pe_callTy (list_ofK (K := K) rfl) (by rfl) T.z_list (by decide +kernel) (pa_cons (pe_ix (ix_listK (K := K) rfl) (pv 3) (pv 9) (fun _ _ => rfl)) pa_nil)) pa_nil)))))
      (pss_cons (ps_if (PW.pt (pw_and (pt_not (pt_val (pe_ix (ix_listK (K := K) rfl) (pv 8) (pv 11) (fun _ _ => rfl)))) (pw_and1 (PW.pt (pw_or (pt_not (pt_val (pe_callB (isiK (K := K) rfl) (by rfl) T.z_isinstance (by decide +kernel) (pa_cons (pv 13) (pa_cons (pe_bltn (v := .ty "bool") (u := .type "bool") (by rfl) T.z_bool rfl rfl) pa_nil))))) (pw_or1 (pt_cmpR op_ne (pv 13) (pv 12) (nomark _)))))))) (pss_one (ps_ret pe_bl)) pss_nil)
      (pss_cons (ps_asg (pe_or (pe_ix (ix_listK (K := K) rfl) (pv 8) (pv 11) (fun _ _ => rfl)) (pe_one (pv 12))) (pg_sub (pv 8) (pv 11) set_list))
      (pss_cons (ps_asg (pe_call (ok_next_watch T) (hr.mono (by decide)) rfl T.g_next_watch T.F_next_watch.kp T.b_next_watch .nil pass0 (pa_cons (pe_ix (ix_listK (K := K) rfl) (pv 6) (pv 11) (fun _ _ => rfl)) (pa_cons (pe_ix (ix_listK (K := K) rfl) (pv 7) (pv 11) (fun _ _ => rfl)) (pa_cons (pe_callTy (list_ofK (K := K) rfl) (by rfl) T.z_list (by decide +kernel) (pa_cons (pe_ix (ix_listK (K := K) rfl) (pv 2) (pv 9) (fun _ _ => rfl)) pa_nil)) (pa_cons (pe_callTy (list_ofK (K := K) rfl) (by rfl) T.z_list (by decide +kernel) (pa_cons (pe_ix (ix_listK (K := K) rfl) (pv 3) (pv 9) (fun _ _ => rfl)) pa_nil)) pa_nil))))) (pg_sub (pv 7) (pv 11) set_list))
      (pss_one (ps_if (PW.pt (pw_and (pt_cmpR op_ne (pe_ix (ix_tupK (K := K) rfl) (pe_ix (ix_listK (K := K) rfl) (pv 6) (pv 11) (fun _ _ => rfl)) pe_int (fun _ _ => rfl)) pe_str (nomark _)) (pw_and1 (pt_cmpR op_ne (pe_ix (ix_listK (K := K) rfl) (pv 7) (pv 11) (fun _ _ => rfl)) pe_int (nomark _))))) (pss_one (ps_ret pe_bl)) pss_nil))))))))
      (pss_one (ps_set (i := 5) sc_law.nd rfl (.inl rfl) (pe_ix (ix_tupK (K := K) rfl) (pv 10) pe_int (fun _ _ => rfl))))))))
      (pss_cons (ps_set (i := 14) sc_law.nd rfl (.inr rfl) (pe_op op_mod (pe_call (ok_u_law_cell T) (hr.mono (by decide)) rfl T.g_u_law_cell T.F_u_law_cell.kp T.b_u_law_cell .nil pass0 (pa_cons (pv 0) (pa_cons pe_int pa_nil))) (pe_op op_shl pe_int (pe_fldK (K := K) rfl (pv 1) rfl))))
      (pss_one (ps_ret (pe_cmpR (eqDK (K := K) rfl hr.units) (pe_call (ok_stimulus_of T) (hr.mono (by decide)) rfl T.g_stimulus_of T.F_stimulus_of.kp T.b_stimulus_of .nil pass0 (pa_cons (pv 1) (pa_cons (pv 14) pa_nil))) (pe_lc (own := [("j", 17)]) rfl sc_law.nd (pi_range1 rfl T.z_range (pa_cons (pe_fldK (K := K) rfl (pv 1) rfl) pa_nil)) (blkOk_by (N := ["script", "network", "stimuli", "spikes", "zeros", "state", "claims", "watches", "broken", "t", "found", "k", "due", "told", "number", "n", "claim", "j"]) (sc := defScope st_law) (by decide +kernel)) (fun _ _ _ _ _ => (pg_name (i := 17) sc_law.nd rfl (.inl rfl))) (fun _ _ _ _ _ => (pts_one (pt_cmpR op_eq (pe_op op_mod (pe_op op_fdiv (pv 14) (pe_op op_shl pe_int (pv 17))) pe_int) pe_int (nomark _)))) (fun _ _ _ _ _ => (pv 17))) (nomark _))))))))))))))), ?_⟩
  rintro _ _ ⟨script, r, rfl, rfl, h⟩
  unfold m_law at h
  refine s_from (Γ' := [.val ((pScr K) script), .any, .any, .any, .any, .any, .any, .any, .any, .any, .any, .any, .any, .any, .any, .any, .any, .any]) ?_ rfl
  obtain ⟨rv1, h2, h⟩ := bs h
  refine s_seq (Γ1 := [.val ((pScr K) script), .val ((rNetwork K) rv1), .any, .any, .any, .any, .any, .any, .any, .any, .any, .any, .any, .any, .any, .any, .any, .any]) (s_asg (e_call0 (a_cons (e_var rfl) (a_cons e_bl a_nil)) ⟨script, false, rv1, rfl, rfl, h2⟩) (show (1 : Nat) < 18 by decide)) ?_
  obtain ⟨rv3, h4, h⟩ := bs h
  refine s_seq (Γ1 := [.val ((pScr K) script), .val ((rNetwork K) rv1), .val ((rL (rL pI)) rv3), .any, .any, .any, .any, .any, .any, .any, .any, .any, .any, .any, .any, .any, .any, .any]) (s_asg (e_call0 (a_cons (e_var rfl) (a_cons (e_fld T.c_Network T.n_Network_inputs nd_Network (i := 0) rfl rfl (e_var rfl)) a_nil)) ⟨script, rv1.inputs, rv3, rfl, rfl, h4⟩) (show (2 : Nat) < 18 by decide)) ?_
  obtain ⟨rv5, h6, h⟩ := bs h
  obtain ⟨spikes7, e8, h⟩ := bndv_some h
  refine s_seq (Γ1 := [.val ((pScr K) script), .val ((rNetwork K) rv1), .val ((rL (rL pI)) rv3), .val ((rL (rL pI)) spikes7), .any, .any, .any, .any, .any, .any, .any, .any, .any, .any, .any, .any, .any, .any]) (s_asg (e_as (r := (rL (rL pI))) (e_fld T.c_Run T.n_Run_spikes nd_Run (i := 0) rfl rfl (e_frz (frz_Run K _) (e_callW0 (a_cons (e_var rfl) (a_cons (e_var rfl) a_nil)) ⟨rv1, rv3, rv5, rfl, rfl, h6⟩))) e8) (show (3 : Nat) < 18 by decide)) ?_
  obtain ⟨z13, h12, h⟩ := bs h
  obtain ⟨lc10, h11, h⟩ := bs h
  refine s_seq (Γ1 := [.val ((pScr K) script), .val ((rNetwork K) rv1), .val ((rL (rL pI)) rv3), .val ((rL (rL pI)) spikes7), .val ((rV pI) lc10), .any, .any, .any, .any, .any, .any, .any, .any, .any, .any, .any, .any, .any]) (s_asg (e_tupL (r := pI) (xs := lc10) (r_W (w_lcY (rb := pI) (js := [15]) (vs := [15]) (fun x9 => [.val ((pScr K) script), .val ((rNetwork K) rv1), .val ((rL (rL pI)) rv3), .val ((rL (rL pI)) spikes7), .any, .any, .any, .any, .any, .any, .any, .any, .any, .any, .any, .val ((rNeuron K) x9), .any, .any]) _ (i_list (e_fld T.c_Network T.n_Network_neurons nd_Network (i := 1) rfl rfl (e_var rfl))) (sz_ok h12) (fun x9 => (g_name (show (15 : Nat) < 18 by decide))) (by decide) (fun x9 y _ h14 => by have h14 := Option.some.inj h14; subst h14; exact e_int) h11))) (show (4 : Nat) < 18 by decide)) ?_
  obtain ⟨rv15, h16, h⟩ := bs h
  refine s_seq (Γ1 := [.val ((pScr K) script), .val ((rNetwork K) rv1), .val ((rL (rL pI)) rv3), .val ((rL (rL pI)) spikes7), .val ((rV pI) lc10), .val ((r3 (rV pI) (rV pI) (rV (rV pI))) rv15), .any, .any, .any, .any, .any, .any, .any, .any, .any, .any, .any, .any]) (s_asg (e_call0 (a_cons (e_var rfl) a_nil) ⟨rv1, rv15, rfl, rfl, h16⟩) (show (5 : Nat) < 18 by decide)) ?_
  obtain ⟨rng17, h18, h⟩ := bs h
  obtain ⟨z23, h22, h⟩ := bs h
  obtain ⟨lc20, h21, h⟩ := bs h
  refine s_ifK (b := (!(decide (rv15 = (lc10, lc10, lc20))))) (t_test (e_neEn (en3 (enV enI) (enV enI) (enV (enV enI))) (Nat.le_of_ble_eq_true rfl) (e_var rfl) (e_tup (a_cons (e_var rfl) (a_cons (e_var rfl) (a_cons (e_tupL (r := (rV pI)) (xs := lc20) (r_W (w_lcY (rb := (rV pI)) (js := [11]) (vs := [11]) (fun x19 => [.val ((pScr K) script), .val ((rNetwork K) rv1), .val ((rL (rL pI)) rv3), .val ((rL (rL pI)) spikes7), .val ((rV pI) lc10), .val ((r3 (rV pI) (rV pI) (rV (rV pI))) rv15), .any, .any, .any, .any, .any, .val (pI x19), .any, .any, .any, .any, .any, .any]) _ (i_rngM (a_cons e_int a_nil) h18) (sz_ok h22) (fun x19 => (g_name (show (11 : Nat) < 18 by decide))) (by decide) (fun x19 y _ h24 => by have h24 := Option.some.inj h24; subst h24; exact (e_var rfl)) h21))) a_nil))) (Nat.le_of_ble_eq_true rfl)))) (fun hc => ?_) (fun hc => ?_)
  ·   have h := if_t hc h
      have h := Option.some.inj h
      subst h
      exact s_seqR (s_ret (e_to (P' := (pB false)) e_bl rfl))
  ·   have h := if_f hc h
      refine s_nxK ?_
      obtain ⟨rv25, h26, h⟩ := bs h
      refine s_seq (Γ1 := [.val ((pScr K) script), .val ((rNetwork K) rv1), .val ((rL (rL pI)) rv3), .val ((rL (rL pI)) spikes7), .val ((rV pI) lc10), .val ((r3 (rV pI) (rV pI) (rV (rV pI))) rv15), .val ((rL rSTI) rv25), .any, .any, .any, .any, .any, .any, .any, .any, .any, .any, .any]) (s_asg (e_call0 (a_cons (e_var rfl) (a_cons (e_var rfl) a_nil)) ⟨script, rv1, rv25, rfl, rfl, h26⟩) (show (6 : Nat) < 18 by decide)) ?_
      obtain ⟨z31, h30, h⟩ := bs h
      obtain ⟨lc28, h29, h⟩ := bs h
      refine s_seq (Γ1 := [.val ((pScr K) script), .val ((rNetwork K) rv1), .val ((rL (rL pI)) rv3), .val ((rL (rL pI)) spikes7), .val ((rV pI) lc10), .val ((r3 (rV pI) (rV pI) (rV (rV pI))) rv15), .val ((rL rSTI) rv25), .own (oL (lc28.map pI)), .any, .any, .any, .any, .any, .any, .any, .any, .any, .any]) (s_asgW (w_lcY (rb := pI) (js := [16]) (vs := [16]) (fun x27 => [.val ((pScr K) script), .val ((rNetwork K) rv1), .val ((rL (rL pI)) rv3), .val ((rL (rL pI)) spikes7), .val ((rV pI) lc10), .val ((r3 (rV pI) (rV pI) (rV (rV pI))) rv15), .val ((rL rSTI) rv25), .any, .any, .any, .any, .any, .any, .any, .any, .any, .val (rSTI x27), .any]) _ (i_list (e_var rfl)) (sz_ok h30) (fun x27 => (g_name (show (16 : Nat) < 18 by decide))) (by decide) (fun x27 y _ h32 => by have h32 := Option.some.inj h32; subst h32; exact e_int) h29) (show (7 : Nat) < 18 by decide)) ?_
      obtain ⟨z37, h36, h⟩ := bs h
      obtain ⟨lc34, h35, h⟩ := bs h
      refine s_seq (Γ1 := [.val ((pScr K) script), .val ((rNetwork K) rv1), .val ((rL (rL pI)) rv3), .val ((rL (rL pI)) spikes7), .val ((rV pI) lc10), .val ((r3 (rV pI) (rV pI) (rV (rV pI))) rv15), .val ((rL rSTI) rv25), .own (oL (lc28.map pI)), .own (oL (lc34.map pB)), .any, .any, .any, .any, .any, .any, .any, .any, .any]) (s_asgW (w_lcY (rb := pB) (js := [16]) (vs := [16]) (fun x33 => [.val ((pScr K) script), .val ((rNetwork K) rv1), .val ((rL (rL pI)) rv3), .val ((rL (rL pI)) spikes7), .val ((rV pI) lc10), .val ((r3 (rV pI) (rV pI) (rV (rV pI))) rv15), .val ((rL rSTI) rv25), .own (oL (lc28.map pI)), .any, .any, .any, .any, .any, .any, .any, .any, .val (rSTI x33), .any]) _ (i_list (e_var rfl)) (sz_ok h36) (fun x33 => (g_name (show (16 : Nat) < 18 by decide))) (by decide) (fun x33 y _ h38 => by have h38 := Option.some.inj h38; subst h38; exact e_bl) h35) (show (8 : Nat) < 18 by decide)) ?_
      obtain ⟨rng39, h40, h⟩ := bs h
      obtain ⟨o116, h115, h⟩ := bs h
      refine s_seqL (s_forI (r := pI) (fun (s_42 : ((List Bool) × (List Int) × ((List Int) × (List Int) × (List (List Int))))) => [.val ((pScr K) script), .val ((rNetwork K) rv1), .val ((rL (rL pI)) rv3), .val ((rL (rL pI)) spikes7), .val ((rV pI) lc10), .val ((r3 (rV pI) (rV pI) (rV (rV pI))) s_42.2.2), .val ((rL rSTI) rv25), .own (oL (s_42.2.1.map pI)), .own (oL (s_42.1.map pB)), .any, .any, .any, .any, .any, .any, .any, .any, .any]) (fun (s_42 : ((List Bool) × (List Int) × ((List Int) × (List Int) × (List (List Int))))) (x41 : Int) => [.val ((pScr K) script), .val ((rNetwork K) rv1), .val ((rL (rL pI)) rv3), .val ((rL (rL pI)) spikes7), .val ((rV pI) lc10), .val ((r3 (rV pI) (rV pI) (rV (rV pI))) s_42.2.2), .val ((rL rSTI) rv25), .own (oL (s_42.2.1.map pI)), .own (oL (s_42.1.map pB)), .val (pI x41), .any, .any, .any, .any, .any, .any, .any, .any]) pB _ (lc34, lc28, rv15) (i_rngM (a_cons (e_lenM (r_E (e_var rfl))) a_nil) h40) (fun s_42 x41 => (g_name (show (9 : Nat) < 18 by decide))) (fun s_42 x41 fl _ h => by
            obtain ⟨broken43, watches44, state45⟩ := s_42
            refine s_from (Γ' := [.val ((pScr K) script), .val ((rNetwork K) rv1), .val ((rL (rL pI)) rv3), .val ((rL (rL pI)) spikes7), .val ((rV pI) lc10), .val ((r3 (rV pI) (rV pI) (rV (rV pI))) state45), .val ((rL rSTI) rv25), .own (oL (watches44.map pI)), .own (oL (broken43.map pB)), .val (pI x41), .any, .any, .any, .any, .any, .any, .any, .any]) ?_ rfl
            obtain ⟨v46, h47, h⟩ := bs h
            obtain ⟨rv48, h49, h⟩ := bs h
            refine s_seq (Γ1 := [.val ((pScr K) script), .val ((rNetwork K) rv1), .val ((rL (rL pI)) rv3), .val ((rL (rL pI)) spikes7), .val ((rV pI) lc10), .val ((r3 (rV pI) (rV pI) (rV (rV pI))) state45), .val ((rL rSTI) rv25), .own (oL (watches44.map pI)), .own (oL (broken43.map pB)), .val (pI x41), .val ((r2 (r3 (rV pI) (rV pI) (rV (rV pI))) (rL pI)) rv48), .any, .any, .any, .any, .any, .any, .any]) (s_asg (e_call0 (a_cons (e_var rfl) (a_cons (e_var rfl) (a_cons (e_L (w_list (r_E (e_ixLM (r := (rL pI)) (xs := rv3) (r_E (e_var rfl)) (e_var rfl) h47)))) a_nil))) ⟨rv1, state45, v46, rv48, rfl, rfl, h49⟩) (show (10 : Nat) < 18 by decide)) ?_
            obtain ⟨c59, h60, h⟩ := bs h
            refine s_ifK (b := c59) (t_orM (t_not (t_B (e_isi (e_var rfl) ty_T (.ty _) (kit_ty (r := true) (by decide +kernel))))) (fun b hc h61 => by obtain ⟨v50, h51, h61⟩ := bs h61; obtain ⟨c56, h57, h61⟩ := bs h61; have h61 := Option.some.inj h61; subst h61; exact (t_orM (t_test (e_neEn (enL enI) (Nat.le_of_ble_eq_true rfl) (e_ixT (e_var rfl) e_int (atT 1 rfl)) (e_ixLM (r := (rL pI)) (xs := spikes7) (r_E (e_var rfl)) (e_var rfl) h51))) (fun b hc h58 => by obtain ⟨v52, h53, h58⟩ := bs h58; obtain ⟨rv54, h55, h58⟩ := bs h58; have h58 := Option.some.inj h58; subst h58; exact (t_test (e_neEn (en2 (en3 (enV enI) (enV enI) (enV (enV enI))) (enL enI)) (Nat.le_of_ble_eq_true rfl) (e_call0 (a_cons (e_var rfl) (a_cons (e_var rfl) (a_cons (e_ixLM (r := (rL pI)) (xs := rv3) (r_E (e_var rfl)) (e_var rfl) h53) a_nil))) ⟨rv1, state45, v52, rv54, rfl, rfl, h55⟩) (e_var rfl)))) h57)) h60) (fun hc => ?_) (fun hc => ?_)
            ·   have h := if_t hc h
                have h := Option.some.inj h
                subst h
                exact s_seqR (s_ret (e_to (P' := (pB false)) e_bl rfl))
            ·   have h := if_f hc h
                refine s_nxK ?_
                obtain ⟨rng62, h63, h⟩ := bs h
                obtain ⟨o108, h107, h⟩ := bs h
                refine s_seqL (s_forI (r := pI) (fun (s_65 : ((List Bool) × (List Int))) => [.val ((pScr K) script), .val ((rNetwork K) rv1), .val ((rL (rL pI)) rv3), .val ((rL (rL pI)) spikes7), .val ((rV pI) lc10), .val ((r3 (rV pI) (rV pI) (rV (rV pI))) state45), .val ((rL rSTI) rv25), .own (oL (s_65.2.map pI)), .own (oL (s_65.1.map pB)), .val (pI x41), .val ((r2 (r3 (rV pI) (rV pI) (rV (rV pI))) (rL pI)) rv48), .any, .any, .any, .any, .any, .any, .any]) (fun (s_65 : ((List Bool) × (List Int))) (x64 : Int) => [.val ((pScr K) script), .val ((rNetwork K) rv1), .val ((rL (rL pI)) rv3), .val ((rL (rL pI)) spikes7), .val ((rV pI) lc10), .val ((r3 (rV pI) (rV pI) (rV (rV pI))) state45), .val ((rL rSTI) rv25), .own (oL (s_65.2.map pI)), .own (oL (s_65.1.map pB)), .val (pI x41), .val ((r2 (r3 (rV pI) (rV pI) (rV (rV pI))) (rL pI)) rv48), .val (pI x64), .any, .any, .any, .any, .any, .any]) pB _ (broken43, watches44) (i_rngM (a_cons (e_lenM (r_E (e_var rfl))) a_nil) h63) (fun s_65 x64 => (g_name (show (11 : Nat) < 18 by decide))) (fun s_65 x64 fl _ h => by
                      obtain ⟨broken66, watches67⟩ := s_65
                      refine s_from (Γ' := [.val ((pScr K) script), .val ((rNetwork K) rv1), .val ((rL (rL pI)) rv3), .val ((rL (rL pI)) spikes7), .val ((rV pI) lc10), .val ((r3 (rV pI) (rV pI) (rV (rV pI))) state45), .val ((rL rSTI) rv25), .own (oL (watches67.map pI)), .own (oL (broken66.map pB)), .val (pI x41), .val ((r2 (r3 (rV pI) (rV pI) (rV (rV pI))) (rL pI)) rv48), .val (pI x64), .any, .any, .any, .any, .any, .any]) ?_ rfl
                      obtain ⟨v68, h69, h⟩ := bs h
                      obtain ⟨rv70, h71, h⟩ := bs h
                      refine s_seq (Γ1 := [.val ((pScr K) script), .val ((rNetwork K) rv1), .val ((rL (rL pI)) rv3), .val ((rL (rL pI)) spikes7), .val ((rV pI) lc10), .val ((r3 (rV pI) (rV pI) (rV (rV pI))) state45), .val ((rL rSTI) rv25), .own (oL (watches67.map pI)), .own (oL (broken66.map pB)), .val (pI x41), .val ((r2 (r3 (rV pI) (rV pI) (rV (rV pI))) (rL pI)) rv48), .val (pI x64), .val (pB rv70), .any, .any, .any, .any, .any]) (s_asg (e_call0 (a_cons (e_ixLM (r := rSTI) (xs := rv25) (r_E (e_var rfl)) (e_var rfl) h69) (a_cons (e_var rfl) (a_cons (e_var rfl) (a_cons (e_var rfl) a_nil)))) ⟨v68, rv3, spikes7, x41, rv70, rfl, rfl, h71⟩) (show (12 : Nat) < 18 by decide)) ?_
                      obtain ⟨v72, h73, h⟩ := bs h
                      obtain ⟨v74, h75, h⟩ := bs h
                      obtain ⟨v76, h77, h⟩ := bs h
                      obtain ⟨rv78, h79, h⟩ := bs h
                      refine s_seq (Γ1 := [.val ((pScr K) script), .val ((rNetwork K) rv1), .val ((rL (rL pI)) rv3), .val ((rL (rL pI)) spikes7), .val ((rV pI) lc10), .val ((r3 (rV pI) (rV pI) (rV (rV pI))) state45), .val ((rL rSTI) rv25), .own (oL (watches67.map pI)), .own (oL (broken66.map pB)), .val (pI x41), .val ((r2 (r3 (rV pI) (rV pI) (rV (rV pI))) (rL pI)) rv48), .val (pI x64), .val (pB rv70), .val (pB rv78), .any, .any, .any, .any]) (s_asg (e_call0 (a_cons (e_ixLM (r := rSTI) (xs := rv25) (r_E (e_var rfl)) (e_var rfl) h73) (a_cons (e_ixLM (r := pI) (xs := watches67) (r_O rfl) (e_var rfl) h75) (a_cons (e_L (w_list (r_E (e_ixLM (r := (rL pI)) (xs := spikes7) (r_E (e_var rfl)) (e_var rfl) h77)))) a_nil))) ⟨v72, v74, v76, rv78, rfl, rfl, h79⟩) (show (13 : Nat) < 18 by decide)) ?_
                      obtain ⟨v80, h81, h⟩ := bs h
                      refine s_ifK (b := ((!v80) && ((!true) || (!(rv78 == rv70))))) (t_and (t_not (t_B (e_ixLM (r := pB) (xs := broken66) (r_O rfl) (e_var rfl) h81))) (fun _ => (t_or (t_not (t_B (e_isi (e_var rfl) ty_B (.ty _) (kit_ty (r := true) (by decide +kernel))))) (fun _ => (t_test (e_op rr_neB (e_var rfl) (e_var rfl)))) rfl)) rfl) (fun hc => ?_) (fun hc => ?_)
                      ·   have h := if_t hc h
                          have h := Option.some.inj h
                          subst h
                          exact s_seqR (s_ret (e_to (P' := (pB false)) e_bl rfl))
                      ·   have h := if_f hc h
                          refine s_nxK ?_
                          obtain ⟨v82, h83, h⟩ := bs h
                          obtain ⟨broken84, h85, h⟩ := bs h
                          refine s_seq (Γ1 := [.val ((pScr K) script), .val ((rNetwork K) rv1), .val ((rL (rL pI)) rv3), .val ((rL (rL pI)) spikes7), .val ((rV pI) lc10), .val ((r3 (rV pI) (rV pI) (rV (rV pI))) state45), .val ((rL rSTI) rv25), .own (oL (watches67.map pI)), .own (oL (broken84.map pB)), .val (pI x41), .val ((r2 (r3 (rV pI) (rV pI) (rV (rV pI))) (rL pI)) rv48), .val (pI x64), .val (pB rv70), .val (pB rv78), .any, .any, .any, .any]) (s_setLM (r := pB) (i := 8) rfl (e_or (e_ixLM (r := pB) (xs := broken66) (r_O rfl) (e_var rfl) h83) (fun _ => (e_var rfl)) rfl) (e_var rfl) h85) ?_
                          obtain ⟨v86, h87, h⟩ := bs h
                          obtain ⟨v88, h89, h⟩ := bs h
                          obtain ⟨v90, h91, h⟩ := bs h
                          obtain ⟨v92, h93, h⟩ := bs h
                          obtain ⟨rv94, h95, h⟩ := bs h
                          obtain ⟨watches96, h97, h⟩ := bs h
                          refine s_seq (Γ1 := [.val ((pScr K) script), .val ((rNetwork K) rv1), .val ((rL (rL pI)) rv3), .val ((rL (rL pI)) spikes7), .val ((rV pI) lc10), .val ((r3 (rV pI) (rV pI) (rV (rV pI))) state45), .val ((rL rSTI) rv25), .own (oL (watches96.map pI)), .own (oL (broken84.map pB)), .val (pI x41), .val ((r2 (r3 (rV pI) (rV pI) (rV (rV pI))) (rL pI)) rv48), .val (pI x64), .val (pB rv70), .val (pB rv78), .any, .any, .any, .any]) (s_setLM (r := pI) (i := 7) rfl (e_call0 (a_cons (e_ixLM (r := rSTI) (xs := rv25) (r_E (e_var rfl)) (e_var rfl) h87) (a_cons (e_ixLM (r := pI) (xs := watches67) (r_O rfl) (e_var rfl) h89) (a_cons (e_L (w_list (r_E (e_ixLM (r := (rL pI)) (xs := rv3) (r_E (e_var rfl)) (e_var rfl) h91)))) (a_cons (e_L (w_list (r_E (e_ixLM (r := (rL pI)) (xs := spikes7) (r_E (e_var rfl)) (e_var rfl) h93)))) a_nil)))) ⟨v86, v88, v90, v92, rv94, rfl, rfl, h95⟩) (e_var rfl) h97) ?_
                          obtain ⟨v98, h99, h⟩ := bs h
                          obtain ⟨c102, h103, h⟩ := bs h
                          refine s_if (b := c102) (t_andM (t_test (e_op rr_neS (e_ixT (P := pS v98.1) (e_ixLM (r := rSTI) (xs := rv25) (r_E (e_var rfl)) (e_var rfl) h99) e_int (atT 0 rfl)) e_str)) (fun b hc h104 => by obtain ⟨v100, h101, h104⟩ := bs h104; have h104 := Option.some.inj h104; subst h104; exact (t_test (e_op rr_neI (e_ixLM (r := pI) (xs := watches96) (r_O rfl) (e_var rfl) h101) e_int))) h103) (fun hc => ?_) (fun hc => ?_)
                          ·   have h := if_t hc h
                              have h := Option.some.inj h
                              subst h
                              exact (s_ret (e_to (P' := (pB false)) e_bl rfl))
                          ·   have h := if_f hc h
                              have h := Option.some.inj h
                              subst h
                              exact s_ncN (s_to (s_mask [11, 12, 13] s_nx) rfl)
                    ) h107) (fun s_65 ho => ?_) (fun rv109 ho => ?_)
                ·   subst ho
                    obtain ⟨broken105, watches106⟩ := s_65
                    refine s_from (Γ' := [.val ((pScr K) script), .val ((rNetwork K) rv1), .val ((rL (rL pI)) rv3), .val ((rL (rL pI)) spikes7), .val ((rV pI) lc10), .val ((r3 (rV pI) (rV pI) (rV (rV pI))) state45), .val ((rL rSTI) rv25), .own (oL (watches106.map pI)), .own (oL (broken105.map pB)), .val (pI x41), .val ((r2 (r3 (rV pI) (rV pI) (rV (rV pI))) (rL pI)) rv48), .any, .any, .any, .any, .any, .any, .any]) ?_ rfl
                    obtain ⟨state110, e111, h⟩ := bndv_some h
                    have h := Option.some.inj h
                    subst h
                    exact s_ncN (s_to (s_mask [9, 10] (s_at [.val ((pScr K) script), .val ((rNetwork K) rv1), .val ((rL (rL pI)) rv3), .val ((rL (rL pI)) spikes7), .val ((rV pI) lc10), .val ((r3 (rV pI) (rV pI) (rV (rV pI))) state110), .val ((rL rSTI) rv25), .own (oL (watches106.map pI)), .own (oL (broken105.map pB)), .val (pI x41), .val ((r2 (r3 (rV pI) (rV pI) (rV (rV pI))) (rL pI)) rv48), .any, .any, .any, .any, .any, .any, .any] (s_asg (e_as (r := (r3 (rV pI) (rV pI) (rV (rV pI)))) (e_ixT (e_var rfl) e_int (atT 0 rfl)) e111) (show (5 : Nat) < 18 by decide)))) rfl)
                ·   subst ho
                    cases h
                    rfl
          ) h115) (fun s_42 ho => ?_) (fun rv117 ho => ?_)
      ·   subst ho
          obtain ⟨broken112, watches113, state114⟩ := s_42
          refine s_from (Γ' := [.val ((pScr K) script), .val ((rNetwork K) rv1), .val ((rL (rL pI)) rv3), .val ((rL (rL pI)) spikes7), .val ((rV pI) lc10), .val ((r3 (rV pI) (rV pI) (rV (rV pI))) state114), .val ((rL rSTI) rv25), .own (oL (watches113.map pI)), .own (oL (broken112.map pB)), .any, .any, .any, .any, .any, .any, .any, .any, .any]) ?_ rfl
          obtain ⟨rv118, h119, h⟩ := bs h
          obtain ⟨q120, h121, h⟩ := bs h
          obtain ⟨q122, h123, h⟩ := bs h
          refine s_seq (Γ1 := [.val ((pScr K) script), .val ((rNetwork K) rv1), .val ((rL (rL pI)) rv3), .val ((rL (rL pI)) spikes7), .val ((rV pI) lc10), .val ((r3 (rV pI) (rV pI) (rV (rV pI))) state114), .val ((rL rSTI) rv25), .own (oL (watches113.map pI)), .own (oL (broken112.map pB)), .any, .any, .any, .any, .any, .val (pI q122), .any, .any, .any]) (s_asg (e_op (rr_modM h123) (e_call0 (a_cons (e_var rfl) (a_cons e_int a_nil)) ⟨script, 48, rv118, rfl, rfl, h119⟩) (e_op (rr_shlM h121) e_int (e_fld T.c_Network T.n_Network_inputs nd_Network (i := 0) rfl rfl (e_var rfl)))) (show (14 : Nat) < 18 by decide)) ?_
          obtain ⟨rv124, h125, h⟩ := bs h
          obtain ⟨rng126, h127, h⟩ := bs h
          obtain ⟨z136, h135, h⟩ := bs h
          obtain ⟨lc133, h134, h⟩ := bs h
          have h := Option.some.inj h
          subst h
          exact (s_ret (e_to (P' := (pB (decide (rv124 = lc133)))) (e_eqEn (enL enI) (Nat.le_of_ble_eq_true rfl) (e_call0 (a_cons (e_var rfl) (a_cons (e_var rfl) a_nil)) ⟨rv1, q122, rv124, rfl, rfl, h125⟩) (e_L (w_lc (rb := pI) (js := [17]) (vs := [17]) (fun x128 => [.val ((pScr K) script), .val ((rNetwork K) rv1), .val ((rL (rL pI)) rv3), .val ((rL (rL pI)) spikes7), .val ((rV pI) lc10), .val ((r3 (rV pI) (rV pI) (rV (rV pI))) state114), .val ((rL rSTI) rv25), .own (oL (watches113.map pI)), .own (oL (broken112.map pB)), .any, .any, .any, .any, .any, .val (pI q122), .any, .any, .val (pI x128)]) _ _ (i_rngM (a_cons (e_fld T.c_Network T.n_Network_inputs nd_Network (i := 0) rfl rfl (e_var rfl)) a_nil) h127) (sz_ok h135) (fun x128 => (g_name (show (17 : Nat) < 18 by decide))) (by decide) (fun x128 b _ h137 => by obtain ⟨q129, h130, h137⟩ := bs h137; obtain ⟨q131, h132, h137⟩ := bs h137; have h137 := Option.some.inj h137; subst h137; exact (t_test (e_op rr_eqI (e_op (rr_I (by decide)) (e_op (rr_fdivM h132) (e_var rfl) (e_op (rr_shlM h130) e_int (e_var rfl))) e_int) e_int))) (fun x128 y _ _ h137 => by have h137 := Option.some.inj h137; subst h137; exact (e_var rfl)) h134))) rfl))
      ·   subst ho
          cases h
          rfl

end
def d_Neuron__init : He.DefD := ⟨("Neuron", some "__init__"), "__init__", "Neuron.__init__", defArgs st_Neuron__init, defBody st_Neuron__init, defScope st_Neuron__init, [], [("leak", .int 0), ("refractory", .int 0), ("floor", .int 0), ("subtract", .bl false)]⟩
def d_Neuron__eq : He.DefD := ⟨("Neuron", some "__eq__"), "__eq__", "Neuron.__eq__", defArgs st_Neuron__eq, defBody st_Neuron__eq, defScope st_Neuron__eq, [], []⟩
def d_u_left_after_spike : He.DefD := ⟨("_left_after_spike", none), "_left_after_spike", "_left_after_spike", defArgs st_u_left_after_spike, defBody st_u_left_after_spike, defScope st_u_left_after_spike, [], []⟩
def d_Synapse__init : He.DefD := ⟨("Synapse", some "__init__"), "__init__", "Synapse.__init__", defArgs st_Synapse__init, defBody st_Synapse__init, defScope st_Synapse__init, [.bl false], []⟩
def d_Rule__init : He.DefD := ⟨("Rule", some "__init__"), "__init__", "Rule.__init__", defArgs st_Rule__init, defBody st_Rule__init, defScope st_Rule__init, [], []⟩
def d_Network__init : He.DefD := ⟨("Network", some "__init__"), "__init__", "Network.__init__", defArgs st_Network__init, defBody st_Network__init, defScope st_Network__init, [.non], []⟩
def d_Network_sources : He.DefD := ⟨("Network", some "sources"), "sources", "Network.sources", defArgs st_Network_sources, defBody st_Network_sources, defScope st_Network_sources, [], []⟩
def d_Run__init : He.DefD := ⟨("Run", some "__init__"), "__init__", "Run.__init__", defArgs st_Run__init, defBody st_Run__init, defScope st_Run__init, [], []⟩
def d_depressed : He.DefD := ⟨("depressed", none), "depressed", "depressed", defArgs st_depressed, defBody st_depressed, defScope st_depressed, [], []⟩
def d_potentiated : He.DefD := ⟨("potentiated", none), "potentiated", "potentiated", defArgs st_potentiated, defBody st_potentiated, defScope st_potentiated, [], []⟩
def d_state_at_start : He.DefD := ⟨("state_at_start", none), "state_at_start", "state_at_start", defArgs st_state_at_start, defBody st_state_at_start, defScope st_state_at_start, [], []⟩
def d_weights_of : He.DefD := ⟨("weights_of", none), "weights_of", "weights_of", defArgs st_weights_of, defBody st_weights_of, defScope st_weights_of, [], []⟩
def d_u_incoming_sums : He.DefD := ⟨("_incoming_sums", none), "_incoming_sums", "_incoming_sums", defArgs st_u_incoming_sums, defBody st_u_incoming_sums, defScope st_u_incoming_sums, [], []⟩
def d_u_is_recent : He.DefD := ⟨("_is_recent", none), "_is_recent", "_is_recent", defArgs st_u_is_recent, defBody st_u_is_recent, defScope st_u_is_recent, [], []⟩
def d_u_noted : He.DefD := ⟨("_noted", none), "_noted", "_noted", defArgs st_u_noted, defBody st_u_noted, defScope st_u_noted, [], []⟩
def d_u_spiking_sources : He.DefD := ⟨("_spiking_sources", none), "_spiking_sources", "_spiking_sources", defArgs st_u_spiking_sources, defBody st_u_spiking_sources, defScope st_u_spiking_sources, [], []⟩
def d_initial_state : He.DefD := ⟨("initial_state", none), "initial_state", "initial_state", defArgs st_initial_state, defBody st_initial_state, defScope st_initial_state, [], []⟩
def d_u_law_cell : He.DefD := ⟨("_law_cell", none), "_law_cell", "_law_cell", defArgs st_u_law_cell, defBody st_u_law_cell, defScope st_u_law_cell, [], []⟩
def d_u_after_losses : He.DefD := ⟨("_after_losses", none), "_after_losses", "_after_losses", defArgs st_u_after_losses, defBody st_u_after_losses, defScope st_u_after_losses, [], []⟩
def d_u_effects : He.DefD := ⟨("_effects", none), "_effects", "_effects", defArgs st_u_effects, defBody st_u_effects, defScope st_u_effects, [], []⟩
def d_u_law_claims : He.DefD := ⟨("_law_claims", none), "_law_claims", "_law_claims", defArgs st_u_law_claims, defBody st_u_law_claims, defScope st_u_law_claims, [], []⟩
def d_Synapse__eq : He.DefD := ⟨("Synapse", some "__eq__"), "__eq__", "Synapse.__eq__", defArgs st_Synapse__eq, defBody st_Synapse__eq, defScope st_Synapse__eq, [], []⟩
def d_Rule__eq : He.DefD := ⟨("Rule", some "__eq__"), "__eq__", "Rule.__eq__", defArgs st_Rule__eq, defBody st_Rule__eq, defScope st_Rule__eq, [], []⟩
def d_Network__eq : He.DefD := ⟨("Network", some "__eq__"), "__eq__", "Network.__eq__", defArgs st_Network__eq, defBody st_Network__eq, defScope st_Network__eq, [], []⟩
def d_Run__eq : He.DefD := ⟨("Run", some "__eq__"), "__eq__", "Run.__eq__", defArgs st_Run__eq, defBody st_Run__eq, defScope st_Run__eq, [], []⟩
def d_u_leaked : He.DefD := ⟨("_leaked", none), "_leaked", "_leaked", defArgs st_u_leaked, defBody st_u_leaked, defScope st_u_leaked, [], []⟩
def d_u_has_fired : He.DefD := ⟨("_has_fired", none), "_has_fired", "_has_fired", defArgs st_u_has_fired, defBody st_u_has_fired, defScope st_u_has_fired, [], []⟩
def d_u_after_gains : He.DefD := ⟨("_after_gains", none), "_after_gains", "_after_gains", defArgs st_u_after_gains, defBody st_u_after_gains, defScope st_u_after_gains, [], []⟩
def d_stimulus_of : He.DefD := ⟨("stimulus_of", none), "stimulus_of", "stimulus_of", defArgs st_stimulus_of, defBody st_stimulus_of, defScope st_stimulus_of, [], []⟩
def d_next_watch : He.DefD := ⟨("next_watch", none), "next_watch", "next_watch", defArgs st_next_watch, defBody st_next_watch, defScope st_next_watch, [], []⟩
def d_is_broken : He.DefD := ⟨("is_broken", none), "is_broken", "is_broken", defArgs st_is_broken, defBody st_is_broken, defScope st_is_broken, [], []⟩
def d_u_with_sources : He.DefD := ⟨("_with_sources", none), "_with_sources", "_with_sources", defArgs st_u_with_sources, defBody st_u_with_sources, defScope st_u_with_sources, [], []⟩
def d_u_law_neuron : He.DefD := ⟨("_law_neuron", none), "_law_neuron", "_law_neuron", defArgs st_u_law_neuron, defBody st_u_law_neuron, defScope st_u_law_neuron, [], []⟩
def d_u_law_synapse : He.DefD := ⟨("_law_synapse", none), "_law_synapse", "_law_synapse", defArgs st_u_law_synapse, defBody st_u_law_synapse, defScope st_u_law_synapse, [], []⟩
def d_u_law_stimuli : He.DefD := ⟨("_law_stimuli", none), "_law_stimuli", "_law_stimuli", defArgs st_u_law_stimuli, defBody st_u_law_stimuli, defScope st_u_law_stimuli, [], []⟩
def d_u_law_breaks : He.DefD := ⟨("_law_breaks", none), "_law_breaks", "_law_breaks", defArgs st_u_law_breaks, defBody st_u_law_breaks, defScope st_u_law_breaks, [], []⟩
def d_step : He.DefD := ⟨("step", none), "step", "step", defArgs st_step, defBody st_step, defScope st_step, [], []⟩
def d_u_arriving : He.DefD := ⟨("_arriving", none), "_arriving", "_arriving", defArgs st_u_arriving, defBody st_u_arriving, defScope st_u_arriving, [], []⟩
def d_u_law_network : He.DefD := ⟨("_law_network", none), "_law_network", "_law_network", defArgs st_u_law_network, defBody st_u_law_network, defScope st_u_law_network, [], []⟩
def d_after_steps : He.DefD := ⟨("after_steps", none), "after_steps", "after_steps", defArgs st_after_steps, defBody st_after_steps, defScope st_after_steps, [], []⟩
def d_state_after : He.DefD := ⟨("state_after", none), "state_after", "state_after", defArgs st_state_after, defBody st_state_after, defScope st_state_after, [], []⟩
def d_u_before_stimulus : He.DefD := ⟨("_before_stimulus", none), "_before_stimulus", "_before_stimulus", defArgs st_u_before_stimulus, defBody st_u_before_stimulus, defScope st_u_before_stimulus, [], []⟩
def d_run : He.DefD := ⟨("run", none), "run", "run", defArgs st_run, defBody st_run, defScope st_run, [], []⟩
def d_advance : He.DefD := ⟨("advance", none), "advance", "advance", defArgs st_advance, defBody st_advance, defScope st_advance, [], []⟩
def d_law : He.DefD := ⟨("law", none), "law", "law", defArgs st_law, defBody st_law, defScope st_law, [], []⟩
def fn : List He.DefD := [d_Neuron__init, d_Neuron__eq, d_u_left_after_spike, d_Synapse__init, d_Rule__init, d_Network__init, d_Network_sources, d_Run__init, d_depressed, d_potentiated, d_state_at_start, d_weights_of, d_u_incoming_sums, d_u_is_recent, d_u_noted, d_u_spiking_sources, d_initial_state, d_u_law_cell, d_u_after_losses, d_u_effects, d_u_law_claims, d_Synapse__eq, d_Rule__eq, d_Network__eq, d_Run__eq, d_u_leaked, d_u_has_fired, d_u_after_gains, d_stimulus_of, d_next_watch, d_is_broken, d_u_with_sources, d_u_law_neuron, d_u_law_synapse, d_u_law_stimuli, d_u_law_breaks, d_step, d_u_arriving, d_u_law_network, d_after_steps, d_state_after, d_u_before_stimulus, d_run, d_advance, d_law]
def fa : List He.Fa := [.meth "Neuron" "__eq__", .glo "_left_after_spike", .meth "Network" "sources", .glo "depressed", .glo "potentiated", .glo "state_at_start", .glo "weights_of", .glo "_incoming_sums", .glo "_is_recent", .glo "_noted", .glo "_spiking_sources", .glo "initial_state", .glo "_law_cell", .glo "_after_losses", .glo "_effects", .glo "_law_claims", .meth "Synapse" "__eq__", .meth "Rule" "__eq__", .meth "Network" "__eq__", .meth "Run" "__eq__", .glo "_leaked", .glo "_has_fired", .glo "_after_gains", .glo "stimulus_of", .glo "next_watch", .glo "is_broken", .glo "_with_sources", .glo "_law_neuron", .glo "_law_synapse", .glo "_law_stimuli", .glo "_law_breaks", .glo "step", .glo "_arriving", .glo "_law_network", .glo "after_steps", .glo "state_after", .glo "_before_stimulus", .glo "run", .glo "advance", .glo "law", .glo "Neuron", .cls "Neuron", .noat "Neuron" "threshold", .noat "Neuron" "leak", .noat "Neuron" "refractory", .noat "Neuron" "floor", .noat "Neuron" "subtract", .mkr "Neuron", .glo "Synapse", .cls "Synapse", .noat "Synapse" "source", .noat "Synapse" "target", .noat "Synapse" "weight", .noat "Synapse" "delay", .noat "Synapse" "plastic", .mkr "Synapse", .glo "Rule", .cls "Rule", .noat "Rule" "gain", .noat "Rule" "loss", .noat "Rule" "window", .noat "Rule" "least", .noat "Rule" "most", .mkr "Rule", .glo "Network", .cls "Network", .noat "Network" "inputs", .noat "Network" "neurons", .noat "Network" "synapses", .noat "Network" "rule", .mkr "Network", .glo "Run", .cls "Run", .noat "Run" "spikes", .noat "Run" "weights", .mkr "Run", .int "TICKS_AHEAD" 15, .free "bool", .free "enumerate", .free "int", .free "isinstance", .free "len", .free "list", .free "max", .free "min", .free "range", .free "tuple"]
def ex (K : PySem.W.Frag) : Bool := decide (PySem.W.findIn K (.ref (He.ga K "Neuron")) "__class__" = some (some (.builtin "object.__class__"))) && (decide (PySem.W.specialIn K (.builtin "object.__class__") "__get__" = some (some (.builtin "getset_descriptor.__get__"))) && (decide (PySem.W.takesIn K (.builtin "object.__class__") = some true) && (decide (PySem.W.mroIn K (He.ga K "Neuron") (.type "object") = some true) && (decide (PySem.W.findIn K (.ref (He.ga K "Synapse")) "__class__" = some (some (.builtin "object.__class__"))) && (decide (PySem.W.mroIn K (He.ga K "Synapse") (.type "object") = some true) && (decide (PySem.W.findIn K (.ref (He.ga K "Rule")) "__class__" = some (some (.builtin "object.__class__"))) && (decide (PySem.W.mroIn K (He.ga K "Rule") (.type "object") = some true) && (decide (PySem.W.findIn K (.ref (He.ga K "Network")) "__class__" = some (some (.builtin "object.__class__"))) && (decide (PySem.W.mroIn K (He.ga K "Network") (.type "object") = some true) && (decide (PySem.W.findIn K (.ref (He.ga K "Run")) "__class__" = some (some (.builtin "object.__class__"))) && (decide (PySem.W.mroIn K (He.ga K "Run") (.type "object") = some true) && (decide (PySem.W.kitOne K (.ref (He.ga K "Neuron")) (.ref (He.ga K "Neuron")) = some true) && (decide (PySem.W.kitOne K (.ref (He.ga K "Synapse")) (.ref (He.ga K "Synapse")) = some true) && (decide (PySem.W.kitOne K (.ref (He.ga K "Rule")) (.ref (He.ga K "Rule")) = some true) && (decide (PySem.W.kitOne K (.ref (He.ga K "Network")) (.ref (He.ga K "Network")) = some true) && (decide (PySem.W.kitOne K (.ref (He.ga K "Run")) (.ref (He.ga K "Run")) = some true) && (true)))))))))))))))))
abbrev R : PySem.W.OpenRow := PySem.W.OpenLaw.row PySem.Challenge.rw_spikehold_k18_states_of_a_network
abbrev hk : PySem.W.Hook := He.hookX 5 fa fn [] [] ex
def ob (s : PySem.W.SharedT) : He.AlX := He.obsX 5 fa fn [] [] ex (HandSHeadRun.getT s)
theorem ob_eq (s : PySem.W.SharedT) : ob s = hk.obs s.abs := He.obsX_eq (HandSHeadRun.getT_eq s)
theorem run (w : World) : HandSHeadRun.RunEq R (PySem.W.view R.prog [43]) hk ob 12000 (("Neuron" : Str) :: ("step" : Str) :: ("_leaked" : Str) :: ("_left_after_spike" : Str) :: ("Synapse" : Str) :: ("Rule" : Str) :: ("Network" : Str) :: ("Run" : Str) :: ("depressed" : Str) :: ("potentiated" : Str) :: ("run" : Str) :: ("state_at_start" : Str) :: ("state_after" : Str) :: ("after_steps" : Str) :: ("weights_of" : Str) :: ("_arriving" : Str) :: ("_has_fired" : Str) :: ("_incoming_sums" : Str) :: ("_after_losses" : Str) :: ("_after_gains" : Str) :: ("_is_recent" : Str) :: ("_noted" : Str) :: ("_spiking_sources" : Str) :: ("initial_state" : Str) :: ("advance" : Str) :: ("stimulus_of" : Str) :: ("next_watch" : Str) :: ("is_broken" : Str) :: ("_effects" : Str) :: ("_before_stimulus" : Str) :: ("_with_sources" : Str) :: ("_law_cell" : Str) :: ("_law_neuron" : Str) :: ("_law_synapse" : Str) :: ("_law_network" : Str) :: ("_law_stimuli" : Str) :: ("_law_breaks" : Str) :: ("_law_claims" : Str) :: ("TICKS_AHEAD" : Str) :: []) w := by
  intro os
  kernel_rfl
theorem facts {P : Program} {w : World} {K : PySem.W.Frag} {h : Heap} {mg : Str → Option Value} {f : Addr} (X : K.In h) (G : h.Ns mainGlobals mg) (hfa : mg ("law" : Str) = some (.ref f)) (c : He.SaysX fa fn [] [] ex w h K) :
    ∃ fd : FuncData, (∀ (s : Shared) (v : Value), BindsTo s fd ⟨[v], []⟩ [("script", v)]) ∧ ∀ base : Heap, K.In base → base.Ns mainGlobals mg → FnOk P w K mg base CX0 26 f fd ["script"] (spR (R_law K)) := by
  obtain ⟨fd_Neuron__init, F_Neuron__init⟩ := c.t.d.def_ 0 (d := d_Neuron__init) rfl
  obtain ⟨fd_Neuron__eq, F_Neuron__eq⟩ := c.t.d.def_ 1 (d := d_Neuron__eq) rfl
  obtain ⟨fd_u_left_after_spike, F_u_left_after_spike⟩ := c.t.d.def_ 2 (d := d_u_left_after_spike) rfl
  obtain ⟨fd_Synapse__init, F_Synapse__init⟩ := c.t.d.def_ 3 (d := d_Synapse__init) rfl
  obtain ⟨fd_Rule__init, F_Rule__init⟩ := c.t.d.def_ 4 (d := d_Rule__init) rfl
  obtain ⟨fd_Network__init, F_Network__init⟩ := c.t.d.def_ 5 (d := d_Network__init) rfl
  obtain ⟨fd_Network_sources, F_Network_sources⟩ := c.t.d.def_ 6 (d := d_Network_sources) rfl
  obtain ⟨fd_Run__init, F_Run__init⟩ := c.t.d.def_ 7 (d := d_Run__init) rfl
  obtain ⟨fd_depressed, F_depressed⟩ := c.t.d.def_ 8 (d := d_depressed) rfl
  obtain ⟨fd_potentiated, F_potentiated⟩ := c.t.d.def_ 9 (d := d_potentiated) rfl
  obtain ⟨fd_state_at_start, F_state_at_start⟩ := c.t.d.def_ 10 (d := d_state_at_start) rfl
  obtain ⟨fd_weights_of, F_weights_of⟩ := c.t.d.def_ 11 (d := d_weights_of) rfl
  obtain ⟨fd_u_incoming_sums, F_u_incoming_sums⟩ := c.t.d.def_ 12 (d := d_u_incoming_sums) rfl
  obtain ⟨fd_u_is_recent, F_u_is_recent⟩ := c.t.d.def_ 13 (d := d_u_is_recent) rfl
  obtain ⟨fd_u_noted, F_u_noted⟩ := c.t.d.def_ 14 (d := d_u_noted) rfl
  obtain ⟨fd_u_spiking_sources, F_u_spiking_sources⟩ := c.t.d.def_ 15 (d := d_u_spiking_sources) rfl
  obtain ⟨fd_initial_state, F_initial_state⟩ := c.t.d.def_ 16 (d := d_initial_state) rfl
  obtain ⟨fd_u_law_cell, F_u_law_cell⟩ := c.t.d.def_ 17 (d := d_u_law_cell) rfl
  obtain ⟨fd_u_after_losses, F_u_after_losses⟩ := c.t.d.def_ 18 (d := d_u_after_losses) rfl
  obtain ⟨fd_u_effects, F_u_effects⟩ := c.t.d.def_ 19 (d := d_u_effects) rfl
  obtain ⟨fd_u_law_claims, F_u_law_claims⟩ := c.t.d.def_ 20 (d := d_u_law_claims) rfl
  obtain ⟨fd_Synapse__eq, F_Synapse__eq⟩ := c.t.d.def_ 21 (d := d_Synapse__eq) rfl
  obtain ⟨fd_Rule__eq, F_Rule__eq⟩ := c.t.d.def_ 22 (d := d_Rule__eq) rfl
  obtain ⟨fd_Network__eq, F_Network__eq⟩ := c.t.d.def_ 23 (d := d_Network__eq) rfl
  obtain ⟨fd_Run__eq, F_Run__eq⟩ := c.t.d.def_ 24 (d := d_Run__eq) rfl
  obtain ⟨fd_u_leaked, F_u_leaked⟩ := c.t.d.def_ 25 (d := d_u_leaked) rfl
  obtain ⟨fd_u_has_fired, F_u_has_fired⟩ := c.t.d.def_ 26 (d := d_u_has_fired) rfl
  obtain ⟨fd_u_after_gains, F_u_after_gains⟩ := c.t.d.def_ 27 (d := d_u_after_gains) rfl
  obtain ⟨fd_stimulus_of, F_stimulus_of⟩ := c.t.d.def_ 28 (d := d_stimulus_of) rfl
  obtain ⟨fd_next_watch, F_next_watch⟩ := c.t.d.def_ 29 (d := d_next_watch) rfl
  obtain ⟨fd_is_broken, F_is_broken⟩ := c.t.d.def_ 30 (d := d_is_broken) rfl
  obtain ⟨fd_u_with_sources, F_u_with_sources⟩ := c.t.d.def_ 31 (d := d_u_with_sources) rfl
  obtain ⟨fd_u_law_neuron, F_u_law_neuron⟩ := c.t.d.def_ 32 (d := d_u_law_neuron) rfl
  obtain ⟨fd_u_law_synapse, F_u_law_synapse⟩ := c.t.d.def_ 33 (d := d_u_law_synapse) rfl
  obtain ⟨fd_u_law_stimuli, F_u_law_stimuli⟩ := c.t.d.def_ 34 (d := d_u_law_stimuli) rfl
  obtain ⟨fd_u_law_breaks, F_u_law_breaks⟩ := c.t.d.def_ 35 (d := d_u_law_breaks) rfl
  obtain ⟨fd_step, F_step⟩ := c.t.d.def_ 36 (d := d_step) rfl
  obtain ⟨fd_u_arriving, F_u_arriving⟩ := c.t.d.def_ 37 (d := d_u_arriving) rfl
  obtain ⟨fd_u_law_network, F_u_law_network⟩ := c.t.d.def_ 38 (d := d_u_law_network) rfl
  obtain ⟨fd_after_steps, F_after_steps⟩ := c.t.d.def_ 39 (d := d_after_steps) rfl
  obtain ⟨fd_state_after, F_state_after⟩ := c.t.d.def_ 40 (d := d_state_after) rfl
  obtain ⟨fd_u_before_stimulus, F_u_before_stimulus⟩ := c.t.d.def_ 41 (d := d_u_before_stimulus) rfl
  obtain ⟨fd_run, F_run⟩ := c.t.d.def_ 42 (d := d_run) rfl
  obtain ⟨fd_advance, F_advance⟩ := c.t.d.def_ 43 (d := d_advance) rfl
  obtain ⟨fd_law, F_law⟩ := c.t.d.def_ 44 (d := d_law) rfl
  obtain ⟨exd0, exr0⟩ := He.ba (show (decide _ && _) = true from c.more)
  have ex0 := of_decide_eq_true exd0
  obtain ⟨exd1, exr1⟩ := He.ba (show (decide _ && _) = true from exr0)
  have ex1 := of_decide_eq_true exd1
  obtain ⟨exd2, exr2⟩ := He.ba (show (decide _ && _) = true from exr1)
  have ex2 := of_decide_eq_true exd2
  obtain ⟨exd3, exr3⟩ := He.ba (show (decide _ && _) = true from exr2)
  have ex3 := of_decide_eq_true exd3
  obtain ⟨exd4, exr4⟩ := He.ba (show (decide _ && _) = true from exr3)
  have ex4 := of_decide_eq_true exd4
  obtain ⟨exd5, exr5⟩ := He.ba (show (decide _ && _) = true from exr4)
  have ex5 := of_decide_eq_true exd5
  obtain ⟨exd6, exr6⟩ := He.ba (show (decide _ && _) = true from exr5)
  have ex6 := of_decide_eq_true exd6
  obtain ⟨exd7, exr7⟩ := He.ba (show (decide _ && _) = true from exr6)
  have ex7 := of_decide_eq_true exd7
  obtain ⟨exd8, exr8⟩ := He.ba (show (decide _ && _) = true from exr7)
  have ex8 := of_decide_eq_true exd8
  obtain ⟨exd9, exr9⟩ := He.ba (show (decide _ && _) = true from exr8)
  have ex9 := of_decide_eq_true exd9
  obtain ⟨exd10, exr10⟩ := He.ba (show (decide _ && _) = true from exr9)
  have ex10 := of_decide_eq_true exd10
  obtain ⟨exd11, exr11⟩ := He.ba (show (decide _ && _) = true from exr10)
  have ex11 := of_decide_eq_true exd11
  obtain ⟨exd12, exr12⟩ := He.ba (show (decide _ && _) = true from exr11)
  have ex12 := of_decide_eq_true exd12
  obtain ⟨exd13, exr13⟩ := He.ba (show (decide _ && _) = true from exr12)
  have ex13 := of_decide_eq_true exd13
  obtain ⟨exd14, exr14⟩ := He.ba (show (decide _ && _) = true from exr13)
  have ex14 := of_decide_eq_true exd14
  obtain ⟨exd15, exr15⟩ := He.ba (show (decide _ && _) = true from exr14)
  have ex15 := of_decide_eq_true exd15
  obtain ⟨exd16, exr16⟩ := He.ba (show (decide _ && _) = true from exr15)
  have ex16 := of_decide_eq_true exd16
  have e := hfa.symm.trans (He.glo_ok X G (c.t.d.fact 39 (f := He.Fa.glo "law") rfl))
  cases e
  have b := FunD.bindsA (ps := ["script"]) F_law fun _ _ _ _ _ _ us hl => match us, hl with | [_], _ => rfl
  refine ⟨fd_law, fun s v => b s [v] rfl, fun base _ _ => ok_law (D := ⟨fd_Neuron__init, fd_Neuron__eq, fd_u_left_after_spike, fd_Synapse__init, fd_Rule__init, fd_Network__init, fd_Network_sources, fd_Run__init, fd_depressed, fd_potentiated, fd_state_at_start, fd_weights_of, fd_u_incoming_sums, fd_u_is_recent, fd_u_noted, fd_u_spiking_sources, fd_initial_state, fd_u_law_cell, fd_u_after_losses, fd_u_effects, fd_u_law_claims, fd_Synapse__eq, fd_Rule__eq, fd_Network__eq, fd_Run__eq, fd_u_leaked, fd_u_has_fired, fd_u_after_gains, fd_stimulus_of, fd_next_watch, fd_is_broken, fd_u_with_sources, fd_u_law_neuron, fd_u_law_synapse, fd_u_law_stimuli, fd_u_law_breaks, fd_step, fd_u_arriving, fd_u_law_network, fd_after_steps, fd_state_after, fd_u_before_stimulus, fd_run, fd_advance, fd_law⟩) ?_⟩
  exact
    { F_Neuron__init := F_Neuron__init
      F_Neuron__eq := F_Neuron__eq
      b_Neuron__eq := (F_Neuron__eq.bindsN (ps := ["self", "other"]) fun _ _ _ _ _ _ us hl => match us, hl with | [u0, u1], _ => rfl)
      e_Neuron := ⟨(He.meth_ok (c.t.d.fact 0 (f := He.Fa.meth "Neuron" "__eq__") rfl)).1, (He.meth_ok (c.t.d.fact 0 (f := He.Fa.meth "Neuron" "__eq__") rfl)).2⟩
      F_u_left_after_spike := F_u_left_after_spike
      b_u_left_after_spike := (F_u_left_after_spike.bindsN (ps := ["neuron", "potential"]) fun _ _ _ _ _ _ us hl => match us, hl with | [u0, u1], _ => rfl)
      g_u_left_after_spike := (He.glo_ok X G (c.t.d.fact 1 (f := He.Fa.glo "_left_after_spike") rfl))
      F_Synapse__init := F_Synapse__init
      b_Synapse__init := (binds_all (F_Synapse__init.binds1 (ps := ["self", "source", "target", "weight", "delay", "plastic"]) 6 1 nofun rfl fun T kV doc pm an cdv ct us its hl hi => match us, its, hl, hi with | [u0, u1, u2, u3, u4, u5], [d0], _, _ => ⟨_, rfl, rfl⟩))
      F_Rule__init := F_Rule__init
      b_Rule__init := (F_Rule__init.bindsN (ps := ["self", "gain", "loss", "window", "least", "most"]) fun _ _ _ _ _ _ us hl => match us, hl with | [u0, u1, u2, u3, u4, u5], _ => rfl)
      F_Network__init := F_Network__init
      b_Network__init := (binds_all (F_Network__init.binds1 (ps := ["self", "inputs", "neurons", "synapses", "rule"]) 5 1 nofun rfl fun T kV doc pm an cdv ct us its hl hi => match us, its, hl, hi with | [u0, u1, u2, u3, u4], [d0], _, _ => ⟨_, rfl, rfl⟩))
      F_Network_sources := F_Network_sources
      b_Network_sources := (F_Network_sources.bindsN (ps := ["self"]) fun _ _ _ _ _ _ us hl => match us, hl with | [u0], _ => rfl)
      m_Network_sources := (He.meth_ok (c.t.d.fact 2 (f := He.Fa.meth "Network" "sources") rfl))
      F_Run__init := F_Run__init
      b_Run__init := (F_Run__init.bindsN (ps := ["self", "spikes", "weights"]) fun _ _ _ _ _ _ us hl => match us, hl with | [u0, u1, u2], _ => rfl)
      F_depressed := F_depressed
      b_depressed := (F_depressed.bindsN (ps := ["rule", "weight"]) fun _ _ _ _ _ _ us hl => match us, hl with | [u0, u1], _ => rfl)
      g_depressed := (He.glo_ok X G (c.t.d.fact 3 (f := He.Fa.glo "depressed") rfl))
      F_potentiated := F_potentiated
      b_potentiated := (F_potentiated.bindsN (ps := ["rule", "weight"]) fun _ _ _ _ _ _ us hl => match us, hl with | [u0, u1], _ => rfl)
      g_potentiated := (He.glo_ok X G (c.t.d.fact 4 (f := He.Fa.glo "potentiated") rfl))
      F_state_at_start := F_state_at_start
      b_state_at_start := (F_state_at_start.bindsN (ps := ["network"]) fun _ _ _ _ _ _ us hl => match us, hl with | [u0], _ => rfl)
      g_state_at_start := (He.glo_ok X G (c.t.d.fact 5 (f := He.Fa.glo "state_at_start") rfl))
      F_weights_of := F_weights_of
      b_weights_of := (F_weights_of.bindsN (ps := ["state"]) fun _ _ _ _ _ _ us hl => match us, hl with | [u0], _ => rfl)
      g_weights_of := (He.glo_ok X G (c.t.d.fact 6 (f := He.Fa.glo "weights_of") rfl))
      F_u_incoming_sums := F_u_incoming_sums
      b_u_incoming_sums := (F_u_incoming_sums.bindsN (ps := ["network", "weights", "arriving"]) fun _ _ _ _ _ _ us hl => match us, hl with | [u0, u1, u2], _ => rfl)
      g_u_incoming_sums := (He.glo_ok X G (c.t.d.fact 7 (f := He.Fa.glo "_incoming_sums") rfl))
      F_u_is_recent := F_u_is_recent
      b_u_is_recent := (F_u_is_recent.bindsN (ps := ["last", "tick", "window"]) fun _ _ _ _ _ _ us hl => match us, hl with | [u0, u1, u2], _ => rfl)
      g_u_is_recent := (He.glo_ok X G (c.t.d.fact 8 (f := He.Fa.glo "_is_recent") rfl))
      F_u_noted := F_u_noted
      b_u_noted := (F_u_noted.bindsN (ps := ["ticks", "indexes", "tick"]) fun _ _ _ _ _ _ us hl => match us, hl with | [u0, u1, u2], _ => rfl)
      g_u_noted := (He.glo_ok X G (c.t.d.fact 9 (f := He.Fa.glo "_noted") rfl))
      F_u_spiking_sources := F_u_spiking_sources
      b_u_spiking_sources := (F_u_spiking_sources.bindsN (ps := ["network", "stimulus", "spiking"]) fun _ _ _ _ _ _ us hl => match us, hl with | [u0, u1, u2], _ => rfl)
      g_u_spiking_sources := (He.glo_ok X G (c.t.d.fact 10 (f := He.Fa.glo "_spiking_sources") rfl))
      F_initial_state := F_initial_state
      b_initial_state := (F_initial_state.bindsN (ps := ["network"]) fun _ _ _ _ _ _ us hl => match us, hl with | [u0], _ => rfl)
      g_initial_state := (He.glo_ok X G (c.t.d.fact 11 (f := He.Fa.glo "initial_state") rfl))
      F_u_law_cell := F_u_law_cell
      b_u_law_cell := (F_u_law_cell.bindsN (ps := ["script", "k"]) fun _ _ _ _ _ _ us hl => match us, hl with | [u0, u1], _ => rfl)
      g_u_law_cell := (He.glo_ok X G (c.t.d.fact 12 (f := He.Fa.glo "_law_cell") rfl))
      F_u_after_losses := F_u_after_losses
      b_u_after_losses := (F_u_after_losses.bindsN (ps := ["network", "weights", "arriving", "last_spikes", "tick"]) fun _ _ _ _ _ _ us hl => match us, hl with | [u0, u1, u2, u3, u4], _ => rfl)
      g_u_after_losses := (He.glo_ok X G (c.t.d.fact 13 (f := He.Fa.glo "_after_losses") rfl))
      F_u_effects := F_u_effects
      b_u_effects := (F_u_effects.bindsN (ps := ["network"]) fun _ _ _ _ _ _ us hl => match us, hl with | [u0], _ => rfl)
      g_u_effects := (He.glo_ok X G (c.t.d.fact 14 (f := He.Fa.glo "_effects") rfl))
      F_u_law_claims := F_u_law_claims
      b_u_law_claims := (F_u_law_claims.bindsN (ps := ["script", "network"]) fun _ _ _ _ _ _ us hl => match us, hl with | [u0, u1], _ => rfl)
      g_u_law_claims := (He.glo_ok X G (c.t.d.fact 15 (f := He.Fa.glo "_law_claims") rfl))
      F_Synapse__eq := F_Synapse__eq
      b_Synapse__eq := (F_Synapse__eq.bindsN (ps := ["self", "other"]) fun _ _ _ _ _ _ us hl => match us, hl with | [u0, u1], _ => rfl)
      e_Synapse := ⟨(He.meth_ok (c.t.d.fact 16 (f := He.Fa.meth "Synapse" "__eq__") rfl)).1, (He.meth_ok (c.t.d.fact 16 (f := He.Fa.meth "Synapse" "__eq__") rfl)).2⟩
      F_Rule__eq := F_Rule__eq
      b_Rule__eq := (F_Rule__eq.bindsN (ps := ["self", "other"]) fun _ _ _ _ _ _ us hl => match us, hl with | [u0, u1], _ => rfl)
      e_Rule := ⟨(He.meth_ok (c.t.d.fact 17 (f := He.Fa.meth "Rule" "__eq__") rfl)).1, (He.meth_ok (c.t.d.fact 17 (f := He.Fa.meth "Rule" "__eq__") rfl)).2⟩
      F_Network__eq := F_Network__eq
      b_Network__eq := (F_Network__eq.bindsN (ps := ["self", "other"]) fun _ _ _ _ _ _ us hl => match us, hl with | [u0, u1], _ => rfl)
      e_Network := ⟨(He.meth_ok (c.t.d.fact 18 (f := He.Fa.meth "Network" "__eq__") rfl)).1, (He.meth_ok (c.t.d.fact 18 (f := He.Fa.meth "Network" "__eq__") rfl)).2⟩
      F_Run__eq := F_Run__eq
      b_Run__eq := (F_Run__eq.bindsN (ps := ["self", "other"]) fun _ _ _ _ _ _ us hl => match us, hl with | [u0, u1], _ => rfl)
      e_Run := ⟨(He.meth_ok (c.t.d.fact 19 (f := He.Fa.meth "Run" "__eq__") rfl)).1, (He.meth_ok (c.t.d.fact 19 (f := He.Fa.meth "Run" "__eq__") rfl)).2⟩
      F_u_leaked := F_u_leaked
      b_u_leaked := (F_u_leaked.bindsN (ps := ["neuron", "potential"]) fun _ _ _ _ _ _ us hl => match us, hl with | [u0, u1], _ => rfl)
      g_u_leaked := (He.glo_ok X G (c.t.d.fact 20 (f := He.Fa.glo "_leaked") rfl))
      F_u_has_fired := F_u_has_fired
      b_u_has_fired := (F_u_has_fired.bindsN (ps := ["fired", "tick", "source"]) fun _ _ _ _ _ _ us hl => match us, hl with | [u0, u1, u2], _ => rfl)
      g_u_has_fired := (He.glo_ok X G (c.t.d.fact 21 (f := He.Fa.glo "_has_fired") rfl))
      F_u_after_gains := F_u_after_gains
      b_u_after_gains := (F_u_after_gains.bindsN (ps := ["network", "weights", "spiking", "last_arrivals", "tick"]) fun _ _ _ _ _ _ us hl => match us, hl with | [u0, u1, u2, u3, u4], _ => rfl)
      g_u_after_gains := (He.glo_ok X G (c.t.d.fact 22 (f := He.Fa.glo "_after_gains") rfl))
      F_stimulus_of := F_stimulus_of
      b_stimulus_of := (F_stimulus_of.bindsN (ps := ["network", "number"]) fun _ _ _ _ _ _ us hl => match us, hl with | [u0, u1], _ => rfl)
      g_stimulus_of := (He.glo_ok X G (c.t.d.fact 23 (f := He.Fa.glo "stimulus_of") rfl))
      F_next_watch := F_next_watch
      b_next_watch := (F_next_watch.bindsN (ps := ["claim", "watch", "stimulus", "spikes"]) fun _ _ _ _ _ _ us hl => match us, hl with | [u0, u1, u2, u3], _ => rfl)
      g_next_watch := (He.glo_ok X G (c.t.d.fact 24 (f := He.Fa.glo "next_watch") rfl))
      F_is_broken := F_is_broken
      b_is_broken := (F_is_broken.bindsN (ps := ["claim", "watch", "spikes"]) fun _ _ _ _ _ _ us hl => match us, hl with | [u0, u1, u2], _ => rfl)
      g_is_broken := (He.glo_ok X G (c.t.d.fact 25 (f := He.Fa.glo "is_broken") rfl))
      F_u_with_sources := F_u_with_sources
      b_u_with_sources := (F_u_with_sources.bindsN (ps := ["effects", "state", "sources"]) fun _ _ _ _ _ _ us hl => match us, hl with | [u0, u1, u2], _ => rfl)
      g_u_with_sources := (He.glo_ok X G (c.t.d.fact 26 (f := He.Fa.glo "_with_sources") rfl))
      F_u_law_neuron := F_u_law_neuron
      b_u_law_neuron := (F_u_law_neuron.bindsN (ps := ["cell"]) fun _ _ _ _ _ _ us hl => match us, hl with | [u0], _ => rfl)
      g_u_law_neuron := (He.glo_ok X G (c.t.d.fact 27 (f := He.Fa.glo "_law_neuron") rfl))
      F_u_law_synapse := F_u_law_synapse
      b_u_law_synapse := (F_u_law_synapse.bindsN (ps := ["cell", "sources", "many", "learns"]) fun _ _ _ _ _ _ us hl => match us, hl with | [u0, u1, u2, u3], _ => rfl)
      g_u_law_synapse := (He.glo_ok X G (c.t.d.fact 28 (f := He.Fa.glo "_law_synapse") rfl))
      F_u_law_stimuli := F_u_law_stimuli
      b_u_law_stimuli := (F_u_law_stimuli.bindsN (ps := ["script", "inputs"]) fun _ _ _ _ _ _ us hl => match us, hl with | [u0, u1], _ => rfl)
      g_u_law_stimuli := (He.glo_ok X G (c.t.d.fact 29 (f := He.Fa.glo "_law_stimuli") rfl))
      F_u_law_breaks := F_u_law_breaks
      b_u_law_breaks := (F_u_law_breaks.bindsN (ps := ["claim", "stimuli", "spikes", "t"]) fun _ _ _ _ _ _ us hl => match us, hl with | [u0, u1, u2, u3], _ => rfl)
      g_u_law_breaks := (He.glo_ok X G (c.t.d.fact 30 (f := He.Fa.glo "_law_breaks") rfl))
      F_step := F_step
      b_step := (F_step.bindsN (ps := ["neuron", "potential", "rest", "incoming"]) fun _ _ _ _ _ _ us hl => match us, hl with | [u0, u1, u2, u3], _ => rfl)
      g_step := (He.glo_ok X G (c.t.d.fact 31 (f := He.Fa.glo "step") rfl))
      F_u_arriving := F_u_arriving
      b_u_arriving := (F_u_arriving.bindsN (ps := ["network", "fired", "tick"]) fun _ _ _ _ _ _ us hl => match us, hl with | [u0, u1, u2], _ => rfl)
      g_u_arriving := (He.glo_ok X G (c.t.d.fact 32 (f := He.Fa.glo "_arriving") rfl))
      F_u_law_network := F_u_law_network
      b_u_law_network := (F_u_law_network.bindsN (ps := ["script", "learns"]) fun _ _ _ _ _ _ us hl => match us, hl with | [u0, u1], _ => rfl)
      g_u_law_network := (He.glo_ok X G (c.t.d.fact 33 (f := He.Fa.glo "_law_network") rfl))
      F_after_steps := F_after_steps
      b_after_steps := (F_after_steps.bindsN (ps := ["network", "potentials", "rests", "sums"]) fun _ _ _ _ _ _ us hl => match us, hl with | [u0, u1, u2, u3], _ => rfl)
      g_after_steps := (He.glo_ok X G (c.t.d.fact 34 (f := He.Fa.glo "after_steps") rfl))
      F_state_after := F_state_after
      b_state_after := (F_state_after.bindsN (ps := ["network", "state", "arriving", "tick"]) fun _ _ _ _ _ _ us hl => match us, hl with | [u0, u1, u2, u3], _ => rfl)
      g_state_after := (He.glo_ok X G (c.t.d.fact 35 (f := He.Fa.glo "state_after") rfl))
      F_u_before_stimulus := F_u_before_stimulus
      b_u_before_stimulus := (F_u_before_stimulus.bindsN (ps := ["network", "effects", "state"]) fun _ _ _ _ _ _ us hl => match us, hl with | [u0, u1, u2], _ => rfl)
      g_u_before_stimulus := (He.glo_ok X G (c.t.d.fact 36 (f := He.Fa.glo "_before_stimulus") rfl))
      F_run := F_run
      b_run := (F_run.bindsN (ps := ["network", "stimuli"]) fun _ _ _ _ _ _ us hl => match us, hl with | [u0, u1], _ => rfl)
      g_run := (He.glo_ok X G (c.t.d.fact 37 (f := He.Fa.glo "run") rfl))
      F_advance := F_advance
      b_advance := (F_advance.bindsN (ps := ["network", "state", "stimulus"]) fun _ _ _ _ _ _ us hl => match us, hl with | [u0, u1, u2], _ => rfl)
      g_advance := (He.glo_ok X G (c.t.d.fact 38 (f := He.Fa.glo "advance") rfl))
      F_law := F_law
      b_law := (F_law.bindsN (ps := ["script"]) fun _ _ _ _ _ _ us hl => match us, hl with | [u0], _ => rfl)
      g_law := (He.glo_ok X G (c.t.d.fact 39 (f := He.Fa.glo "law") rfl))
      g_Neuron := (He.glo_ok X G (c.t.d.fact 40 (f := He.Fa.glo "Neuron") rfl))
      c_Neuron := (He.cls_ok (c.t.d.fact 41 (f := He.Fa.cls "Neuron") rfl))
      n_Neuron_threshold := (He.noat_ok (c.t.d.fact 42 (f := He.Fa.noat "Neuron" "threshold") rfl))
      n_Neuron_leak := (He.noat_ok (c.t.d.fact 43 (f := He.Fa.noat "Neuron" "leak") rfl))
      n_Neuron_refractory := (He.noat_ok (c.t.d.fact 44 (f := He.Fa.noat "Neuron" "refractory") rfl))
      n_Neuron_floor := (He.noat_ok (c.t.d.fact 45 (f := He.Fa.noat "Neuron" "floor") rfl))
      n_Neuron_subtract := (He.noat_ok (c.t.d.fact 46 (f := He.Fa.noat "Neuron" "subtract") rfl))
      k_Neuron := (He.mkr_ok (c.t.d.fact 47 (f := He.Fa.mkr "Neuron") rfl))
      i_Neuron := ⟨ex0, ex1, ex2, ex3⟩
      g_Synapse := (He.glo_ok X G (c.t.d.fact 48 (f := He.Fa.glo "Synapse") rfl))
      c_Synapse := (He.cls_ok (c.t.d.fact 49 (f := He.Fa.cls "Synapse") rfl))
      n_Synapse_source := (He.noat_ok (c.t.d.fact 50 (f := He.Fa.noat "Synapse" "source") rfl))
      n_Synapse_target := (He.noat_ok (c.t.d.fact 51 (f := He.Fa.noat "Synapse" "target") rfl))
      n_Synapse_weight := (He.noat_ok (c.t.d.fact 52 (f := He.Fa.noat "Synapse" "weight") rfl))
      n_Synapse_delay := (He.noat_ok (c.t.d.fact 53 (f := He.Fa.noat "Synapse" "delay") rfl))
      n_Synapse_plastic := (He.noat_ok (c.t.d.fact 54 (f := He.Fa.noat "Synapse" "plastic") rfl))
      k_Synapse := (He.mkr_ok (c.t.d.fact 55 (f := He.Fa.mkr "Synapse") rfl))
      i_Synapse := ⟨ex4, ex1, ex2, ex5⟩
      g_Rule := (He.glo_ok X G (c.t.d.fact 56 (f := He.Fa.glo "Rule") rfl))
      c_Rule := (He.cls_ok (c.t.d.fact 57 (f := He.Fa.cls "Rule") rfl))
      n_Rule_gain := (He.noat_ok (c.t.d.fact 58 (f := He.Fa.noat "Rule" "gain") rfl))
      n_Rule_loss := (He.noat_ok (c.t.d.fact 59 (f := He.Fa.noat "Rule" "loss") rfl))
      n_Rule_window := (He.noat_ok (c.t.d.fact 60 (f := He.Fa.noat "Rule" "window") rfl))
      n_Rule_least := (He.noat_ok (c.t.d.fact 61 (f := He.Fa.noat "Rule" "least") rfl))
      n_Rule_most := (He.noat_ok (c.t.d.fact 62 (f := He.Fa.noat "Rule" "most") rfl))
      k_Rule := (He.mkr_ok (c.t.d.fact 63 (f := He.Fa.mkr "Rule") rfl))
      i_Rule := ⟨ex6, ex1, ex2, ex7⟩
      g_Network := (He.glo_ok X G (c.t.d.fact 64 (f := He.Fa.glo "Network") rfl))
      c_Network := (He.cls_ok (c.t.d.fact 65 (f := He.Fa.cls "Network") rfl))
      n_Network_inputs := (He.noat_ok (c.t.d.fact 66 (f := He.Fa.noat "Network" "inputs") rfl))
      n_Network_neurons := (He.noat_ok (c.t.d.fact 67 (f := He.Fa.noat "Network" "neurons") rfl))
      n_Network_synapses := (He.noat_ok (c.t.d.fact 68 (f := He.Fa.noat "Network" "synapses") rfl))
      n_Network_rule := (He.noat_ok (c.t.d.fact 69 (f := He.Fa.noat "Network" "rule") rfl))
      k_Network := (He.mkr_ok (c.t.d.fact 70 (f := He.Fa.mkr "Network") rfl))
      i_Network := ⟨ex8, ex1, ex2, ex9⟩
      g_Run := (He.glo_ok X G (c.t.d.fact 71 (f := He.Fa.glo "Run") rfl))
      c_Run := (He.cls_ok (c.t.d.fact 72 (f := He.Fa.cls "Run") rfl))
      n_Run_spikes := (He.noat_ok (c.t.d.fact 73 (f := He.Fa.noat "Run" "spikes") rfl))
      n_Run_weights := (He.noat_ok (c.t.d.fact 74 (f := He.Fa.noat "Run" "weights") rfl))
      k_Run := (He.mkr_ok (c.t.d.fact 75 (f := He.Fa.mkr "Run") rfl))
      i_Run := ⟨ex10, ex1, ex2, ex11⟩
      gi_TICKS_AHEAD := (He.int_ok X G (c.t.d.fact 76 (f := He.Fa.int "TICKS_AHEAD" 15) rfl))
      z_bool := (He.free_ok X G (c.t.d.fact 77 (f := He.Fa.free "bool") rfl))
      z_enumerate := (He.free_ok X G (c.t.d.fact 78 (f := He.Fa.free "enumerate") rfl))
      z_int := (He.free_ok X G (c.t.d.fact 79 (f := He.Fa.free "int") rfl))
      z_isinstance := (He.free_ok X G (c.t.d.fact 80 (f := He.Fa.free "isinstance") rfl))
      z_len := (He.free_ok X G (c.t.d.fact 81 (f := He.Fa.free "len") rfl))
      z_list := (He.free_ok X G (c.t.d.fact 82 (f := He.Fa.free "list") rfl))
      z_max := (He.free_ok X G (c.t.d.fact 83 (f := He.Fa.free "max") rfl))
      z_min := (He.free_ok X G (c.t.d.fact 84 (f := He.Fa.free "min") rfl))
      z_range := (He.free_ok X G (c.t.d.fact 85 (f := He.Fa.free "range") rfl))
      z_tuple := (He.free_ok X G (c.t.d.fact 86 (f := He.Fa.free "tuple") rfl))
      ki_Neuron_Neuron := ex12
      ki_Synapse_Synapse := ex13
      ki_Rule_Rule := ex14
      ki_Network_Network := ex15
      ki_Run_Run := ex16
      k_Neuron__init_1_leak_refractory_floor_subtract := (F_Neuron__init.kbinds0 (ps := ["self", "threshold", "leak", "refractory", "floor", "subtract"]) 2 ["leak", "refractory", "floor", "subtract"] [] gk_k_Neuron__init_1_leak_refractory_floor_subtract nofun nofun (fun r1 r2 r3 => ((vals_opt r1).append ((vals_opt r1).append ((vals_opt r3).append ((vals_opt r3).append ((vals_opt r3).append (vals_opt r3))))))) fun D' doc pm an cdv ct us mv ws hl hm hw => match us, mv, ws, hl, hm, hw with | [u0, u1], [], [w0, w1, w2, w3], _, _, _ => rfl) }
/-! ### what run does, without the heap -/
structure WN (n : Neuron) : Prop where
  leak : 0 ≤ n.leak ∧ n.leak < 16
  refr : 0 ≤ n.refractory
  floor : n.floor ≤ 0
  thr : 1 ≤ n.threshold
structure WS (N : Nat) (s : Synapse) : Prop where
  tgt : 0 ≤ s.target ∧ s.target < N
  del : 1 ≤ s.delay
structure WNet (nw : Network) : Prop where
  ns : ∀ n ∈ nw.neurons, WN n
  ss : ∀ s ∈ nw.synapses, WS nw.neurons.length s
  nl : nw.neurons.length ≤ 1000
  sl : nw.synapses.length ≤ 1000
def stepP (n : Neuron) (p r i : Int) : Int × Int × Bool :=
  if 0 < r then (max ((if n.leak = 0 then p else p - p / 2 ^ n.leak.toNat) + i) n.floor, r - 1, false)
  else if max ((if n.leak = 0 then p else p - p / 2 ^ n.leak.toNat) + i) n.floor < n.threshold then (max ((if n.leak = 0 then p else p - p / 2 ^ n.leak.toNat) + i) n.floor, r, false)
  else (if n.subtract then max ((if n.leak = 0 then p else p - p / 2 ^ n.leak.toNat) + i) n.floor - n.threshold else 0, n.refractory, true)
structure StP where
  w : List Int
  came : List (Option Int)
  cells : List (Int × Int × Option Int)
  hist : List (List Int)
  spikes : List (List Int)
def arrP (hist : List (List Int)) (t : Nat) (s : Synapse) : Bool := decide (s.delay ≤ (t : Int)) && decide (s.source ∈ (hist[((t : Int) - s.delay).toNat]?).getD [])
/-- a predicate of the synapse at a place -/
def atS (nw : Network) (p : Synapse → Bool) (i : Nat) : Bool := (nw.synapses[i]?).any p
def sumP (nw : Network) (A : Nat → Bool) (w : List Int) (n : Nat) : Int :=
  ((List.range nw.synapses.length).map fun i => if A i && atS nw (fun s => decide (s.target = (n : Int))) i then (w[i]?).getD 0 else 0).sum
def recP (last : Option Int) (t : Int) (win : Int) : Bool := match last with
  | none => false
  | some l => decide (t - l ≤ win)
def lossP (nw : Network) (A : Nat → Bool) (cells : List (Int × Int × Option Int)) (t : Nat) (w : List Int) : List Int := match nw.rule with
  | none => w
  | some r => w.mapIdx fun i x => if A i && atS nw (fun s => s.plastic && recP ((cells[s.target.toNat]?).elim none (·.2.2)) t r.window) i then max (x - r.loss) r.least else x
def gainP (nw : Network) (spk : List Int) (came : List (Option Int)) (t : Nat) (w : List Int) : List Int := match nw.rule with
  | none => w
  | some r => w.mapIdx fun i x => if atS nw (fun s => s.plastic && (decide (s.target ∈ spk) && recP ((came[i]?).getD none) t r.window)) i then min (x + r.gain) r.most else x
def cellP (nw : Network) (sum : Nat → Int) (cells : List (Int × Int × Option Int)) (n : Nat) : Int × Int × Bool :=
  match nw.neurons[n]?, cells[n]? with
  | some u, some c => stepP u c.1 c.2.1 (sum n)
  | _, _ => (0, 0, false)
def spkP (nw : Network) (sum : Nat → Int) (cells : List (Int × Int × Option Int)) : List Int := ((List.range nw.neurons.length).filter fun n => (cellP nw sum cells n).2.2).map fun n : Nat => (n : Int)
def tickP (nw : Network) (t : Nat) (stim : List Int) (s : StP) : StP :=
  let A := atS nw (arrP s.hist t)
  let sum := sumP nw A s.w
  let came := s.came.mapIdx fun i c => if A i then some (t : Int) else c
  let spk := spkP nw sum s.cells
  { w := gainP nw spk came t (lossP nw A s.cells t s.w)
    came := came
    cells := s.cells.mapIdx fun n c => ((cellP nw sum s.cells n).1, (cellP nw sum s.cells n).2.1, if (cellP nw sum s.cells n).2.2 then some (t : Int) else c.2.2)
    hist := s.hist ++ [stim ++ spk.map (nw.inputs + ·)]
    spikes := s.spikes ++ [spk] }
structure InvP (nw : Network) (t : Nat) (s : StP) : Prop where
  w : s.w.length = nw.synapses.length
  came : s.came.length = nw.synapses.length
  cells : s.cells.length = nw.neurons.length
  hist : s.hist.length = t
  spikes : s.spikes.length = t
  old : ∀ (i : Nat) (c : Int), s.came[i]? = some (some c) → c < t
  rest : ∀ c ∈ s.cells, 0 ≤ c.2.1
theorem two_pos (n : Nat) : (0 : Int) < 2 ^ n := by exact_mod_cast Nat.two_pow_pos n
theorem two_lt {l : Int} (h : 0 ≤ l ∧ l < 16) : (2 : Int) ^ l.toNat < 1073741824 := by
  have : l = 0 ∨ l = 1 ∨ l = 2 ∨ l = 3 ∨ l = 4 ∨ l = 5 ∨ l = 6 ∨ l = 7 ∨ l = 8 ∨ l = 9 ∨ l = 10 ∨ l = 11 ∨ l = 12 ∨ l = 13 ∨ l = 14 ∨ l = 15 := by omega
  rcases this with h | h | h | h | h | h | h | h | h | h | h | h | h | h | h | h <;> subst h <;> decide
theorem step_ok {n : Neuron} (hn : WN n) (p r i : Int) : m_step n p r i = some (stepP n p r i) := by
  unfold m_step m_u_leaked m_u_left_after_spike stepP
  have hs : shrM p n.leak = some (p / 2 ^ n.leak.toNat) := by unfold shrM; exact if_pos hn.leak.1
  rw [hs]
  simp only [decide_eq_true_eq, Option.bind_some, bndv]
  by_cases h0 : n.leak = 0
  · rw [if_pos h0, if_pos h0]
    simp only [Option.bind_some]
    split
    · rfl
    · split
      · rfl
      · cases n.subtract <;> rfl
  · rw [if_neg h0, if_neg h0]
    simp only [Option.bind_some]
    split
    · rfl
    · split
      · rfl
      · cases n.subtract <;> rfl
theorem enum_filter {α : Type} (q : Int × α → Bool) : ∀ (xs : List α) (lo : Int), ((enumI lo xs).filter q).map (·.1) = ((List.range xs.length).filter fun i : Nat => (xs[i]?).any fun x => q (lo + (i : Int), x)).map (fun i : Nat => lo + (i : Int))
  | [], _ => rfl
  | x :: xs, lo => by
    have ih := enum_filter q xs (lo + 1)
    unfold enumI
    rw [List.length_cons, List.range_succ_eq_map, List.filter_cons, List.filter_cons, List.filter_map]
    have e : (fun i : Nat => ((x :: xs)[i]?).any fun y => q (lo + (i : Int), y)) ∘ Nat.succ = fun i : Nat => (xs[i]?).any fun y => q (lo + 1 + (i : Int), y) := by
      funext i
      show ((x :: xs)[i + 1]?).any _ = _
      rw [List.getElem?_cons_succ]
      congr 1
      funext y
      rw [show lo + ((i + 1 : Nat) : Int) = lo + 1 + (i : Int) by omega]
    rw [e]
    have e2 : ((x :: xs)[0]?).any (fun y => q (lo + ((0 : Nat) : Int), y)) = q (lo, x) := by simp
    rw [e2]
    have e3 : ((fun i : Nat => lo + (i : Int)) ∘ Nat.succ) = fun i : Nat => lo + 1 + (i : Int) := by
      funext i
      show lo + ((i + 1 : Nat) : Int) = _
      omega
    cases q (lo, x)
    · simp only [Bool.false_eq_true, if_false, List.map_map]
      rw [ih, e3]
    · simp only [if_true, List.map_cons, List.map_map]
      rw [ih, e3]
      simp
theorem enum0_filter {α : Type} (q : Int × α → Bool) (xs : List α) : ((enumI 0 xs).filter q).map (·.1) = ((List.range xs.length).filter fun i : Nat => (xs[i]?).any fun x => q ((i : Int), x)).map (fun i : Nat => (i : Int)) := by
  rw [enum_filter q xs 0]
  simp only [Int.zero_add]

theorem atI_z {α : Type} {xs : List α} {k : Int} (h : 0 ≤ k) : atI xs k = xs[k.toNat]? := by
  rw [show k = ((k.toNat : Nat) : Int) by omega, atI_n, Int.toNat_natCast]
theorem setM_z {α : Type} {xs : List α} {k : Int} {x : α} (h : 0 ≤ k ∧ k.toNat < xs.length) : setM xs k x = some (xs.set k.toNat x) := by
  have := setM_n (x := x) h.2
  rw [show ((k.toNat : Nat) : Int) = k by omega] at this
  exact this
/-- the dicts of run are the lists of the plain simulation -/
def FiredOk (fired : List (List (L2.Key × Bool))) (hist : List (List Int)) : Prop := fired.length = hist.length ∧ ∀ (i : Nat) d h, fired[i]? = some d → hist[i]? = some h → ∀ x : Int, (valT d (.inl x)).isSome = decide (x ∈ h)
theorem hasFired_ok {fired : List (List (L2.Key × Bool))} {hist : List (List Int)} (f : FiredOk fired hist) {s : Synapse} (hd : 1 ≤ s.delay) : m_u_has_fired fired ((hist.length : Int) - s.delay) s.source = some (arrP hist hist.length s) := by
  unfold m_u_has_fired arrP
  by_cases h : s.delay ≤ (hist.length : Int)
  · have lt : ((hist.length : Int) - s.delay).toNat < hist.length := by omega
    obtain ⟨d, hd1⟩ : ∃ d, fired[((hist.length : Int) - s.delay).toNat]? = some d := ⟨_, List.getElem?_eq_getElem (by rw [f.1]; exact lt)⟩
    have hh := List.getElem?_eq_getElem lt
    have e : atI fired ((hist.length : Int) - s.delay) = some d := by
      rw [show (hist.length : Int) - s.delay = ((((hist.length : Int) - s.delay).toNat : Nat) : Int) by omega, atI_n]
      exact hd1
    rw [e, decide_eq_true (show 0 ≤ (hist.length : Int) - s.delay by omega), decide_eq_true (show (hist.length : Int) - s.delay < (fired.length : Int) by rw [f.1]; omega), decide_eq_true h, hh]
    simp only [Bool.and_self, if_true, Option.bind_some, Option.getD_some, Bool.true_and]
    rw [f.2 _ d _ hd1 hh]
  · rw [decide_eq_false (show ¬ 0 ≤ (hist.length : Int) - s.delay by omega), decide_eq_false h]
    rfl
theorem arriving_ok {nw : Network} (wf : WNet nw) {fired : List (List (L2.Key × Bool))} {hist : List (List Int)} (f : FiredOk fired hist) :
    m_u_arriving nw fired (hist.length : Int) = some (((List.range nw.synapses.length).filter (atS nw (arrP hist hist.length))).map fun i : Nat => (i : Int)) := by
  unfold m_u_arriving
  rw [szM_ok (by rw [enumI_len]; have := wf.sl; omega), Option.bind_some, lcM_ok (fun x : Int × Synapse => arrP hist hist.length x.2) (fun x : Int × Synapse => x.1) (fun x hx => ?_) (fun _ _ => rfl), Option.bind_some, enum0_filter]
  · rfl
  · rw [enumI_eq] at hx
    obtain ⟨i, hi, e⟩ := List.mem_mapIdx.mp hx
    have hd := (wf.ss _ (List.getElem_mem hi)).del
    rw [← e]
    show ((m_u_has_fired fired _ _).bind fun rv2 => some rv2) = _
    rw [hasFired_ok f hd]
    rfl
theorem noted_ok {xs : List (Option Int)} {p : Nat → Bool} {t : Int} {n : Nat} (hn : n = xs.length) (hz : xs.length ≤ 16000000) : m_u_noted xs (((List.range n).filter p).map fun i : Nat => (i : Int)) t = some (xs.mapIdx fun i c => if p i then some t else c) := by
  subst hn
  unfold m_u_noted
  rw [szM_ok hz, Option.bind_some, fold_map, fold_filter, fold_setR (fun i c => if p i then some t else c) fun acc k a hl ha hx => ?_]
  · rfl
  · by_cases h : p k
    · rw [if_pos h, if_pos h, setM_n (lt_of_get ha)]
      rfl
    · rw [if_neg h, if_neg h, set_same ha]
/-- a number added in many places -/
theorem fold_add {f : List Int → Nat → Option (List Int)} {N : Nat} (tg : Nat → Option Nat) (v : Nat → Int) (Pk : Nat → Prop) (hf : ∀ acc k, Pk k → acc.length = N → (match tg k with | none => f acc k = some acc | some j => ∃ a, acc[j]? = some a ∧ f acc k = some (acc.set j (a + v k)))) :
    ∀ {ks : List Nat} {acc : List Int}, (∀ k ∈ ks, Pk k) → acc.length = N → ∃ r, ks.foldlM f acc = some r ∧ r.length = N ∧ ∀ (j : Nat) a, acc[j]? = some a → r[j]? = some (a + (ks.map fun k => if tg k = some j then v k else 0).sum)
  | [], acc, _, hl => ⟨acc, rfl, hl, fun j a h => by rw [h]; simp⟩
  | k :: ks, acc, hP, hl => by
    have q := hf acc k (hP k List.mem_cons_self) hl
    have hP := fun j hj => hP j (List.mem_cons_of_mem _ hj)
    rw [fold_cons]
    cases e : tg k with
    | none =>
      simp only [e] at q
      rw [q]
      obtain ⟨r, h1, h2, h3⟩ := fold_add tg v Pk hf (ks := ks) hP hl
      refine ⟨r, h1, h2, fun j a h => ?_⟩
      rw [h3 j a h, List.map_cons, List.sum_cons, e]
      simp
    | some i =>
      simp only [e] at q
      obtain ⟨a0, ha, q⟩ := q
      rw [q]
      obtain ⟨r, h1, h2, h3⟩ := fold_add tg v Pk hf (ks := ks) (acc := acc.set i (a0 + v k)) hP (by rw [List.length_set]; exact hl)
      refine ⟨r, h1, h2, fun j a h => ?_⟩
      rw [List.map_cons, List.sum_cons, e]
      by_cases z : i = j
      · subst z
        rw [ha] at h
        cases h
        rw [h3 i (a0 + v k) (List.getElem?_set_self (lt_of_get ha)), if_pos rfl, Int.add_assoc]
      · have z' : ¬ (some i = some j) := fun q => z (Option.some.inj q)
        rw [h3 j a (by rw [List.getElem?_set_ne z]; exact h), if_neg z', Int.zero_add]
theorem getS {nw : Network} {i : Nat} (h : i < nw.synapses.length) : ∃ s, nw.synapses[i]? = some s ∧ s ∈ nw.synapses := ⟨_, List.getElem?_eq_getElem h, List.getElem_mem h⟩
/-- one synapse's weight on its neuron -/
def tgP (nw : Network) (A : Nat → Bool) (i : Nat) : Option Nat := if A i then (nw.synapses[i]?).map (·.target.toNat) else none
theorem sum_eq {nw : Network} (wf : WNet nw) {A : Nat → Bool} {w : List Int} {n : Nat} : ((List.range nw.synapses.length).map fun k => if tgP nw A k = some n then (w[k]?).getD 0 else 0).sum = sumP nw A w n := by
  unfold sumP
  congr 1
  refine List.map_congr_left fun k hk => ?_
  obtain ⟨s, h1, h2⟩ := getS (List.mem_range.mp hk)
  have ht := (wf.ss s h2).tgt
  unfold tgP atS
  rw [h1]
  cases A k with
  | false => simp
  | true =>
    simp only [if_true, Option.map_some, Option.some.injEq, Option.any_some, Bool.true_and, decide_eq_true_eq]
    by_cases z : s.target = (n : Int)
    · rw [if_pos z, if_pos (by omega)]
    · rw [if_neg z, if_neg (by omega)]
theorem sums_ok {nw : Network} (wf : WNet nw) {A : Nat → Bool} {w : List Int} (hw : w.length = nw.synapses.length) : ∃ r, m_u_incoming_sums nw w (((List.range nw.synapses.length).filter A).map fun i : Nat => (i : Int)) = some r ∧ r.length = nw.neurons.length ∧ ∀ n : Nat, n < nw.neurons.length → r[n]? = some (sumP nw A w n) := by
  unfold m_u_incoming_sums
  rw [repM_one (by have := wf.nl; omega), Option.bind_some, fold_map, fold_filter]
  have hf : ∀ (acc : List Int) (k : Nat), k < nw.synapses.length → acc.length = nw.neurons.length → (match tgP nw A k with
      | none => (if A k = true then (atI nw.synapses (k : Int)).bind fun v8 => (atI acc v8.target).bind fun old10 => (atI w (k : Int)).bind fun v6 => (setM acc v8.target (old10 + v6)).bind fun sums12 => some sums12 else some acc) = some acc
      | some j => ∃ a, acc[j]? = some a ∧ (if A k = true then (atI nw.synapses (k : Int)).bind fun v8 => (atI acc v8.target).bind fun old10 => (atI w (k : Int)).bind fun v6 => (setM acc v8.target (old10 + v6)).bind fun sums12 => some sums12 else some acc) = some (acc.set j (a + (w[k]?).getD 0))) := fun acc k hk hl => by
    obtain ⟨s, e1, e2⟩ := getS hk
    have ht := (wf.ss s e2).tgt
    unfold tgP
    cases hA : A k with
    | false => rfl
    | true =>
      simp only [if_true, e1, Option.map_some]
      obtain ⟨x, hx⟩ : ∃ x, w[k]? = some x := ⟨_, List.getElem?_eq_getElem (by rw [hw]; exact hk)⟩
      obtain ⟨a, ha⟩ : ∃ a, acc[s.target.toNat]? = some a := ⟨_, List.getElem?_eq_getElem (by rw [hl]; omega)⟩
      refine ⟨a, ha, ?_⟩
      rw [atI_n, e1, Option.bind_some, atI_z ht.1, ha, Option.bind_some, atI_n, hx, Option.bind_some, setM_z ⟨ht.1, by rw [hl]; omega⟩]
      rfl
  obtain ⟨r, h1, h2, h3⟩ := fold_add (N := nw.neurons.length) (tgP nw A) (fun k => (w[k]?).getD 0) (fun k => k < nw.synapses.length) hf (ks := List.range nw.synapses.length) (acc := List.replicate nw.neurons.length 0) (fun k hk => List.mem_range.mp hk) (by rw [List.length_replicate])
  refine ⟨r, by rw [h1]; rfl, h2, fun n hn => ?_⟩
  rw [h3 n 0 (by rw [List.getElem?_replicate, if_pos hn]), Int.zero_add, sum_eq wf]
theorem map_get {α β : Type} {xs : List α} {f : α → β} {i : Nat} {x : α} (h : xs[i]? = some x) : (xs.map f)[i]? = some (f x) := by rw [List.getElem?_map, h]; rfl
theorem recent_ok (l : Option Int) (t win : Int) : m_u_is_recent l t win = some (recP l t win) := by
  unfold m_u_is_recent recP
  cases l <;> rfl
theorem losses_ok {nw : Network} (wf : WNet nw) {A : Nat → Bool} {w : List Int} {cells : List (Int × Int × Option Int)} {t : Nat} (hw : w.length = nw.synapses.length) (hc : cells.length = nw.neurons.length) :
    m_u_after_losses nw w (((List.range nw.synapses.length).filter A).map fun i : Nat => (i : Int)) (cells.map (·.2.2)) (t : Int) = some (lossP nw A cells t w) := by
  unfold m_u_after_losses lossP
  simp only [bndv]
  cases nw.rule with
  | none => rfl
  | some r =>
    simp only
    rw [szM_ok (by have := wf.sl; omega), Option.bind_some, fold_map, fold_filter, ← hw, fold_setR (fun i x => if A i && atS nw (fun s => s.plastic && recP ((cells[s.target.toNat]?).elim none (·.2.2)) t r.window) i then max (x - r.loss) r.least else x) fun acc k a hl ha hx => ?_]
    · rfl
    · obtain ⟨s, e1, e2⟩ := getS (nw := nw) (i := k) (hw ▸ lt_of_get hx)
      have ht := (wf.ss s e2).tgt
      have et : s.target = ((s.target.toNat : Nat) : Int) := by omega
      obtain ⟨c, hcell⟩ : ∃ c, cells[s.target.toNat]? = some c := ⟨_, List.getElem?_eq_getElem (by rw [hc]; omega)⟩
      unfold atS
      rw [e1]
      cases hA : A k with
      | false => simp [set_same ha]
      | true =>
        simp only [if_true, Bool.true_and, Option.any_some]
        rw [atI_n, e1, Option.bind_some]
        have hlast : atI (cells.map (·.2.2)) s.target = some c.2.2 := by
          rw [atI_z ht.1]
          exact map_get hcell
        rw [hlast, Option.bind_some, recent_ok, Option.bind_some, atI_n, hx, hcell]
        simp only [Option.elim_some, Option.bind_some]
        cases s.plastic with
        | false => simp [set_same ha]
        | true =>
          simp only [if_true, Bool.true_and, Option.bind_some]
          cases recP _ _ _ with
          | false => simp [set_same ha]
          | true =>
            simp only [if_true]
            unfold m_depressed
            rw [Option.bind_some, setM_n (lt_of_get ha)]
            rfl
theorem gains_ok {nw : Network} (wf : WNet nw) {spk : List Int} {came : List (Option Int)} {w : List Int} {t : Nat} (hw : w.length = nw.synapses.length) (hc : came.length = nw.synapses.length) (hs : spk.length ≤ 1000) :
    m_u_after_gains nw w spk came (t : Int) = some (gainP nw spk came t w) := by
  unfold m_u_after_gains gainP
  simp only [bndv]
  cases nw.rule with
  | none => rfl
  | some r =>
    simp only
    obtain ⟨d, hd, hd2⟩ := dcM_set (xs := spk) (acc := [])
    have hd2 : ∀ x : Int, (valT d (.inl x)).isSome = decide (x ∈ spk) := fun x => by rw [hd2 x]; rfl
    rw [szM_ok (by have := wf.sl; omega), Option.bind_some, szM_ok (by omega), Option.bind_some, hd, Option.bind_some, enumI_eq]
    have em : (nw.synapses.mapIdx fun i x => ((0 : Int) + (i : Int), x)) = (List.range nw.synapses.length).map fun i : Nat => ((i : Int), (nw.synapses[i]?).getD ⟨0, 0, 0, 0, false⟩) := by
      refine List.ext_getElem? fun i => ?_
      rw [List.getElem?_mapIdx, List.getElem?_map]
      by_cases h : i < nw.synapses.length
      · rw [List.getElem?_eq_getElem h, List.getElem?_range h]
        simp [List.getElem?_eq_getElem h]
      · rw [List.getElem?_eq_none (by omega), List.getElem?_eq_none (by rw [List.length_range]; omega)]
        rfl
    rw [em, fold_map, ← hw, fold_setR (fun i x => if atS nw (fun s => s.plastic && (decide (s.target ∈ spk) && recP ((came[i]?).getD none) t r.window)) i then min (x + r.gain) r.most else x) fun acc k a hl ha hx => ?_]
    · rfl
    · obtain ⟨s, e1, e2⟩ := getS (nw := nw) (i := k) (hw ▸ lt_of_get hx)
      obtain ⟨c, hcc⟩ : ∃ c, came[k]? = some c := ⟨_, List.getElem?_eq_getElem (by rw [hc, ← hw]; exact lt_of_get hx)⟩
      unfold atS
      simp only [e1, Option.getD_some, Option.any_some, hd2, atI_n, hcc, hx, Option.bind_some, recent_ok]
      cases s.plastic with
      | false => simp [set_same ha]
      | true =>
        simp only [if_true, Bool.true_and]
        cases decide (s.target ∈ spk) with
        | false => simp [set_same ha]
        | true =>
          simp only [if_true, Bool.true_and, Option.bind_some]
          cases recP c _ _ with
          | false => simp [set_same ha]
          | true =>
            simp only [if_true]
            unfold m_potentiated
            rw [Option.bind_some, setM_n (lt_of_get ha)]
            rfl
theorem getN {nw : Network} {i : Nat} (h : i < nw.neurons.length) : ∃ s, nw.neurons[i]? = some s ∧ s ∈ nw.neurons := ⟨_, List.getElem?_eq_getElem h, List.getElem_mem h⟩
/-- a list told by its places -/
theorem mapIdx_range {α β : Type} {xs : List α} {f : Nat → α → β} {g : Nat → β} (h : ∀ i x, xs[i]? = some x → f i x = g i) : xs.mapIdx f = (List.range xs.length).map g := by
  refine List.ext_getElem? fun i => ?_
  rw [List.getElem?_mapIdx, List.getElem?_map]
  by_cases z : i < xs.length
  · rw [List.getElem?_eq_getElem z, List.getElem?_range z]
    exact congrArg some (h i _ (List.getElem?_eq_getElem z))
  · rw [List.getElem?_eq_none (by omega), List.getElem?_eq_none (by rw [List.length_range]; omega)]
    rfl
theorem spk_len {nw : Network} {sum : Nat → Int} {cells : List (Int × Int × Option Int)} (wf : WNet nw) : (spkP nw sum cells).length ≤ 1000 := by
  unfold spkP
  rw [List.length_map]
  have := List.length_filter_le (fun n => (cellP nw sum cells n).2.2) (List.range nw.neurons.length)
  rw [List.length_range] at this
  have := wf.nl
  omega
theorem cellP_some {nw : Network} {sum : Nat → Int} {cells : List (Int × Int × Option Int)} {i : Nat} {c : Int × Int × Option Int} {u : Neuron} (h1 : nw.neurons[i]? = some u) (h2 : cells[i]? = some c) : cellP nw sum cells i = stepP u c.1 c.2.1 (sum i) := by
  unfold cellP
  rw [h1, h2]
theorem stepP_rest {u : Neuron} (hu : WN u) {p r i : Int} (h : 0 ≤ r) : 0 ≤ (stepP u p r i).2.1 := by
  unfold stepP
  have := hu.refr
  by_cases h1 : 0 < r
  · rw [if_pos h1]
    show 0 ≤ r - 1
    omega
  · rw [if_neg h1]
    generalize max _ u.floor = z
    by_cases h2 : z < u.threshold
    · rw [if_pos h2]
      exact h
    · rw [if_neg h2]
      exact this
theorem tick_inv {nw : Network} (wf : WNet nw) {t : Nat} {s : StP} (h : InvP nw t s) (stim : List Int) : InvP nw (t + 1) (tickP nw t stim s) := by
  constructor
  · unfold tickP gainP lossP
    simp only
    cases nw.rule <;> simp [h.w]
  · unfold tickP
    simp [h.came]
  · unfold tickP
    simp [h.cells]
  · unfold tickP
    simp [h.hist]
  · unfold tickP
    simp [h.spikes]
  · intro i c hc
    unfold tickP at hc
    simp only [List.getElem?_mapIdx] at hc
    cases z : s.came[i]? with
    | none => rw [z] at hc; cases hc
    | some d =>
      rw [z] at hc
      simp only [Option.map_some, Option.some.injEq] at hc
      split at hc
      · cases hc
        omega
      · subst hc
        have := h.old i c z
        omega
  · intro c hc
    unfold tickP at hc
    simp only at hc
    obtain ⟨i, hi, e⟩ := List.mem_mapIdx.mp hc
    subst e
    obtain ⟨u, hu, hm⟩ := getN (nw := nw) (i := i) (by rw [← h.cells]; exact hi)
    show 0 ≤ (cellP nw _ s.cells i).2.1
    rw [cellP_some hu (List.getElem?_eq_getElem hi)]
    exact stepP_rest (wf.ns u hm) (h.rest _ (List.getElem_mem hi))
theorem enum_spk {nw : Network} {g : Nat → Int × Int × Bool} : lcM (fun x : Int × Int × Int × Bool => some x.2.2.2) (fun x : Int × Int × Int × Bool => (some x.1 : Option Int)) (enumI 0 ((List.range nw.neurons.length).map g)) = some (((List.range nw.neurons.length).filter fun n => (g n).2.2).map fun n : Nat => (n : Int)) := by
  rw [lcM_ok (fun x : Int × Int × Int × Bool => x.2.2.2) (fun x : Int × Int × Int × Bool => x.1) (fun _ _ => rfl) (fun _ _ => rfl), enum0_filter, List.length_map, List.length_range]
  congr 2
  refine List.filter_congr fun i hi => ?_
  rw [List.getElem?_map, List.getElem?_range (List.mem_range.mp hi)]
  rfl
theorem afters_ok {nw : Network} (wf : WNet nw) {cells : List (Int × Int × Option Int)} {sums : List Int} {sum : Nat → Int} (hc : cells.length = nw.neurons.length) (hs : ∀ n : Nat, n < nw.neurons.length → sums[n]? = some (sum n)) :
    m_after_steps nw (cells.map (·.1)) (cells.map (·.2.1)) sums = some ((cells.mapIdx fun n _ => (cellP nw sum cells n).1), (cells.mapIdx fun n _ => (cellP nw sum cells n).2.1), spkP nw sum cells) := by
  have nl := wf.nl
  have e1 : mapO (fun x1 : Int × Neuron => ((atI (cells.map (·.1)) x1.1).bind fun v2 => (atI (cells.map (·.2.1)) x1.1).bind fun v4 => (atI sums x1.1).bind fun v6 => (m_step x1.2 v2 v4 v6).bind fun rv8 => some rv8 : Option (Int × Int × Bool))) (enumI 0 nw.neurons) = some ((List.range nw.neurons.length).map (cellP nw sum cells)) := by
    rw [enumI_eq, mapO_ok (fun x : Int × Neuron => cellP nw sum cells x.1.toNat) fun x hx => ?_]
    · congr 1
      rw [mapIdx_range (g := fun i : Nat => ((i : Int), (nw.neurons[i]?).getD ⟨0, 0, 0, 0, false⟩)) (fun i x h => by rw [h, Int.zero_add]; rfl), List.map_map]
      refine List.map_congr_left fun i _ => ?_
      show cellP nw sum cells ((i : Int)).toNat = _
      rw [Int.toNat_natCast]
    · obtain ⟨i, hi, e⟩ := List.mem_mapIdx.mp hx
      subst e
      obtain ⟨c, hcc⟩ : ∃ c, cells[i]? = some c := ⟨_, List.getElem?_eq_getElem (by rw [hc]; exact hi)⟩
      have e1 : nw.neurons[i]? = some nw.neurons[i] := List.getElem?_eq_getElem hi
      simp only [Int.zero_add, atI_n, map_get hcc, hs i hi, Option.bind_some, step_ok (wf.ns _ (List.getElem_mem hi)), Int.toNat_natCast]
      unfold cellP
      rw [e1, hcc]
  have l5 : ((List.range nw.neurons.length).map (cellP nw sum cells)).length ≤ 1000 := by
    rw [List.length_map, List.length_range]
    exact nl
  have e7 : lcM (fun x : Int × Int × Int × Bool => some x.2.2.2) (fun x : Int × Int × Int × Bool => (some x.1 : Option Int)) (enumI 0 ((List.range nw.neurons.length).map (cellP nw sum cells))) = some (spkP nw sum cells) := enum_spk
  have ce : ∀ {β : Type} (g : Int × Int × Bool → β), ((List.range nw.neurons.length).map (cellP nw sum cells)).map g = cells.mapIdx fun n _ => g (cellP nw sum cells n) := fun g => by
    rw [← hc, List.map_map, mapIdx_range (g := fun n => g (cellP nw sum cells n)) fun _ _ _ => rfl]
    rfl
  unfold m_after_steps
  rw [szM_ok (by rw [enumI_len]; omega), Option.bind_some, e1, Option.bind_some, szM_ok (by rw [enumI_len]; omega), Option.bind_some, e7, Option.bind_some, szM_ok (by omega), Option.bind_some, mapO_ok (fun x : Int × Int × Bool => x.1) (fun _ _ => rfl), Option.bind_some, Option.bind_some, mapO_ok (fun x : Int × Int × Bool => x.2.1) (fun _ _ => rfl), Option.bind_some, ce, ce]
theorem spkS_ok {nw : Network} {stim spk : List Int} (h1 : stim.length ≤ 1000) (h2 : spk.length ≤ 1000) : ∃ d, m_u_spiking_sources nw stim spk = some d ∧ ∀ x : Int, (valT d (.inl x)).isSome = decide (x ∈ stim ++ spk.map (nw.inputs + ·)) := by
  unfold m_u_spiking_sources
  obtain ⟨d, hd, hd2⟩ := dcM_set (xs := stim ++ spk.map (nw.inputs + ·)) (acc := [])
  refine ⟨d, ?_, fun x => by rw [hd2 x]; rfl⟩
  rw [szM_ok (by omega), Option.bind_some, mapO_ok (fun x => nw.inputs + x) (fun _ _ => rfl), Option.bind_some, catM_ok (by rw [List.length_map]; omega), Option.bind_some, szM_ok (by rw [List.length_append, List.length_map]; omega), Option.bind_some, hd]
  rfl
theorem fired_snoc {fired : List (List (L2.Key × Bool))} {hist : List (List Int)} (f : FiredOk fired hist) {d : List (L2.Key × Bool)} {h : List Int} (e : ∀ x : Int, (valT d (.inl x)).isSome = decide (x ∈ h)) : FiredOk (fired ++ [d]) (hist ++ [h]) := by
  refine ⟨by rw [List.length_append, List.length_append, f.1]; rfl, fun i d' h' h1 h2 => ?_⟩
  by_cases z : i < fired.length
  · rw [List.getElem?_append_left z] at h1
    rw [List.getElem?_append_left (by rw [← f.1]; exact z)] at h2
    exact f.2 i d' h' h1 h2
  · rw [List.getElem?_append_right (by omega)] at h1
    rw [List.getElem?_append_right (by rw [← f.1]; omega), ← f.1] at h2
    cases q : i - fired.length with
    | zero =>
      rw [q] at h1 h2
      cases h1
      cases h2
      exact e
    | succ n =>
      rw [q] at h1
      simp at h1
theorem bndv_eq {α β : Type} (a : α) (k : α → Option β) : bndv a k = k a := by
  unfold bndv
  exact Eq.refl _
theorem bind_eq {α β : Type} {o : Option α} {a : α} {f : α → Option β} (h : o = some a) : o.bind f = f a := by
  rw [h]
  exact Option.bind_some ..

abbrev CoreSt : Type := List Int × List Int × List (Option Int) × List Int × List (Option Int)
abbrev RunSt : Type := CoreSt × List (List (L2.Key × Bool)) × List (List Int)
/-- the state of the neurons and synapses, told by the plain one -/
def coreP (s : StP) : CoreSt := (s.cells.map (·.1), s.cells.map (·.2.1), s.cells.map (·.2.2), s.w, s.came)
/-- the state of run, told by the plain one -/
def RelR (nw : Network) (t : Nat) (r : RunSt) (s : StP) : Prop :=
  InvP nw t s ∧ ∃ fired, FiredOk fired s.hist ∧ r = (coreP s, fired, s.spikes)
def goP (nw : Network) : Nat → List (List Int) → StP → StP
  | _, [], s => s
  | t, x :: xs, s => goP nw (t + 1) xs (tickP nw t x s)
def startP (nw : Network) : StP := ⟨nw.synapses.map (·.weight), List.replicate nw.synapses.length none, List.replicate nw.neurons.length (0, 0, none), [], []⟩
def runP (nw : Network) (stims : List (List Int)) : StP := goP nw 0 stims (startP nw)
theorem start_inv {nw : Network} : InvP nw 0 (startP nw) := by
  constructor
  · simp [startP]
  · simp [startP]
  · simp [startP]
  · rfl
  · rfl
  · intro i c h
    unfold startP at h
    simp only [List.getElem?_replicate] at h
    split at h <;> cases h
  · intro c h
    unfold startP at h
    rw [List.eq_of_mem_replicate h]
    exact Int.le_refl _
def runStep (network : Network) (s_8 : RunSt) (x7 : Int × List Int) : Option RunSt := match s_8 with
  | (state9, fired10, spikes11) => (m_u_arriving network fired10 x7.1).bind fun rv12 =>
  (m_state_after network state9 rv12 x7.1).bind fun rv14 =>
  bndv rv14 fun (state16, spiking17) =>
  (m_u_spiking_sources network x7.2 spiking17).bind fun rv20 =>
  (appM fired10 rv20).bind fun fired22 =>
  (appM spikes11 spiking17).bind fun spikes24 =>
  some (state16, fired22, spikes24)
theorem map_mapIdx' {α β γ : Type} {xs : List α} {f : Nat → α → β} {g : β → γ} : (xs.mapIdx f).map g = xs.mapIdx fun i x => g (f i x) := by
  refine List.ext_getElem? fun i => ?_
  rw [List.getElem?_map, List.getElem?_mapIdx, List.getElem?_mapIdx]
  cases xs[i]? <;> rfl
theorem mapIdx_map' {α β γ : Type} {xs : List α} {f : α → β} {g : Nat → β → γ} : (xs.map f).mapIdx g = xs.mapIdx fun i x => g i (f x) := by
  refine List.ext_getElem? fun i => ?_
  rw [List.getElem?_mapIdx, List.getElem?_map, List.getElem?_mapIdx]
  cases xs[i]? <;> rfl
/-- one tick of the neurons and synapses -/
theorem after_ok {nw : Network} (wf : WNet nw) {t : Nat} {s : StP} (inv : InvP nw t s) (A : Nat → Bool) :
    m_state_after nw (coreP s) (((List.range nw.synapses.length).filter A).map fun i : Nat => (i : Int)) (t : Int) =
      some (((s.cells.mapIdx fun n _ => (cellP nw (sumP nw A s.w) s.cells n).1), (s.cells.mapIdx fun n _ => (cellP nw (sumP nw A s.w) s.cells n).2.1),
        (s.cells.mapIdx fun n c => if (cellP nw (sumP nw A s.w) s.cells n).2.2 then some (t : Int) else c.2.2),
        gainP nw (spkP nw (sumP nw A s.w) s.cells) (s.came.mapIdx fun i c => if A i then some (t : Int) else c) t (lossP nw A s.cells t s.w),
        (s.came.mapIdx fun i c => if A i then some (t : Int) else c)), spkP nw (sumP nw A s.w) s.cells) := by
  obtain ⟨sums, e2, e2l, e2s⟩ := sums_ok wf (A := A) inv.w
  have nl := wf.nl
  have sl := wf.sl
  have ic := inv.cells
  have icm := inv.came
  have e3 := losses_ok wf (A := A) (t := t) inv.w inv.cells
  have e4 := noted_ok (xs := s.came) (p := A) (t := (t : Int)) inv.came.symm (by omega)
  have e5 := afters_ok wf inv.cells e2s
  have sl : (spkP nw (sumP nw A s.w) s.cells).length ≤ 1000 := spk_len wf
  have e8 := gains_ok wf (spk := spkP nw (sumP nw A s.w) s.cells) (came := s.came.mapIdx fun i c => if A i then some (t : Int) else c) (w := lossP nw A s.cells t s.w) (t := t) (by unfold lossP; cases nw.rule <;> simp [inv.w]) (by simp [inv.came]) sl
  have e9 := noted_ok (xs := s.cells.map (·.2.2)) (p := fun n => (cellP nw (sumP nw A s.w) s.cells n).2.2) (t := (t : Int)) (n := nw.neurons.length) (by rw [List.length_map]; exact inv.cells.symm) (by rw [List.length_map]; omega)
  have e9 : m_u_noted (s.cells.map (·.2.2)) (spkP nw (sumP nw A s.w) s.cells) (t : Int) = _ := e9
  unfold m_state_after
  refine (bndv_eq _ _).trans ?_
  unfold coreP
  simp only
  rw [e2, Option.bind_some, e3, Option.bind_some, e4, Option.bind_some, e5, Option.bind_some]
  refine (bndv_eq _ _).trans ?_
  simp only
  rw [e8, Option.bind_some, e9, Option.bind_some, mapIdx_map']
theorem run_step {nw : Network} (wf : WNet nw) {t : Nat} {r : RunSt} {s : StP} (h : RelR nw t r s) {stim : List Int} (hst : stim.length ≤ 1000) (ht : t ≤ 1000) : ∃ r', runStep nw r ((t : Int), stim) = some r' ∧ RelR nw (t + 1) r' (tickP nw t stim s) := by
  obtain ⟨inv, fired, hf, rfl⟩ := h
  have inv' := tick_inv wf inv stim
  have hl : s.hist.length = t := inv.hist
  have e1 := arriving_ok wf hf
  rw [hl] at e1
  have sl : (spkP nw (sumP nw (atS nw (arrP s.hist t)) s.w) s.cells).length ≤ 1000 := spk_len wf
  obtain ⟨d, e10, e11⟩ := spkS_ok (nw := nw) hst sl
  have hfl : fired.length ≤ 1000 := by rw [hf.1, hl]; exact ht
  refine ⟨_, ?_, inv', fired ++ [d], fired_snoc hf e11, rfl⟩
  unfold runStep
  simp only
  rw [e1, Option.bind_some, after_ok wf inv, Option.bind_some, bndv_eq]
  simp only
  rw [e10, Option.bind_some, appM_ok (by omega), Option.bind_some, appM_ok (by have := inv.spikes; omega), Option.bind_some]
  unfold tickP coreP
  simp only [map_mapIdx']
theorem run_go {nw : Network} (wf : WNet nw) : ∀ {stims : List (List Int)} {t : Nat} {r : RunSt} {s : StP}, RelR nw t r s → (∀ x ∈ stims, x.length ≤ 1000) → t + stims.length ≤ 1000 → ∃ r', (enumI (t : Int) stims).foldlM (runStep nw) r = some r' ∧ RelR nw (t + stims.length) r' (goP nw t stims s)
  | [], t, r, s, h, _, _ => ⟨r, rfl, h⟩
  | x :: xs, t, r, s, h, hx, hl => by
    rw [List.length_cons] at hl
    obtain ⟨r1, h1, h2⟩ := run_step wf h (hx x List.mem_cons_self) (by omega)
    obtain ⟨r2, h3, h4⟩ := run_go wf h2 (fun y hy => hx y (List.mem_cons_of_mem _ hy)) (by omega)
    refine ⟨r2, ?_, by rw [List.length_cons, show t + (xs.length + 1) = t + 1 + xs.length by omega]; exact h4⟩
    unfold enumI
    rw [fold_cons, h1, Option.bind_some, show (t : Int) + 1 = ((t + 1 : Nat) : Int) by omega]
    exact h3
theorem repV_ok {α : Type} {x : α} {n : Nat} (h : n ≤ 1000) : repVM x (n : Int) = some (List.replicate n x) := by
  unfold repVM
  rw [if_pos ⟨by omega, by omega⟩, Int.toNat_natCast]
theorem start_ok {nw : Network} (wf : WNet nw) : m_state_at_start nw = some (coreP (startP nw)) := by
  have nl := wf.nl
  have sl := wf.sl
  unfold m_state_at_start
  rw [repV_ok nl, Option.bind_some, szM_ok (by omega), Option.bind_some, mapO_ok (fun x : Synapse => x.weight) (fun _ _ => rfl), Option.bind_some, repV_ok nl, Option.bind_some, repV_ok sl, Option.bind_some]
  unfold coreP startP
  simp
theorem run_ok {nw : Network} (wf : WNet nw) {stims : List (List Int)} (hx : ∀ x ∈ stims, x.length ≤ 1000) (hl : stims.length ≤ 1000) : m_run nw stims = some ⟨(runP nw stims).spikes, (runP nw stims).w⟩ := by
  have nl := wf.nl
  have sl := wf.sl
  obtain ⟨r, h1, inv, fired, hf, h2⟩ := run_go (r := (coreP (startP nw), [], [])) wf (s := startP nw) (t := 0) ⟨start_inv, [], ⟨rfl, fun i d h q => by simp at q⟩, rfl⟩ hx (by omega)
  unfold m_run
  refine (bind_eq (start_ok wf)).trans ?_
  refine (bndv_eq _ _).trans ?_
  refine (bndv_eq _ _).trans ?_
  refine (bind_eq (show List.foldlM (runStep nw) _ (enumI ((0 : Nat) : Int) stims) = some r from h1)).trans ?_
  rw [h2]
  have hw : m_weights_of (coreP (goP nw 0 stims (startP nw))) = some (goP nw 0 stims (startP nw)).w := by
    unfold m_weights_of coreP
    simp only
    rw [szM_ok (by have := inv.w; omega)]
    rfl
  refine (bind_eq hw).trans ?_
  rfl
/-! ### what the spikes up to now will bring -/
def dlyP (y : Synapse) (hist : List (List Int)) (t k : Nat) : Bool := decide ((k : Int) + 1 ≤ y.delay) && (decide (y.delay ≤ (t : Int) + k) && decide (y.source ∈ (hist[((t : Int) + k - y.delay).toNat]?).getD []))
/-- the sum that the neuron n gets k ticks after the next one, which is t -/
def pendP (nw : Network) (hist : List (List Int)) (t k n : Nat) : Int := (nw.synapses.map fun y => if dlyP y hist t k && decide (y.target = (n : Int)) then y.weight else 0).sum
/-- what the sources that spike now bring with the delay d -/
def bringP (nw : Network) (fired : List Int) (d : Int) (n : Nat) : Int := (nw.synapses.map fun y => if decide (y.delay = d) && (decide (y.source ∈ fired) && decide (y.target = (n : Int))) then y.weight else 0).sum
theorem sum_add {α : Type} {f g h : α → Int} : ∀ {xs : List α}, (∀ x ∈ xs, f x = g x + h x) → (xs.map f).sum = (xs.map g).sum + (xs.map h).sum
  | [], _ => rfl
  | x :: xs, e => by
    rw [List.map_cons, List.map_cons, List.map_cons, List.sum_cons, List.sum_cons, List.sum_cons, e x List.mem_cons_self, sum_add fun y hy => e y (List.mem_cons_of_mem _ hy)]
    omega
theorem pend_next {nw : Network} {hist : List (List Int)} {t : Nat} (hl : hist.length = t) (fired : List Int) (k n : Nat) : pendP nw (hist ++ [fired]) (t + 1) k n = pendP nw hist t (k + 1) n + bringP nw fired ((k : Int) + 1) n := by
  refine sum_add fun y _ => ?_
  by_cases ht : y.target = (n : Int)
  · rw [decide_eq_true ht, Bool.and_true, Bool.and_true, Bool.and_true]
    by_cases h1 : y.delay = (k : Int) + 1
    · have e1 : dlyP y hist t (k + 1) = false := by
        unfold dlyP
        rw [decide_eq_false (by omega)]
        rfl
      have e2 : dlyP y (hist ++ [fired]) (t + 1) k = decide (y.source ∈ fired) := by
        unfold dlyP
        rw [decide_eq_true (by omega), decide_eq_true (by omega), Bool.true_and, Bool.true_and, show (((t + 1 : Nat) : Int) + k - y.delay).toNat = t by omega, List.getElem?_append_right (by omega), hl, Nat.sub_self]
        rfl
      rw [e1, e2, decide_eq_true h1, Bool.true_and]
      simp
    · have e1 : dlyP y (hist ++ [fired]) (t + 1) k = dlyP y hist t (k + 1) := by
        unfold dlyP
        by_cases h2 : (k : Int) + 1 ≤ y.delay
        · rw [decide_eq_true h2, decide_eq_true (show ((k + 1 : Nat) : Int) + 1 ≤ y.delay by omega), Bool.true_and, Bool.true_and]
          by_cases h3 : y.delay ≤ ((t + 1 : Nat) : Int) + k
          · rw [decide_eq_true h3, decide_eq_true (show y.delay ≤ (t : Int) + ((k + 1 : Nat) : Int) by omega), List.getElem?_append_left (by omega), show (((t + 1 : Nat) : Int) + k - y.delay).toNat = ((t : Int) + ((k + 1 : Nat) : Int) - y.delay).toNat by omega]
          · rw [decide_eq_false h3, decide_eq_false (show ¬ y.delay ≤ (t : Int) + ((k + 1 : Nat) : Int) by omega)]
            rfl
        · rw [decide_eq_false h2, decide_eq_false (show ¬ ((k + 1 : Nat) : Int) + 1 ≤ y.delay by omega)]
          rfl
      rw [e1, decide_eq_false h1, Bool.false_and]
      simp
  · rw [decide_eq_false ht, Bool.and_false, Bool.and_false, Bool.and_false, Bool.and_false]
    rfl
theorem sum_zero {α : Type} {f : α → Int} : ∀ {xs : List α}, (∀ x ∈ xs, f x = 0) → (xs.map f).sum = 0
  | [], _ => rfl
  | x :: xs, e => by
    rw [List.map_cons, List.sum_cons, e x List.mem_cons_self, sum_zero fun y hy => e y (List.mem_cons_of_mem _ hy)]
    rfl
theorem pend_far {nw : Network} {hist : List (List Int)} {t k n : Nat} (h : ∀ y ∈ nw.synapses, y.delay ≤ (k : Int)) : pendP nw hist t k n = 0 := by
  refine sum_zero fun y hy => ?_
  unfold dlyP
  rw [decide_eq_false (by have := h y hy; omega)]
  rfl
theorem pend_start {nw : Network} {k n : Nat} : pendP nw [] 0 k n = 0 := by
  refine sum_zero fun y _ => ?_
  unfold dlyP
  simp
theorem map_range {α β : Type} {xs : List α} {f : α → β} {g : Nat → β} (h : ∀ (i : Nat) x, xs[i]? = some x → g i = f x) : (List.range xs.length).map g = xs.map f := by
  refine List.ext_getElem? fun i => ?_
  rw [List.getElem?_map, List.getElem?_map]
  by_cases q : i < xs.length
  · rw [List.getElem?_range q, List.getElem?_eq_getElem q]
    exact congrArg some (h i _ (List.getElem?_eq_getElem q))
  · rw [List.getElem?_eq_none (by rw [List.length_range]; omega), List.getElem?_eq_none (by omega)]
    rfl
/-- what arrives in a tick is what was to come -/
theorem pend_sum {nw : Network} (wf : WNet nw) {hist : List (List Int)} {t n : Nat} : sumP nw (atS nw (arrP hist t)) (nw.synapses.map (·.weight)) n = pendP nw hist t 0 n := by
  unfold sumP pendP
  congr 1
  refine map_range fun i y e => ?_
  have hd := (wf.ss y (List.mem_of_getElem? e)).del
  rw [List.getElem?_map, e]
  unfold atS
  rw [e]
  show (if arrP hist t y && decide (y.target = (n : Int)) then y.weight else 0) = _
  have : arrP hist t y = dlyP y hist t 0 := by
    unfold arrP dlyP
    rw [decide_eq_true (show ((0 : Nat) : Int) + 1 ≤ y.delay by omega), Bool.true_and, show (t : Int) + ((0 : Nat) : Int) = (t : Int) by omega]
  rw [this]
theorem still_w {nw : Network} (h : nw.rule = none) : ∀ {stims : List (List Int)} {t : Nat} {s : StP}, (goP nw t stims s).w = s.w
  | [], _, _ => rfl
  | x :: xs, t, s => by
    show (goP nw (t + 1) xs (tickP nw t x s)).w = s.w
    rw [still_w h (stims := xs)]
    show gainP nw _ _ t (lossP nw _ _ t s.w) = s.w
    unfold gainP lossP
    rw [h]
/-! ### watches: what is owed, against the plain meaning -/
def nextW (d w : Nat) (paid owed : Bool) : Nat :=
  let w1 := if 0 < w then (if paid then 0 else w - 1) else w
  if w1 = 0 ∧ owed = true then d else w1
/-- the watch before each tick -/
def watchAt (d : Nat) (paid owed : Nat → Bool) : Nat → Nat
  | 0 => 0
  | t + 1 => nextW d (watchAt d paid owed t) (paid t) (owed t)
/-- the tick t breaks it, by its plain meaning -/
def dueAt (d : Nat) (paid owed : Nat → Bool) (t : Nat) : Prop := d ≤ t ∧ owed (t - d) = true ∧ ∀ k, t - d < k → k ≤ t → paid k = false
/-- what a watch w before the tick t tells: owed since the tick t + w - 1 - d, not paid -/
def WInv (d : Nat) (paid owed : Nat → Bool) (t w : Nat) : Prop := w ≤ d ∧ (0 < w → d + 1 ≤ t + w ∧ owed (t + w - 1 - d) = true ∧ ∀ k, t + w - 1 - d < k → k < t → paid k = false)
theorem watch_inv {d : Nat} (hd : 1 ≤ d) {paid owed : Nat → Bool} : ∀ t, WInv d paid owed t (watchAt d paid owed t)
  | 0 => ⟨Nat.zero_le _, fun h => absurd h (Nat.lt_irrefl 0)⟩
  | t + 1 => by
    have ih := watch_inv hd (paid := paid) (owed := owed) t
    show WInv d paid owed (t + 1) (nextW d (watchAt d paid owed t) (paid t) (owed t))
    generalize watchAt d paid owed t = w at ih
    obtain ⟨i1, i2⟩ := ih
    unfold nextW
    simp only
    generalize hw : (if 0 < w then (if paid t = true then 0 else w - 1) else w) = w1
    have hw1 : w1 = 0 ∨ (1 < w ∧ w1 = w - 1 ∧ paid t = false) := by
      by_cases h0 : 0 < w
      · rw [if_pos h0] at hw
        cases hp : paid t with
        | true => rw [hp, if_pos rfl] at hw; exact .inl hw.symm
        | false =>
          rw [hp, if_neg Bool.false_ne_true] at hw
          by_cases h1 : w = 1
          · exact .inl (by omega)
          · exact .inr ⟨by omega, hw.symm, rfl⟩
      · rw [if_neg h0] at hw
        exact .inl (by omega)
    by_cases h : w1 = 0 ∧ owed t = true
    · rw [if_pos h]
      refine ⟨Nat.le_refl _, fun _ => ⟨by omega, ?_, fun k h1 h2 => by omega⟩⟩
      rw [show t + 1 + d - 1 - d = t by omega]
      exact h.2
    · rw [if_neg h]
      rcases hw1 with e | ⟨e1, e2, e3⟩
      · rw [e]
        exact ⟨Nat.zero_le _, fun z => absurd z (Nat.lt_irrefl 0)⟩
      · obtain ⟨j1, j2, j3⟩ := i2 (by omega)
        refine ⟨by omega, fun _ => ⟨by omega, by rw [show t + 1 + w1 - 1 - d = t + w - 1 - d by omega]; exact j2, fun k h1 h2 => ?_⟩⟩
        by_cases hk : k = t
        · rw [hk]; exact e3
        · exact j3 k (by omega) (by omega)
/-- a watch runs down where nothing pays -/
theorem watch_run {d : Nat} {paid owed : Nat → Bool} {t : Nat} : ∀ {j : Nat}, j < watchAt d paid owed t → (∀ k, t ≤ k → k < t + j → paid k = false) → watchAt d paid owed (t + j) = watchAt d paid owed t - j
  | 0, _, _ => rfl
  | j + 1, h, hp => by
    have ih := watch_run (d := d) (paid := paid) (owed := owed) (t := t) (j := j) (by omega) fun k h1 h2 => hp k h1 (by omega)
    show nextW d (watchAt d paid owed (t + j)) (paid (t + j)) (owed (t + j)) = _
    rw [ih, hp (t + j) (by omega) (by omega)]
    unfold nextW
    simp only [Bool.false_eq_true, if_false]
    have e : (if 0 < watchAt d paid owed t - j then watchAt d paid owed t - j - 1 else watchAt d paid owed t - j) = watchAt d paid owed t - (j + 1) := by
      rw [if_pos (by omega)]
      omega
    rw [e, if_neg (fun z => by omega)]
/-- as long as it was not broken, the watch tells the plain meaning -/
theorem watch_due {d : Nat} (hd : 1 ≤ d) {paid owed : Nat → Bool} {t : Nat} (hn : ∀ u, u < t → ¬ dueAt d paid owed u) : (watchAt d paid owed t = 1 ∧ paid t = false) ↔ dueAt d paid owed t := by
  constructor
  · intro ⟨h1, h2⟩
    obtain ⟨_, i2⟩ := watch_inv hd (paid := paid) (owed := owed) t
    rw [h1] at i2
    obtain ⟨j1, j2, j3⟩ := i2 (by omega)
    refine ⟨by omega, by rw [show t + 1 - 1 - d = t - d by omega] at j2; exact j2, fun k q1 q2 => ?_⟩
    by_cases hk : k = t
    · rw [hk]; exact h2
    · exact j3 k (by omega) (by omega)
  · intro ⟨h1, h2, h3⟩
    have hpt := h3 t (by omega) (Nat.le_refl _)
    refine ⟨?_, hpt⟩
    -- behind the tick t - d something is owed
    have pos : 0 < watchAt d paid owed (t - d + 1) := by
      show 0 < nextW d (watchAt d paid owed (t - d)) (paid (t - d)) (owed (t - d))
      unfold nextW
      simp only
      generalize (if 0 < watchAt d paid owed (t - d) then (if paid (t - d) = true then 0 else watchAt d paid owed (t - d) - 1) else watchAt d paid owed (t - d)) = w1
      by_cases z : w1 = 0 ∧ owed (t - d) = true
      · rw [if_pos z]; omega
      · rw [if_neg z]
        have : w1 ≠ 0 := fun q => z ⟨q, h2⟩
        omega
    obtain ⟨i1, i2⟩ := watch_inv hd (paid := paid) (owed := owed) (t - d + 1)
    obtain ⟨j1, j2, j3⟩ := i2 pos
    generalize hw : watchAt d paid owed (t - d + 1) = w at pos i1 j1 j2 j3
    -- it can not be owed for less than d ticks: it would have been broken before
    have full : w = d := by
      by_cases q : w = d
      · exact q
      · exfalso
        refine hn (t - d + w) (by omega) ⟨by omega, ?_, fun k q1 q2 => ?_⟩
        · rw [show t - d + w - d = t - d + 1 + w - 1 - d by omega]
          exact j2
        · by_cases hk : k < t - d + 1
          · exact j3 k (by omega) hk
          · exact h3 k (by omega) (by omega)
    have := watch_run (d := d) (paid := paid) (owed := owed) (t := t - d + 1) (j := d - 1) (by rw [hw]; omega) fun k q1 q2 => h3 k (by omega) (by omega)
    rw [hw, show t - d + 1 + (d - 1) = t by omega] at this
    rw [this]
    omega
/-! ### folds -/
theorem fold_ix {α β : Type} {f : β → α → Option β} (J : Nat → β → Prop) : ∀ {xs : List α} {k : Nat} {b : β}, (∀ (j : Nat) b x, xs[j]? = some x → J (k + j) b → ∃ b', f b x = some b' ∧ J (k + j + 1) b') → J k b → ∃ b', xs.foldlM f b = some b' ∧ J (k + xs.length) b'
  | [], k, b, _, h => ⟨b, rfl, h⟩
  | x :: xs, k, b, h, h0 => by
    obtain ⟨b1, e1, j1⟩ := h 0 b x rfl h0
    obtain ⟨b2, e2, j2⟩ := fold_ix J (xs := xs) (k := k + 1) (b := b1) (fun j b y hy hj => by
      have := h (j + 1) b y (by simpa using hy) (by rw [show k + (j + 1) = k + 1 + j by omega]; exact hj)
      rw [show k + (j + 1) + 1 = k + 1 + j + 1 by omega] at this
      exact this) j1
    refine ⟨b2, ?_, by rw [List.length_cons, show k + (xs.length + 1) = k + 1 + xs.length by omega]; exact j2⟩
    rw [fold_cons, e1, Option.bind_some, e2]
theorem fold_run {α β : Type} {f : β → α → Option β} {all : List α} (S : List α → β) (h : ∀ done x rest, done ++ x :: rest = all → f (S done) x = some (S (done ++ [x]))) : ∀ {rest done : List α}, done ++ rest = all → rest.foldlM f (S done) = some (S all)
  | [], done, e => by rw [List.append_nil] at e; rw [e]; rfl
  | x :: rest, done, e => by
    rw [fold_cons, h done x rest e, Option.bind_some]
    exact fold_run S h (by rw [List.append_assoc]; exact e)
/-! ### what the spikes of a source bring -/
def eP (y : Synapse) : Int × Int × Int := (y.delay - 1, y.target, y.weight)
def effL (ys : List Synapse) (s : Nat) : List (Int × Int × Int) := (ys.filter fun y => decide (y.source = (s : Int))).map eP
def effT (N : Nat) (ys : List Synapse) : List (List (Int × Int × Int)) := (List.range N).map (effL ys)
theorem effT_at {N : Nat} {ys : List Synapse} {s : Nat} (h : s < N) : (effT N ys)[s]? = some (effL ys s) := by
  unfold effT
  rw [List.getElem?_map, List.getElem?_range h]
  rfl
theorem effT_len {N : Nat} {ys : List Synapse} : (effT N ys).length = N := by
  unfold effT
  rw [List.length_map, List.length_range]
theorem effL_len {ys : List Synapse} {s : Nat} : (effL ys s).length ≤ ys.length := by
  unfold effL
  rw [List.length_map]
  exact List.length_filter_le _ _
theorem effL_snoc {ys : List Synapse} {y : Synapse} {s : Nat} : effL (ys ++ [y]) s = if y.source = (s : Int) then effL ys s ++ [eP y] else effL ys s := by
  unfold effL
  rw [List.filter_append, List.map_append]
  by_cases z : y.source = (s : Int)
  · rw [if_pos z, List.filter_cons, if_pos (decide_eq_true z)]
    rfl
  · rw [if_neg z, List.filter_cons, if_neg (by simpa using z)]
    simp
def SrcOk (nw : Network) : Prop := (1 ≤ nw.inputs ∧ nw.inputs ≤ 3) ∧ ∀ y ∈ nw.synapses, 0 ≤ y.source ∧ y.source < nw.inputs + nw.neurons.length
def nS (nw : Network) : Nat := nw.inputs.toNat + nw.neurons.length
theorem effects_ok {nw : Network} (wf : WNet nw) (so : SrcOk nw) : m_u_effects nw = some (effT (nS nw) nw.synapses) := by
  have nl := wf.nl
  have sl := wf.sl
  have hi := so.1
  unfold m_u_effects m_Network_sources
  rw [Option.bind_some, show nw.inputs + (nw.neurons.length : Int) = ((nS nw : Nat) : Int) by unfold nS; omega, rngM_ok (by unfold nS; omega), Option.bind_some, szM_ok (by rw [List.length_map, List.length_range]; unfold nS; omega), Option.bind_some,
    mapO_ok (fun _ => []) (fun _ _ => rfl), Option.bind_some, show (((List.range (nS nw)).map fun k : Nat => (k : Int)).map fun _ => ([] : List (Int × Int × Int))) = effT (nS nw) [] by unfold effT; rw [List.map_map]; rfl]
  have := fold_run (f := (fun (effects13 : (List (List (Int × Int × Int)))) (x11 : Synapse) => (atI effects13 x11.source).bind fun v14 =>
  (appM v14 ((x11.delay - 1), x11.target, x11.weight)).bind fun effects16 =>
  (setM effects13 x11.source effects16).bind fun effects18 =>
  some effects18)) (all := nw.synapses) (effT (nS nw)) (fun done y rest e => by
    have hy := so.2 y (by rw [← e]; simp)
    have hs : y.source.toNat < nS nw := by unfold nS; omega
    have hd : done.length ≤ nw.synapses.length := by rw [← e]; simp
    rw [atI_z hy.1, effT_at hs, Option.bind_some, appM_ok (by have := effL_len (ys := done) (s := y.source.toNat); omega), Option.bind_some, setM_z ⟨hy.1, by rw [effT_len]; exact hs⟩, Option.bind_some]
    congr 1
    refine List.ext_getElem? fun i => ?_
    by_cases hi : i < nS nw
    · rw [effT_at hi, effL_snoc]
      by_cases z : y.source.toNat = i
      · subst z
        rw [List.getElem?_set_self (by rw [effT_len]; exact hs), if_pos (by omega)]
        rfl
      · rw [List.getElem?_set_ne z, effT_at hi, if_neg (by omega)]
    · rw [List.getElem?_eq_none (by rw [List.length_set, effT_len]; omega), List.getElem?_eq_none (by rw [effT_len]; omega)]) (rest := nw.synapses) (done := []) rfl
  rw [this]
  rfl
/-! ### dicts of lists as a table -/
theorem ixK_app {α : Type} {k k' : L2.Key} {v : α} : ∀ {xs : List (L2.Key × α)}, ixK (xs ++ [(k', v)]) k = match ixK xs k with
    | some j => some j
    | none => if k' = k then some xs.length else none
  | [] => by
    show (if k' = k then some 0 else (none : Option Nat).map (· + 1)) = _
    rfl
  | p :: q => by
    show (if p.1 = k then some 0 else (ixK (q ++ [(k', v)]) k).map (· + 1)) = (match (if p.1 = k then some 0 else (ixK q k).map (· + 1)) with
      | some j => some j
      | none => if k' = k then some (p :: q).length else none)
    by_cases z : p.1 = k
    · rw [if_pos z, if_pos z]
    · rw [if_neg z, if_neg z, ixK_app]
      cases ixK q k with
      | some j => rfl
      | none =>
        show (if k' = k then some q.length else none).map (· + 1) = if k' = k then some (q.length + 1) else none
        split <;> rfl
theorem valT_ix {α : Type} {k : L2.Key} : ∀ {xs : List (L2.Key × α)}, valT xs k = (ixK xs k).bind fun j => (xs[j]?).map (·.2)
  | [] => rfl
  | p :: q => by
    unfold valT
    rw [List.find?_cons]
    show _ = (if p.1 = k then some 0 else (ixK q k).map (· + 1)).bind _
    by_cases z : p.1 = k
    · rw [if_pos z, decide_eq_true z]
      rfl
    · rw [if_neg z, decide_eq_false z]
      have := valT_ix (k := k) (xs := q)
      unfold valT at this
      refine Eq.trans this ?_
      cases ixK q k with
      | none => rfl
      | some j => rfl
theorem ixK_lt {α : Type} {k : L2.Key} : ∀ {xs : List (L2.Key × α)} {j : Nat}, ixK xs k = some j → j < xs.length
  | [], j, h => by cases h
  | p :: q, j, h => by
    have h : (if p.1 = k then some 0 else (ixK q k).map (· + 1)) = some j := h
    by_cases z : p.1 = k
    · rw [if_pos z] at h
      cases h
      exact Nat.succ_pos _
    · rw [if_neg z] at h
      cases e : ixK q k with
      | none => rw [e] at h; cases h
      | some i =>
        rw [e] at h
        cases h
        exact Nat.succ_lt_succ (ixK_lt e)
theorem atK_val {α : Type} {k : L2.Key} {xs : List (L2.Key × α)} {v : α} (h : valT xs k = some v) : ∃ j, atK xs k = some (j, v) ∧ ixK xs k = some j := by
  rw [valT_ix] at h
  cases e : ixK xs k with
  | none => rw [e] at h; cases h
  | some j =>
    rw [e] at h
    refine ⟨j, ?_, rfl⟩
    unfold atK
    rw [e]
    have h : (xs[j]?).map (·.2) = some v := h
    show (xs[j]?).map (fun kv => (j, kv.2)) = _
    cases e2 : xs[j]? with
    | none => rw [e2] at h; cases h
    | some kv => rw [e2] at h; cases h; rfl
theorem ixK_setK {α : Type} {k : L2.Key} {v : α} : ∀ {xs : List (L2.Key × α)} {j : Nat}, ixK (setK xs j v) k = ixK xs k := fun {xs j} => ixK_keys setK_k
theorem ixK_key {α : Type} {k k' : L2.Key} : ∀ {xs : List (L2.Key × α)} {j : Nat}, ixK xs k = some j → ixK xs k' = some j → k = k'
  | [], j, h, _ => by cases h
  | p :: q, j, h, h' => by
    have h : (if p.1 = k then some 0 else (ixK q k).map (· + 1)) = some j := h
    have h' : (if p.1 = k' then some 0 else (ixK q k').map (· + 1)) = some j := h'
    by_cases z : p.1 = k
    · by_cases z' : p.1 = k'
      · rw [← z, z']
      · rw [if_pos z] at h
        rw [if_neg z'] at h'
        cases h
        cases e : ixK q k' <;> rw [e] at h' <;> cases h'
    · by_cases z' : p.1 = k'
      · rw [if_neg z] at h
        rw [if_pos z'] at h'
        cases h'
        cases e : ixK q k <;> rw [e] at h <;> cases h
      · rw [if_neg z] at h
        rw [if_neg z'] at h'
        cases e : ixK q k with
        | none => rw [e] at h; cases h
        | some i =>
          cases e' : ixK q k' with
          | none => rw [e'] at h'; cases h'
          | some i' =>
            rw [e] at h
            rw [e'] at h'
            have h : i + 1 = j := Option.some.inj h
            have h' : i' + 1 = j := Option.some.inj h'
            exact ixK_key e (by rw [e']; congr 1; omega)
theorem valT_setK {α : Type} {k k' : L2.Key} {v : α} {xs : List (L2.Key × α)} {j : Nat} (h : ixK xs k = some j) : valT (setK xs j v) k' = if k = k' then some v else valT xs k' := by
  rw [valT_ix, valT_ix, ixK_setK]
  by_cases z : k = k'
  · rw [if_pos z, ← z, h]
    show ((setK xs j v)[j]?).map (·.2) = some v
    unfold setK
    rw [List.getElem?_modify, List.getElem?_eq_getElem (ixK_lt h)]
    simp
  · rw [if_neg z]
    cases e : ixK xs k' with
    | none => rfl
    | some i =>
      have ne : j ≠ i := fun q => z (ixK_key (h) (q ▸ e))
      show ((setK xs j v)[i]?).map (·.2) = (xs[i]?).map (·.2)
      unfold setK
      rw [List.getElem?_modify]
      cases xs[i]? <;> simp [ne]
theorem valT_app {α : Type} {k k' : L2.Key} {v : α} {xs : List (L2.Key × α)} (h : valT xs k = none) : valT (xs ++ [(k, v)]) k' = if k = k' then some v else valT xs k' := by
  have hn : ixK xs k = none := by
    rw [valT_ix] at h
    cases e : ixK xs k with
    | none => rfl
    | some j =>
      rw [e] at h
      have h : (xs[j]?).map (·.2) = none := h
      rw [List.getElem?_eq_getElem (ixK_lt e)] at h
      cases h
  rw [valT_ix, valT_ix, ixK_app]
  by_cases z : k = k'
  · subst z
    rw [hn, if_pos rfl, if_pos rfl]
    show ((xs ++ [(k, v)])[xs.length]?).map (·.2) = _
    rw [List.getElem?_append_right (Nat.le_refl _), Nat.sub_self]
    rfl
  · rw [if_neg z, if_neg z]
    cases e : ixK xs k' with
    | none => rfl
    | some j =>
      show ((xs ++ [(k, v)])[j]?).map (·.2) = (xs[j]?).map (·.2)
      rw [List.getElem?_append_left (ixK_lt e)]
theorem any_val {α : Type} {k : L2.Key} {xs : List (L2.Key × α)} (h : valT xs k = none) : (xs.any fun kv => decide (kv.1 = k)) = false := by
  unfold valT at h
  rw [Option.map_eq_none_iff, List.find?_eq_none] at h
  rw [List.any_eq_false]
  exact h
/-! ### pending sums, as a table -/
def addT (tab : List (List Int)) (e : Int × Int × Int) : List (List Int) := tab.modify e.1.toNat fun l => l.modify e.2.1.toNat (· + e.2.2)
def Rect (M N : Nat) (tab : List (List Int)) : Prop := tab.length = M ∧ ∀ l ∈ tab, l.length = N
def EntOk (M N : Nat) (e : Int × Int × Int) : Prop := (0 ≤ e.1 ∧ e.1 < (M : Int)) ∧ 0 ≤ e.2.1 ∧ e.2.1 < (N : Int)
theorem addT_rect {M N : Nat} {tab : List (List Int)} (h : Rect M N tab) (e : Int × Int × Int) : Rect M N (addT tab e) := by
  refine ⟨by unfold addT; rw [List.length_modify]; exact h.1, fun l hl => ?_⟩
  obtain ⟨i, hi⟩ := List.mem_iff_getElem?.mp hl
  unfold addT at hi
  rw [List.getElem?_modify] at hi
  cases z : tab[i]? with
  | none => rw [z] at hi; cases hi
  | some x =>
    rw [z] at hi
    have hx := h.2 x (List.mem_of_getElem? z)
    have hi : (if e.1.toNat = i then x.modify e.2.1.toNat (· + e.2.2) else x) = l := Option.some.inj hi
    rw [← hi]
    split
    · rw [List.length_modify]; exact hx
    · exact hx
theorem foldT_rect {M N : Nat} : ∀ {es : List (Int × Int × Int)} {tab : List (List Int)}, Rect M N tab → Rect M N (es.foldl addT tab)
  | [], _, h => h
  | e :: es, _, h => foldT_rect (es := es) (addT_rect h e)
/-- a dict of some of its rows, the others as they were -/
def Cov (pend tab : List (List Int)) (d : List (L2.Key × List Int)) : Prop := ∀ k : Nat, k < pend.length → tab[k]? = some ((valT d (.inl (k : Int))).getD ((pend[k]?).getD []))
theorem withStep {pend tab : List (List Int)} {M N : Nat} (hp : Rect M N pend) (ht : Rect M N tab) {d : List (L2.Key × List Int)} (hc : Cov pend tab d) (hz : d.length < 16000000) (hN : N ≤ 1000) {e : Int × Int × Int} (he : EntOk M N e) :
    ∃ d', ((if (!(valT d (.inl e.1)).isSome) then (atI pend e.1).bind fun v16 =>
  (szM v16).bind fun ls18 =>
  (dputN d (.inl e.1) ls18).bind fun changed20 =>
  some changed20
  else some d : Option (List (L2.Key × (List Int)))).bind fun changed22 =>
  (atK changed22 (.inl e.1)).bind fun kv24 =>
  (atI kv24.2 e.2.1).bind fun old26 =>
  (setM kv24.2 e.2.1 (old26 + e.2.2)).bind fun changed28 =>
  some (setK changed22 kv24.1 changed28)) = some d' ∧ Cov pend (addT tab e) d' ∧ d'.length ≤ d.length + 1 := by
  obtain ⟨⟨a1, a2⟩, a3, a4⟩ := he
  have ek : e.1 = ((e.1.toNat : Nat) : Int) := by omega
  have hk : e.1.toNat < pend.length := by rw [hp.1]; omega
  have hkt : e.1.toNat < tab.length := by rw [ht.1]; omega
  have hcur := hc e.1.toNat hk
  rw [← ek] at hcur
  -- what stands there
  obtain ⟨d1, e1, e2, e3, e4⟩ : ∃ d1, (if (!(valT d (.inl e.1)).isSome) then (atI pend e.1).bind fun v16 =>
  (szM v16).bind fun ls18 =>
  (dputN d (.inl e.1) ls18).bind fun changed20 =>
  some changed20
  else some d : Option (List (L2.Key × (List Int)))) = some d1 ∧ valT d1 (.inl e.1) = tab[e.1.toNat]? ∧ (∀ k, k ≠ (.inl e.1 : L2.Key) → valT d1 k = valT d k) ∧ d1.length ≤ d.length + 1 := by
    cases hv : valT d (.inl e.1) with
    | some l =>
      rw [hv] at hcur
      exact ⟨d, rfl, by rw [hcur, hv]; rfl, fun _ _ => rfl, by omega⟩
    | none =>
      rw [hv] at hcur
      have hl : (pend[e.1.toNat]?).getD [] = pend[e.1.toNat] := by rw [List.getElem?_eq_getElem hk]; rfl
      have hlen := hp.2 _ (List.getElem_mem hk)
      refine ⟨d ++ [(.inl e.1, pend[e.1.toNat])], ?_, ?_, fun k hkk => ?_, by rw [List.length_append, List.length_singleton]; omega⟩
      · show (atI pend e.1).bind _ = _
        rw [atI_z a1, List.getElem?_eq_getElem hk, Option.bind_some, szM_ok (by omega), Option.bind_some]
        unfold dputN
        rw [if_pos ⟨Nat.lt_of_lt_of_le hz (by decide), any_val hv⟩]
        rfl
      · rw [valT_app hv, if_pos rfl, hcur, hl]
        rfl
      · rw [valT_app hv, if_neg (Ne.symm hkk)]
  have et : tab[e.1.toNat]? = some tab[e.1.toNat] := List.getElem?_eq_getElem hkt
  rw [et] at e2
  obtain ⟨j, k1, k2⟩ := atK_val e2
  have hlen := ht.2 _ (List.getElem_mem hkt)
  have h2 : e.2.1.toNat < tab[e.1.toNat].length := by omega
  rw [e1, Option.bind_some, k1, Option.bind_some, atI_z a3, List.getElem?_eq_getElem h2, Option.bind_some, setM_z ⟨a3, h2⟩, Option.bind_some]
  refine ⟨_, rfl, fun k hkp => ?_, ?_⟩
  · rw [valT_setK k2]
    unfold addT
    rw [List.getElem?_modify]
    by_cases z : e.1.toNat = k
    · subst z
      rw [et, if_pos (by rw [← ek])]
      simp only [if_true, Option.map_some, Option.getD_some]
      show some (tab[e.1.toNat].modify e.2.1.toNat fun x => x + e.2.2) = _
      congr 1
      refine List.ext_getElem? fun i => ?_
      rw [List.getElem?_modify]
      by_cases q : e.2.1.toNat = i
      · subst q
        rw [List.getElem?_set_self h2, List.getElem?_eq_getElem h2]
        simp
      · rw [List.getElem?_set_ne q]
        cases tab[e.1.toNat][i]? <;> simp [q]
    · have ne : (Sum.inl e.1 : L2.Key) ≠ .inl (k : Int) := fun q => z (by have := Sum.inl.inj q; omega)
      rw [if_neg ne, e3 _ (Ne.symm ne), ← hc k hkp]
      cases tab[k]? <;> simp [z]
  · unfold setK
    rw [List.length_modify]
    exact e4
theorem with_ok {E : List (List (Int × Int × Int))} {M N : Nat} {p r : List Int} {pend : List (List Int)} {srcs : List Int} (hp : Rect M N pend) (hM : M ≤ 1000) (hN : N ≤ 1000) (hs : srcs.length ≤ 1000)
    (hE : ∀ s ∈ srcs, 0 ≤ s ∧ s.toNat < E.length) (hEl : ∀ l ∈ E, l.length ≤ 1000 ∧ ∀ e ∈ l, EntOk M N e) :
    m_u_with_sources E (p, r, pend) srcs = some (p, r, (srcs.flatMap fun s => (E[s.toNat]?).getD []).foldl addT pend) := by
  unfold m_u_with_sources
  refine (bndv_eq _ _).trans ?_
  simp only
  refine (bndv_eq _ _).trans ?_
  obtain ⟨d, h1, h2, h3⟩ := fold_ix (f := (fun (changed10 : (List (L2.Key × (List Int)))) (x8 : Int) => (atI E x8).bind fun v11 =>
  (List.foldlM (m := Option) (fun (changed15 : (List (L2.Key × (List Int)))) (x13 : (Int × Int × Int)) => (if (!(valT changed15 (.inl x13.1)).isSome) then (atI pend x13.1).bind fun v16 =>
  (szM v16).bind fun ls18 =>
  (dputN changed15 (.inl x13.1) ls18).bind fun changed20 =>
  some changed20
  else some changed15 : Option (List (L2.Key × (List Int)))).bind fun changed22 =>
  (atK changed22 (.inl x13.1)).bind fun kv24 =>
  (atI kv24.2 x13.2.1).bind fun old26 =>
  (setM kv24.2 x13.2.1 (old26 + x13.2.2)).bind fun changed28 =>
  some (setK changed22 kv24.1 changed28)) changed10 v11).bind fun changed30 =>
  some changed30)) (xs := srcs) (k := 0) (b := ([] : List (L2.Key × List Int)))
    (fun k d => Cov pend (((srcs.take k).flatMap fun s => (E[s.toNat]?).getD []).foldl addT pend) d ∧ d.length ≤ 1000 * k) (fun j d s hj hd => by
      rw [Nat.zero_add] at hd ⊢
      obtain ⟨b1, b2⟩ := hE s (List.mem_of_getElem? hj)
      have hjl : j < srcs.length := (List.getElem?_eq_some_iff.mp hj).1
      obtain ⟨c1, c2⟩ := hEl _ (List.getElem_mem b2)
      have et : srcs.take (j + 1) = srcs.take j ++ [s] := by rw [List.take_add_one, hj]; rfl
      have eg : (E[s.toNat]?).getD [] = E[s.toNat] := by rw [List.getElem?_eq_getElem b2]; rfl
      obtain ⟨d', q1, q2, q3⟩ := fold_ix (f := (fun (changed15 : (List (L2.Key × (List Int)))) (x13 : (Int × Int × Int)) => (if (!(valT changed15 (.inl x13.1)).isSome) then (atI pend x13.1).bind fun v16 =>
  (szM v16).bind fun ls18 =>
  (dputN changed15 (.inl x13.1) ls18).bind fun changed20 =>
  some changed20
  else some changed15 : Option (List (L2.Key × (List Int)))).bind fun changed22 =>
  (atK changed22 (.inl x13.1)).bind fun kv24 =>
  (atI kv24.2 x13.2.1).bind fun old26 =>
  (setM kv24.2 x13.2.1 (old26 + x13.2.2)).bind fun changed28 =>
  some (setK changed22 kv24.1 changed28))) (xs := E[s.toNat]) (k := 0) (b := d)
        (fun k d' => Cov pend ((E[s.toNat].take k).foldl addT (((srcs.take j).flatMap fun s => (E[s.toNat]?).getD []).foldl addT pend)) d' ∧ d'.length ≤ 1000 * j + k) (fun i d' e hi hd' => by
          rw [Nat.zero_add] at hd' ⊢
          have hil : i < E[s.toNat].length := (List.getElem?_eq_some_iff.mp hi).1
          obtain ⟨d2, r1, r2, r3⟩ := withStep hp (foldT_rect (foldT_rect hp)) hd'.1 (by omega) hN (c2 e (List.mem_of_getElem? hi))
          refine ⟨d2, r1, ?_, by omega⟩
          rw [show E[s.toNat].take (i + 1) = E[s.toNat].take i ++ [e] by rw [List.take_add_one, hi]; rfl, List.foldl_append]
          exact r2) (by rw [List.take_zero]; exact ⟨hd.1, by omega⟩)
      rw [Nat.zero_add] at q2 q3
      refine ⟨d', ?_, ?_, by omega⟩
      · rw [atI_z b1, List.getElem?_eq_getElem b2, Option.bind_some, q1]
        rfl
      · rw [et, List.flatMap_append, List.foldl_append, List.flatMap_cons, List.flatMap_nil, List.append_nil, eg]
        rw [List.take_length] at q2
        exact q2) ⟨fun k hk => by
          show pend[k]? = some ((valT [] _).getD _)
          rw [List.getElem?_eq_getElem hk]
          rfl, Nat.zero_le _⟩
  rw [Nat.zero_add, List.take_length] at h2
  rw [h1, Option.bind_some, szM_ok (by rw [enumI_len, hp.1]; omega), Option.bind_some, enumI_eq, mapO_ok (fun x : Int × List Int => (valT d (.inl x.1)).getD x.2) (fun x _ => by
    cases valT d (.inl x.1) with
    | none => rfl
    | some l => rfl), Option.bind_some]
  congr 3
  refine List.ext_getElem? fun i => ?_
  rw [List.getElem?_map, List.getElem?_mapIdx]
  by_cases hi : i < pend.length
  · rw [h2 i hi, List.getElem?_eq_getElem hi]
    show some ((valT d (.inl (0 + (i : Int)))).getD pend[i]) = _
    rw [Int.zero_add]
    rfl
  · rw [List.getElem?_eq_none (l := pend) (by omega), List.getElem?_eq_none (by rw [(foldT_rect hp).1, ← hp.1]; omega)]
    rfl
/-! ### what a table holds after some entries -/
theorem addT_at {tab : List (List Int)} {e : Int × Int × Int} {k n : Nat} {M N : Nat} (h : Rect M N tab) (hk : k < M) (hn : n < N) : (((addT tab e)[k]?).getD [])[n]? = some (((((tab[k]?).getD [])[n]?).getD 0) + if decide (e.1.toNat = k) && decide (e.2.1.toNat = n) then e.2.2 else 0) := by
  have hkt : k < tab.length := by rw [h.1]; exact hk
  have hl := h.2 _ (List.getElem_mem hkt)
  have hnt : n < tab[k].length := by rw [hl]; exact hn
  unfold addT
  rw [List.getElem?_modify, List.getElem?_eq_getElem hkt]
  by_cases z : e.1.toNat = k
  · rw [decide_eq_true z, Bool.true_and]
    simp only [z, if_true, Option.map_some, Option.getD_some, Option.map_eq_map]
    rw [List.getElem?_modify, List.getElem?_eq_getElem hnt]
    by_cases q : e.2.1.toNat = n
    · simp [q]
    · simp [q]
  · rw [decide_eq_false z, Bool.false_and]
    simp only [z, if_false, Option.map_some, Option.getD_some, Option.map_eq_map]
    rw [List.getElem?_eq_getElem hnt]
    simp
def entP (k n : Nat) (e : Int × Int × Int) : Int := if decide (e.1.toNat = k) && decide (e.2.1.toNat = n) then e.2.2 else 0
theorem foldT_at {k n M N : Nat} (hk : k < M) (hn : n < N) : ∀ {es : List (Int × Int × Int)} {tab : List (List Int)}, Rect M N tab → (((es.foldl addT tab)[k]?).getD [])[n]? = some (((((tab[k]?).getD [])[n]?).getD 0) + (es.map (entP k n)).sum)
  | [], tab, h => by
    have hkt : k < tab.length := by rw [h.1]; exact hk
    have hl := h.2 _ (List.getElem_mem hkt)
    have hnt : n < tab[k].length := by rw [hl]; exact hn
    show ((tab[k]?).getD [])[n]? = _
    rw [List.getElem?_eq_getElem hkt]
    show tab[k][n]? = some ((tab[k][n]?).getD 0 + 0)
    rw [List.getElem?_eq_getElem hnt]
    simp
  | e :: es, tab, h => by
    show (((es.foldl addT (addT tab e))[k]?).getD [])[n]? = _
    rw [foldT_at hk hn (addT_rect h e), addT_at h hk hn, List.map_cons, List.sum_cons]
    show some (_ + _ + _) = some (_ + (_ + _))
    rw [Int.add_assoc]
    rfl
/-! ### the sum over some sources, each once -/
def oneP (k n : Nat) (y : Synapse) : Int := if decide (y.delay = (k : Int) + 1) && decide (y.target = (n : Int)) then y.weight else 0
theorem effL_sum {ys : List Synapse} {k n s : Nat} (hy : ∀ y ∈ ys, 1 ≤ y.delay ∧ 0 ≤ y.target) : ((effL ys s).map (entP k n)).sum = (ys.map fun y => if y.source = (s : Int) then oneP k n y else 0).sum := by
  induction ys with
  | nil => rfl
  | cons y ys ih =>
    have ih := ih fun z hz => hy z (List.mem_cons_of_mem _ hz)
    have h1 := hy y List.mem_cons_self
    unfold effL at ih ⊢
    rw [List.filter_cons, List.map_cons, List.sum_cons]
    by_cases z : y.source = (s : Int)
    · rw [if_pos (decide_eq_true z), List.map_cons, List.map_cons, List.sum_cons, ih, if_pos z]
      congr 1
      unfold entP oneP eP
      have e1 : decide ((y.delay - 1).toNat = k) = decide (y.delay = (k : Int) + 1) := decide_eq_decide.mpr (by omega)
      have e2 : decide (y.target.toNat = n) = decide (y.target = (n : Int)) := decide_eq_decide.mpr (by omega)
      simp only [e1, e2]
    · rw [if_neg (by simpa using z), ih, if_neg z, Int.zero_add]
theorem srcs_sum {ys : List Synapse} {k n N : Nat} (hy : ∀ y ∈ ys, 1 ≤ y.delay ∧ 0 ≤ y.target) : ∀ {srcs : List Int}, srcs.Nodup → (∀ s ∈ srcs, 0 ≤ s ∧ s.toNat < N) →
    ((srcs.flatMap fun s => ((effT N ys)[s.toNat]?).getD []).map (entP k n)).sum = (ys.map fun y => if decide (y.source ∈ srcs) then oneP k n y else 0).sum
  | [], _, _ => by
    show (0 : Int) = _
    symm
    exact sum_zero fun y _ => rfl
  | s :: srcs, nd, hs => by
    rw [List.flatMap_cons, List.map_append, List.sum_append, srcs_sum hy (List.nodup_cons.mp nd).2 fun x hx => hs x (List.mem_cons_of_mem _ hx)]
    have h1 := hs s List.mem_cons_self
    rw [effT_at h1.2]
    show ((effL ys s.toNat).map (entP k n)).sum + _ = _
    rw [effL_sum hy]
    symm
    refine sum_add fun y _ => ?_
    by_cases z : y.source = s
    · have : y.source ∉ srcs := by rw [z]; exact (List.nodup_cons.mp nd).1
      rw [decide_eq_true (by rw [z]; exact List.mem_cons_self), decide_eq_false this, if_pos (show y.source = ((s.toNat : Nat) : Int) by omega)]
      simp
    · rw [if_neg (show ¬ y.source = ((s.toNat : Nat) : Int) by omega), Int.zero_add]
      congr 2
      exact decide_eq_decide.mpr ⟨fun q => (List.mem_cons.mp q).resolve_left z, fun q => List.mem_cons_of_mem _ q⟩
/-- the pending sums after some ticks -/
def pendL (nw : Network) (hist : List (List Int)) (t d : Nat) : List (List Int) := (List.range 15).map fun k => (List.range nw.neurons.length).map fun n => pendP nw hist t (k + d) n
theorem pendL_rect {nw : Network} {hist : List (List Int)} {t d : Nat} : Rect 15 nw.neurons.length (pendL nw hist t d) := by
  refine ⟨by unfold pendL; rw [List.length_map, List.length_range], fun l hl => ?_⟩
  unfold pendL at hl
  obtain ⟨k, _, rfl⟩ := List.mem_map.mp hl
  rw [List.length_map, List.length_range]
theorem pendL_at {nw : Network} {hist : List (List Int)} {t d k n : Nat} (hk : k < 15) (hn : n < nw.neurons.length) : ((((pendL nw hist t d)[k]?).getD [])[n]?) = some (pendP nw hist t (k + d) n) := by
  unfold pendL
  rw [List.getElem?_map, List.getElem?_range hk]
  show (List.map _ _)[n]? = _
  rw [List.getElem?_map, List.getElem?_range hn]
  rfl
theorem rect_ext {M N : Nat} {a b : List (List Int)} (ha : Rect M N a) (hb : Rect M N b) (h : ∀ k n : Nat, k < M → n < N → ((a[k]?).getD [])[n]? = ((b[k]?).getD [])[n]?) : a = b := by
  refine List.ext_getElem? fun k => ?_
  by_cases hk : k < M
  · have ka : k < a.length := by rw [ha.1]; exact hk
    have kb : k < b.length := by rw [hb.1]; exact hk
    rw [List.getElem?_eq_getElem ka, List.getElem?_eq_getElem kb]
    congr 1
    refine List.ext_getElem? fun n => ?_
    by_cases hn : n < N
    · have := h k n hk hn
      rw [List.getElem?_eq_getElem ka, List.getElem?_eq_getElem kb] at this
      exact this
    · rw [List.getElem?_eq_none (by rw [ha.2 _ (List.getElem_mem ka)]; omega), List.getElem?_eq_none (by rw [hb.2 _ (List.getElem_mem kb)]; omega)]
  · rw [List.getElem?_eq_none (by rw [ha.1]; omega), List.getElem?_eq_none (by rw [hb.1]; omega)]
def Dly15 (nw : Network) : Prop := ∀ y ∈ nw.synapses, y.delay ≤ 15
def StimOk (nw : Network) (stim : List Int) : Prop := stim.Nodup ∧ ∀ j ∈ stim, 0 ≤ j ∧ j < nw.inputs
theorem spk_mem {nw : Network} {f : Nat → Int} {c : List (Int × Int × Option Int)} {x : Int} (h : x ∈ spkP nw f c) : 0 ≤ x ∧ x < nw.neurons.length := by
  unfold spkP at h
  obtain ⟨n, h1, rfl⟩ := List.mem_map.mp h
  have := List.mem_range.mp (List.mem_filter.mp h1).1
  omega
theorem spk_nodup {nw : Network} {f : Nat → Int} {c : List (Int × Int × Option Int)} : (spkP nw f c).Nodup := by
  unfold spkP
  refine List.Pairwise.map _ (fun a b h => ?_) (List.Pairwise.filter _ List.nodup_range)
  intro q
  exact h (by omega)
/-- the pending sums once the spikes of the neurons and the inputs are noted -/
theorem pend_tick {nw : Network} (wf : WNet nw) (so : SrcOk nw) {hist : List (List Int)} {t : Nat} (hl : hist.length = t) {stim spk : List Int} (hst : StimOk nw stim) (hsp : spk.Nodup ∧ ∀ x ∈ spk, 0 ≤ x ∧ x < nw.neurons.length) :
    ((spk.map (nw.inputs + ·) ++ stim).flatMap fun s => ((effT (nS nw) nw.synapses)[s.toNat]?).getD []).foldl addT (pendL nw hist t 1) = pendL nw (hist ++ [stim ++ spk.map (nw.inputs + ·)]) (t + 1) 0 := by
  have hi := so.1
  refine rect_ext (foldT_rect pendL_rect) pendL_rect fun k n hk hn => ?_
  rw [foldT_at hk hn pendL_rect, pendL_at hk hn, pendL_at hk hn]
  congr 1
  have nd : (spk.map (nw.inputs + ·) ++ stim).Nodup := by
    refine List.nodup_append.mpr ⟨List.Pairwise.map _ (fun a b h q => h (by omega)) hsp.1, hst.1, fun a ha b hb q => ?_⟩
    obtain ⟨x, hx, rfl⟩ := List.mem_map.mp ha
    have := hst.2 b hb
    have := (hsp.2 x hx).1
    omega
  rw [srcs_sum (fun y hy => ⟨(wf.ss y hy).del, (wf.ss y hy).tgt.1⟩) nd (fun s hs => by
    rcases List.mem_append.mp hs with h | h
    · obtain ⟨x, hx, rfl⟩ := List.mem_map.mp h
      have := hsp.2 x hx
      unfold nS
      omega
    · have := hst.2 s h
      unfold nS
      omega), Nat.add_zero, pend_next hl]
  show _ + _ = _ + _
  congr 1
  unfold bringP oneP
  congr 1
  refine List.map_congr_left fun y _ => ?_
  have em : decide (y.source ∈ spk.map (nw.inputs + ·) ++ stim) = decide (y.source ∈ stim ++ spk.map (nw.inputs + ·)) := decide_eq_decide.mpr ⟨fun h => List.mem_append.mpr ((List.mem_append.mp h).symm), fun h => List.mem_append.mpr ((List.mem_append.mp h).symm)⟩
  rw [em]
  cases decide (y.source ∈ stim ++ spk.map (nw.inputs + ·)) <;> cases decide (y.delay = (k : Int) + 1) <;> cases decide (y.target = (n : Int)) <;> rfl
/-! ### a tick of the states is a tick of the network -/
def EncP (nw : Network) (s : StP) (t : Nat) : List Int × List Int × List (List Int) := (s.cells.map (·.1), s.cells.map (·.2.1), pendL nw s.hist t 0)
theorem cut1 {α : Type} {xs : List α} (h : 1 ≤ xs.length) : cutP xs (some 1) none = xs.drop 1 := by
  unfold cutP
  have e1 : HT.sIx xs.length 0 (some (1 : Int)) = 1 := by
    unfold HT.sIx
    simp
    omega
  have e2 : HT.sIx xs.length xs.length none = xs.length := rfl
  rw [e1, e2]
  exact List.take_of_length_le (by rw [List.length_drop]; exact Nat.le_refl _)
theorem shift_ok {nw : Network} (dl : Dly15 nw) {hist : List (List Int)} {t : Nat} : (pendL nw hist t 0).drop 1 ++ [List.replicate nw.neurons.length (0 : Int)] = pendL nw hist t 1 := by
  have l0 : (pendL nw hist t 0).length = 15 := pendL_rect.1
  refine rect_ext (M := 15) (N := nw.neurons.length) ⟨by rw [List.length_append, List.length_drop, l0]; rfl, fun l hl => ?_⟩ pendL_rect fun k n hk hn => ?_
  · rcases List.mem_append.mp hl with h | h
    · exact pendL_rect.2 l (List.mem_of_mem_drop h)
    · rw [List.mem_singleton.mp h, List.length_replicate]
  · rw [pendL_at hk hn]
    by_cases z : k < 14
    · rw [List.getElem?_append_left (by rw [List.length_drop, l0]; omega), List.getElem?_drop, Nat.add_comm 1 k, pendL_at (by omega) hn, Nat.add_zero]
    · have : k = 14 := by omega
      subst this
      rw [List.getElem?_append_right (by rw [List.length_drop, l0]; omega), List.length_drop, l0]
      show (List.replicate nw.neurons.length (0 : Int))[n]? = _
      rw [List.getElem?_replicate, if_pos hn, pend_far fun y hy => dl y hy]
def spkN (nw : Network) (s : StP) (t : Nat) : List Int := spkP nw (sumP nw (atS nw (arrP s.hist t)) s.w) s.cells
theorem effT_ok {nw : Network} (wf : WNet nw) (dl : Dly15 nw) {N : Nat} : ∀ l ∈ effT N nw.synapses, l.length ≤ 1000 ∧ ∀ e ∈ l, EntOk 15 nw.neurons.length e := fun l hl => by
  unfold effT at hl
  obtain ⟨s, _, rfl⟩ := List.mem_map.mp hl
  refine ⟨Nat.le_trans effL_len wf.sl, fun e he => ?_⟩
  unfold effL at he
  obtain ⟨y, hy, rfl⟩ := List.mem_map.mp he
  have hm := (List.mem_filter.mp hy).1
  have h1 := wf.ss y hm
  have h2 := dl y hm
  have := h1.del
  have := h1.tgt
  exact ⟨⟨by show 0 ≤ y.delay - 1; omega, by show y.delay - 1 < _; omega⟩, h1.tgt.1, h1.tgt.2⟩
theorem advance_ok {nw : Network} (wf : WNet nw) (so : SrcOk nw) (dl : Dly15 nw) {t : Nat} {s : StP} (inv : InvP nw t s) (hw : s.w = nw.synapses.map (·.weight)) {stim : List Int} (hst : StimOk nw stim) (hsl : stim.length ≤ 1000) :
    m_advance nw (EncP nw s t) stim = some (EncP nw (tickP nw t stim s) (t + 1), spkN nw s t) := by
  have hi := so.1
  have nl := wf.nl
  have sl : (spkN nw s t).length ≤ 1000 := spk_len wf
  have hsp : ∀ x ∈ spkN nw s t, 0 ≤ x ∧ x < nw.neurons.length := fun x hx => spk_mem hx
  have r0 : (pendL nw s.hist t 0)[0]? = some ((List.range nw.neurons.length).map fun n => pendP nw s.hist t 0 n) := rfl
  have e5 := afters_ok wf (sums := (List.range nw.neurons.length).map fun n => pendP nw s.hist t 0 n) (sum := sumP nw (atS nw (arrP s.hist t)) s.w) inv.cells fun n hn => by
    rw [List.getElem?_map, List.getElem?_range hn, hw, pend_sum wf]
    rfl
  have l0 : (pendL nw s.hist t 0).length = 15 := pendL_rect.1
  have hb : m_u_before_stimulus nw (effT (nS nw) nw.synapses) (EncP nw s t) = some ((s.cells.mapIdx fun n _ => (cellP nw (sumP nw (atS nw (arrP s.hist t)) s.w) s.cells n).1, s.cells.mapIdx fun n _ => (cellP nw (sumP nw (atS nw (arrP s.hist t)) s.w) s.cells n).2.1,
      (((spkN nw s t).map (nw.inputs + ·)).flatMap fun s => ((effT (nS nw) nw.synapses)[s.toNat]?).getD []).foldl addT (pendL nw s.hist t 1)), spkN nw s t) := by
    unfold m_u_before_stimulus
    refine (bndv_eq _ _).trans ?_
    unfold EncP
    simp only
    rw [atI_z (Int.le_refl 0), show (0 : Int).toNat = 0 from rfl, r0, Option.bind_some, e5, Option.bind_some]
    refine (bndv_eq _ _).trans ?_
    simp only
    rw [repV_ok nl, Option.bind_some, cut1 (by rw [l0]; decide), catM_ok (by rw [List.length_drop, l0]; show 14 + 1 ≤ 16000000; decide), Option.bind_some, shift_ok dl]
    refine (bndv_eq _ _).trans ?_
    show (szM (spkN nw s t)).bind _ = _
    rw [szM_ok (by omega), Option.bind_some, mapO_ok (fun x => nw.inputs + x) (fun _ _ => rfl), Option.bind_some,
      with_ok (M := 15) (N := nw.neurons.length) pendL_rect (by decide) nl (by rw [List.length_map]; exact sl) (fun x hx => by
        obtain ⟨z, hz, rfl⟩ := List.mem_map.mp hx
        have := hsp z hz
        rw [effT_len]
        unfold nS
        omega) (effT_ok wf dl)]
    rfl
  unfold m_advance
  rw [effects_ok wf so, Option.bind_some, hb, Option.bind_some]
  refine (bndv_eq _ _).trans ?_
  simp only
  rw [with_ok (M := 15) (N := nw.neurons.length) (foldT_rect pendL_rect) (by decide) nl hsl (fun x hx => by
    have := hst.2 x hx
    rw [effT_len]
    unfold nS
    omega) (effT_ok wf dl), Option.bind_some, ← List.foldl_append, ← List.flatMap_append, pend_tick wf so inv.hist (spk := spkN nw s t) hst ⟨(show (spkN nw s t).Nodup from spk_nodup), hsp⟩]
  unfold EncP tickP
  simp only
  rw [map_mapIdx', map_mapIdx']
  rfl
theorem start_enc {nw : Network} (wf : WNet nw) (dl : Dly15 nw) : m_initial_state nw = some (List.replicate nw.neurons.length 0, List.replicate nw.neurons.length 0, List.replicate 15 (List.replicate nw.neurons.length 0)) := by
  have nl := wf.nl
  have sl := wf.sl
  unfold m_initial_state
  have em : maxL ([15] ++ nw.synapses.map fun y => y.delay) = some 15 := by
    show some ((nw.synapses.map fun y => y.delay).foldl max 15) = _
    obtain ⟨h1, _, h3⟩ := foldl_max (nw.synapses.map fun y => y.delay) 15
    congr 1
    rcases h3 with h | h
    · exact h
    · obtain ⟨y, hy, e⟩ := List.mem_map.mp h
      have := dl y hy
      omega
  rw [repV_ok nl, Option.bind_some, szM_ok (by omega), Option.bind_some, mapO_ok (fun y : Synapse => y.delay) (fun _ _ => rfl), Option.bind_some, catM_ok (by rw [List.length_map]; show 1 + _ ≤ _; omega), Option.bind_some, em, Option.bind_some, show (15 : Int) = ((15 : Nat) : Int) from rfl, repV_ok (by decide)]
  rfl
theorem enc_start {nw : Network} : EncP nw (startP nw) 0 = (List.replicate nw.neurons.length 0, List.replicate nw.neurons.length 0, List.replicate 15 (List.replicate nw.neurons.length 0)) := by
  unfold EncP startP
  simp only [List.map_replicate]
  congr 2
  refine rect_ext pendL_rect ⟨List.length_replicate, fun l hl => by rw [List.eq_of_mem_replicate hl, List.length_replicate]⟩ fun k n hk hn => ?_
  rw [pendL_at hk hn, pend_start, List.getElem?_replicate, if_pos hk]
  show _ = (List.replicate nw.neurons.length (0 : Int))[n]?
  rw [List.getElem?_replicate, if_pos hn]
/-! ### the ticks one by one -/
theorem go_app {nw : Network} : ∀ {a b : List (List Int)} {t : Nat} {s : StP}, goP nw t (a ++ b) s = goP nw (t + a.length) b (goP nw t a s)
  | [], b, t, s => rfl
  | x :: a, b, t, s => by
    show goP nw (t + 1) (a ++ b) (tickP nw t x s) = goP nw (t + (a.length + 1)) b (goP nw (t + 1) a (tickP nw t x s))
    rw [go_app, show t + 1 + a.length = t + (a.length + 1) by omega]
def atT (nw : Network) (stims : List (List Int)) (t : Nat) : StP := goP nw 0 (stims.take t) (startP nw)
theorem atT_next {nw : Network} {stims : List (List Int)} {t : Nat} {stim : List Int} (h : stims[t]? = some stim) : atT nw stims (t + 1) = tickP nw t stim (atT nw stims t) := by
  have ht := (List.getElem?_eq_some_iff.mp h).1
  unfold atT
  rw [List.take_add_one, h, Option.toList_some, go_app, List.length_take, Nat.min_eq_left (by omega), Nat.zero_add]
  rfl
theorem spk_grow {nw : Network} : ∀ {stims : List (List Int)} {t : Nat} {s : StP}, ∃ ys, (goP nw t stims s).spikes = s.spikes ++ ys ∧ ys.length = stims.length
  | [], t, s => ⟨[], by rw [List.append_nil]; rfl, rfl⟩
  | x :: xs, t, s => by
    obtain ⟨ys, h1, h2⟩ := spk_grow (nw := nw) (stims := xs) (t := t + 1) (s := tickP nw t x s)
    refine ⟨spkP nw (sumP nw (atS nw (arrP s.hist t)) s.w) s.cells :: ys, ?_, congrArg Nat.succ h2⟩
    show (goP nw (t + 1) xs (tickP nw t x s)).spikes = _
    rw [h1]
    show (s.spikes ++ [_]) ++ ys = _
    rw [List.append_assoc]
    rfl
theorem go_inv {nw : Network} (wf : WNet nw) : ∀ {stims : List (List Int)} {t : Nat} {s : StP}, InvP nw t s → InvP nw (t + stims.length) (goP nw t stims s)
  | [], t, s, h => h
  | x :: xs, t, s, h => by
    have := go_inv wf (stims := xs) (tick_inv wf h x)
    rw [show t + (x :: xs).length = t + 1 + xs.length by rw [List.length_cons]; omega]
    exact this
theorem atT_inv {nw : Network} (wf : WNet nw) {stims : List (List Int)} {t : Nat} (h : t ≤ stims.length) : InvP nw t (atT nw stims t) := by
  have := go_inv wf (stims := stims.take t) (start_inv (nw := nw))
  rw [List.length_take, Nat.min_eq_left h, Nat.zero_add] at this
  exact this
/-- the spikes of the tick t in the run -/
theorem run_spk {nw : Network} (wf : WNet nw) {stims : List (List Int)} {t : Nat} (h : t < stims.length) : (runP nw stims).spikes[t]? = some (spkN nw (atT nw stims t) t) := by
  have e : stims = stims.take t ++ (stims[t] :: stims.drop (t + 1)) := by rw [← List.drop_eq_getElem_cons h, List.take_append_drop]
  have ei := (atT_inv wf (stims := stims) (Nat.le_of_lt h)).spikes
  have : (runP nw stims) = goP nw (t + 1) (stims.drop (t + 1)) (tickP nw t stims[t] (atT nw stims t)) := by
    unfold runP
    conv => lhs; rw [e]
    rw [go_app, List.length_take, Nat.min_eq_left (by omega), Nat.zero_add]
    rfl
  rw [this]
  obtain ⟨ys, h1, _⟩ := spk_grow (nw := nw) (stims := stims.drop (t + 1)) (t := t + 1) (s := tickP nw t stims[t] (atT nw stims t))
  rw [h1]
  show ((atT nw stims t).spikes ++ [spkN nw (atT nw stims t) t] ++ ys)[t]? = _
  rw [List.append_assoc, List.getElem?_append_right (by omega), ei, Nat.sub_self]
  rfl
theorem run_len {nw : Network} (wf : WNet nw) {stims : List (List Int)} : (runP nw stims).spikes.length = stims.length := by
  have := (go_inv wf (stims := stims) (start_inv (nw := nw))).spikes
  rw [Nat.zero_add] at this
  exact this
/-! ### loops that come to their end -/
theorem loop_ix {α β ρ : Type} {f : β → α → Option (Fl β ρ)} (J : Nat → β → Prop) : ∀ {xs : List α} {k : Nat} {b : β}, (∀ (j : Nat) b x, xs[j]? = some x → J (k + j) b → ∃ b', f b x = some (.go b') ∧ J (k + j + 1) b') → J k b → ∃ b', loopM f b xs = some (.inl b') ∧ J (k + xs.length) b'
  | [], k, b, _, h => ⟨b, rfl, h⟩
  | x :: xs, k, b, h, h0 => by
    obtain ⟨b1, e1, j1⟩ := h 0 b x rfl h0
    obtain ⟨b2, e2, j2⟩ := loop_ix J (xs := xs) (k := k + 1) (b := b1) (fun j b y hy hj => by
      have := h (j + 1) b y (by simpa using hy) (by rw [show k + (j + 1) = k + 1 + j by omega]; exact hj)
      rw [show k + (j + 1) + 1 = k + 1 + j + 1 by omega] at this
      exact this) j1
    refine ⟨b2, ?_, by rw [List.length_cons, show k + (xs.length + 1) = k + 1 + xs.length by omega]; exact j2⟩
    unfold loopM
    rw [e1]
    exact e2
/-- a walk over the numbers below n -/
theorem loop_rng {β ρ : Type} {f : β → Int → Option (Fl β ρ)} (J : Nat → β → Prop) {n : Nat} {b : β} (h : ∀ (j : Nat) b, j < n → J j b → ∃ b', f b (j : Int) = some (.go b') ∧ J (j + 1) b') (h0 : J 0 b) : ∃ b', loopM f b ((List.range n).map fun k : Nat => (k : Int)) = some (.inl b') ∧ J n b' := by
  obtain ⟨b', e, j⟩ := loop_ix J (xs := (List.range n).map fun k : Nat => (k : Int)) (k := 0) (f := f) (b := b) (fun j b x hx hj => by
    rw [List.getElem?_map] at hx
    by_cases hj' : j < n
    · rw [List.getElem?_range hj'] at hx
      cases hx
      rw [Nat.zero_add] at hj ⊢
      exact h j b hj' hj
    · rw [List.getElem?_eq_none (by rw [List.length_range]; omega)] at hx
      cases hx) h0
  rw [List.length_map, List.length_range, Nat.zero_add] at j
  exact ⟨b', e, j⟩
/-- a walk that is left by none or with one answer -/
theorem loop_any {f : Unit → Int → Option (Fl Unit Bool)} {p : Int → Bool} : ∀ {xs : List Int}, (∀ x ∈ xs, f () x = if p x then some (.rt false) else some (.go ())) → ((loopM f () xs).bind fun o => match o with
  | .inl _ => some true
  | .inr rv => some rv) = some (!xs.any p)
  | [], _ => rfl
  | x :: xs, h => by
    unfold loopM
    rw [h x List.mem_cons_self, List.any_cons]
    cases hp : p x with
    | true => rfl
    | false => exact loop_any fun y hy => h y (List.mem_cons_of_mem _ hy)
/-! ### claims -/
inductive Cl where
  | never (n : Int)
  | answer (i n d : Int)
  | apart (a b : Int)
def Cl.e : Cl → Str × List Int
  | .never n => ("never", [n])
  | .answer i n d => ("answer", [i, n, d])
  | .apart a b => ("apart", [a, b])
def Cl.ok : Cl → Prop
  | .answer _ _ d => 1 ≤ d ∧ d ≤ 6
  | _ => True
def hasP (xss : List (List Int)) (n : Int) (t : Nat) : Bool := decide (n ∈ (xss[t]?).getD [])
noncomputable instance decDue {d : Nat} {p o : Nat → Bool} {t : Nat} : Decidable (dueAt d p o t) := Classical.propDecidable _
noncomputable def Cl.due (st sp : List (List Int)) : Cl → Nat → Bool
  | .never n, t => hasP sp n t
  | .answer i n d, t => decide (dueAt d.toNat (hasP sp n) (hasP st i) t)
  | .apart a b, t => hasP sp a t && hasP sp b t
def Cl.w (st sp : List (List Int)) : Cl → Nat → Int
  | .answer i n d, t => (watchAt d.toNat (hasP sp n) (hasP st i) t : Int)
  | _, _ => 0
section
variable {st sp : List (List Int)} {t : Nat}
theorem has_at {xss : List (List Int)} {n : Int} (h : t < xss.length) : ∃ xs, xss[t]? = some xs ∧ hasP xss n t = decide (n ∈ xs) := by
  refine ⟨_, List.getElem?_eq_getElem h, ?_⟩
  unfold hasP
  rw [List.getElem?_eq_getElem h]
  rfl
theorem breaks_ok (c : Cl) (hc : c.ok) (h1 : t < st.length) (h2 : t < sp.length) (hz : t ≤ 1000) : m_u_law_breaks c.e st sp (t : Int) = some (c.due st sp t) := by
  have s1 : ((("never" : Str) == ("never" : Str)) = true) := by decide
  cases c with
  | never n =>
    obtain ⟨xs, e1, e2⟩ := has_at (n := n) h2
    show (atI sp (t : Int)).bind _ = some (hasP sp n t)
    rw [atI_n, e1, e2]
    rfl
  | apart a b =>
    obtain ⟨xs, e1, e2⟩ := has_at (n := a) h2
    obtain ⟨xs', e1', e2'⟩ := has_at (n := b) h2
    rw [e1] at e1'
    cases e1'
    show (atI sp (t : Int)).bind _ = some (hasP sp a t && hasP sp b t)
    rw [atI_n, e1, e2, e2']
    show ((if decide (a ∈ xs) = true then some (decide (b ∈ xs)) else some false).bind fun c13 => some c13) = _
    cases decide (a ∈ xs) <;> rfl
  | answer i n d =>
    obtain ⟨d1, d2⟩ : 1 ≤ d ∧ d ≤ 6 := hc
    show (bndv ((t : Int) - d) fun start18 =>
  (if (decide (start18 < 0)) = true then some true else (atI st start18).bind fun v22 => some (!decide (i ∈ v22))).bind fun c24 =>
  if c24 = true then some false
  else (rng2M (start18 + 1) ((t : Int) + 1)).bind fun rng27 =>
  (loopM (ρ := Bool) (fun (_ : Unit) (x29 : Int) =>
  (atI sp x29).bind fun v33 =>
  if (decide (n ∈ v33)) = true then some (Fl.rt false)
  else some (Fl.go ())) () rng27).bind fun o36 => match o36 with
  | .inl _ => some true
  | .inr rv37 => some rv37) = some (decide (dueAt d.toNat (hasP sp n) (hasP st i) t))
    refine (bndv_eq _ _).trans ?_
    by_cases z : (t : Int) - d < 0
    · rw [decide_eq_true z]
      exact congrArg some (decide_eq_false fun q => by
        have := q.1
        omega).symm
    · have hs : (t : Int) - d = ((t - d.toNat : Nat) : Int) := by omega
      have ht : t - d.toNat < st.length := by omega
      obtain ⟨xs, e1, e2⟩ := has_at (n := i) ht
      have er : rng2M (((t - d.toNat : Nat) : Int) + 1) ((t : Int) + 1) = some (rangeI (((t - d.toNat : Nat) : Int) + 1) d.toNat) := by
        unfold rng2M
        rw [if_pos (by omega), show ((t : Int) + 1 - (((t - d.toNat : Nat) : Int) + 1)).toNat = d.toNat by omega]
      rw [decide_eq_false z, hs, atI_n, e1, er, Option.bind_some]
      show (if (!decide (i ∈ xs)) = true then some false else _) = _
      rw [← e2]
      cases ho : hasP st i (t - d.toNat) with
      | false =>
        exact congrArg some (decide_eq_false fun q => by
          have := q.2.1
          rw [ho] at this
          cases this).symm
      | true =>
        show ((loopM (ρ := Bool) (fun (_ : Unit) (x29 : Int) =>
  (atI sp x29).bind fun v33 =>
  if (decide (n ∈ v33)) = true then some (Fl.rt false)
  else some (Fl.go ())) () (rangeI (((t - d.toNat : Nat) : Int) + 1) d.toNat)).bind fun o36 => match o36 with
  | .inl _ => some true
  | .inr rv37 => some rv37) = _
        rw [loop_any (p := fun x => hasP sp n x.toNat) fun x hx => by
          unfold rangeI at hx
          obtain ⟨k, hk, rfl⟩ := List.mem_map.mp hx
          have hk := List.mem_range.mp hk
          have hl : (((t - d.toNat : Nat) : Int) + 1 + (k : Int)).toNat < sp.length := by omega
          obtain ⟨ys, f1, f2⟩ := has_at (n := n) hl
          rw [atI_z (by omega), f1, f2]
          rfl]
        refine congrArg some (Bool.eq_iff_iff.mpr ?_)
        rw [decide_eq_true_eq, Bool.not_eq_true', List.any_eq_false]
        constructor
        · intro q
          refine ⟨by omega, ho, fun k h1 h2 => ?_⟩
          have := q (k : Int) (by
            unfold rangeI
            exact List.mem_map.mpr ⟨k - (t - d.toNat) - 1, List.mem_range.mpr (by omega), by omega⟩)
          rw [Int.toNat_natCast] at this
          simpa using this
        · intro q x hx
          unfold rangeI at hx
          obtain ⟨k, hk, rfl⟩ := List.mem_map.mp hx
          have hk := List.mem_range.mp hk
          have := q.2.2 (((t - d.toNat : Nat) : Int) + 1 + (k : Int)).toNat (by omega) (by omega)
          rw [this]
          exact Bool.false_ne_true
theorem isb_ok (c : Cl) (hc : c.ok) {xs : List Int} (h2 : sp[t]? = some xs) : ∃ b, m_is_broken c.e (c.w st sp t) xs = some b ∧ ((∀ u, u < t → c.due st sp u = false) → b = c.due st sp t) := by
  have hh : ∀ n, hasP sp n t = decide (n ∈ xs) := fun n => by unfold hasP; rw [h2]; rfl
  cases c with
  | never n => exact ⟨decide (n ∈ xs), rfl, fun _ => (hh n).symm⟩
  | apart a b =>
    refine ⟨decide (a ∈ xs) && decide (b ∈ xs), ?_, fun _ => ?_⟩
    · show ((if decide (a ∈ xs) = true then some (decide (b ∈ xs)) else some false).bind fun c7 => some c7) = _
      cases decide (a ∈ xs) <;> rfl
    · show _ = (hasP sp a t && hasP sp b t)
      rw [hh, hh]
  | answer i n d =>
    obtain ⟨d1, d2⟩ : 1 ≤ d ∧ d ≤ 6 := hc
    refine ⟨decide ((watchAt d.toNat (hasP sp n) (hasP st i) t : Int) = 1) && !decide (n ∈ xs), ?_, fun hu => ?_⟩
    · show ((if decide ((watchAt d.toNat (hasP sp n) (hasP st i) t : Int) = 1) = true then some (!decide (n ∈ xs)) else some false).bind fun c12 => some c12) = _
      cases decide ((watchAt d.toNat (hasP sp n) (hasP st i) t : Int) = 1) <;> rfl
    · rw [← hh]
      have key := watch_due (d := d.toNat) (by omega) (paid := hasP sp n) (owed := hasP st i) (t := t) fun u hut q => by
        have := hu u hut
        have := of_decide_eq_false this
        exact this q
      refine Bool.eq_iff_iff.mpr ?_
      show _ ↔ decide (dueAt d.toNat (hasP sp n) (hasP st i) t) = true
      rw [decide_eq_true_eq, ← key, Bool.and_eq_true, decide_eq_true_eq, Bool.not_eq_true']
      constructor
      · intro ⟨a, b⟩
        exact ⟨by omega, b⟩
      · intro ⟨a, b⟩
        exact ⟨by omega, b⟩
theorem nextw_ok (c : Cl) (hc : c.ok) {ys xs : List Int} (h1 : st[t]? = some ys) (h2 : sp[t]? = some xs) : m_next_watch c.e (c.w st sp t) ys xs = some (c.w st sp (t + 1)) := by
  have hh : ∀ n, hasP sp n t = decide (n ∈ xs) := fun n => by unfold hasP; rw [h2]; rfl
  have hg : ∀ n, hasP st n t = decide (n ∈ ys) := fun n => by unfold hasP; rw [h1]; rfl
  cases c with
  | never n => rfl
  | apart a b => rfl
  | answer i n d =>
    obtain ⟨d1, d2⟩ : 1 ≤ d ∧ d ≤ 6 := hc
    show ((if decide (0 < (watchAt d.toNat (hasP sp n) (hasP st i) t : Int)) = true then (if decide (n ∈ xs) = true then some 0 else some ((watchAt d.toNat (hasP sp n) (hasP st i) t : Int) - 1)).bind fun v5 => some v5
      else some (watchAt d.toNat (hasP sp n) (hasP st i) t : Int) : Option Int).bind fun left8 =>
      if (decide (left8 = 0) && decide (i ∈ ys)) = true then some d else some left8) = some ((nextW d.toNat (watchAt d.toNat (hasP sp n) (hasP st i) t) (hasP sp n t) (hasP st i t) : Nat) : Int)
    rw [← hh, ← hg]
    generalize watchAt d.toNat (hasP sp n) (hasP st i) t = w
    generalize hasP sp n t = p
    generalize hasP st i t = o
    unfold nextW
    simp only
    by_cases hw : 0 < w
    · rw [decide_eq_true (show (0 : Int) < (w : Int) by omega), if_pos hw]
      cases p
      · show (if (decide ((w : Int) - 1 = 0) && o) = true then some d else some ((w : Int) - 1)) = _
        by_cases h1 : w = 1
        · subst h1
          cases o
          · rfl
          · show some d = some ((d.toNat : Nat) : Int)
            congr 1
            omega
        · rw [decide_eq_false (by omega)]
          simp only [Bool.false_and, Bool.false_eq_true, if_false]
          rw [if_neg (by omega)]
          congr 1
          omega
      · cases o
        · rfl
        · show some d = some ((d.toNat : Nat) : Int)
          congr 1
          omega
    · have : w = 0 := by omega
      subst this
      cases o
      · rfl
      · show some d = some ((d.toNat : Nat) : Int)
        congr 1
        omega
theorem cl_w0 (c : Cl) : (!(c.e.1 == ("answer" : Str))) = true → ∀ t, c.w st sp t = 0 := fun h t => by
  cases c with
  | never n => rfl
  | apart a b => rfl
  | answer i n d => cases h
end
theorem cell_ok (ns : List Int) (k : Int) (h : 0 ≤ k) : ∃ v, m_u_law_cell ns k = some v := by
  unfold m_u_law_cell
  split
  · rename_i hc
    have hc := of_decide_eq_true hc
    rw [atI_z h, List.getElem?_eq_getElem (by omega)]
    exact ⟨_, rfl⟩
  · exact ⟨0, rfl⟩
theorem mapO_ex {α β : Type} {f : α → Option β} {P : β → Prop} : ∀ {xs : List α}, (∀ x ∈ xs, ∃ y, f x = some y ∧ P y) → ∃ ys, mapO f xs = some ys ∧ ys.length = xs.length ∧ ∀ y ∈ ys, P y
  | [], _ => ⟨[], rfl, rfl, fun _ h => nomatch h⟩
  | x :: xs, h => by
    obtain ⟨y, h1, h2⟩ := h x List.mem_cons_self
    obtain ⟨ys, k1, k2, k3⟩ := mapO_ex (f := f) (P := P) (xs := xs) fun z hz => h z (List.mem_cons_of_mem _ hz)
    refine ⟨y :: ys, ?_, congrArg Nat.succ k2, fun z hz => ?_⟩
    · unfold mapO
      rw [h1, k1]
      rfl
    · rcases List.mem_cons.mp hz with e | hz
      · exact e ▸ h2
      · exact k3 z hz
theorem fold_append {α β : Type} {f : List β → α → Option (List β)} {P : β → Prop} : ∀ {xs : List α} {acc : List β}, (∀ x ∈ xs, ∃ y, P y ∧ ∀ acc, f acc x = (appM acc y).bind fun z => some z) → acc.length + xs.length ≤ 16000000 → ∃ ys, xs.foldlM f acc = some (acc ++ ys) ∧ ys.length = xs.length ∧ ∀ y ∈ ys, P y
  | [], acc, _, _ => ⟨[], by rw [List.append_nil]; rfl, rfl, fun _ h => nomatch h⟩
  | x :: xs, acc, h, hl => by
    rw [List.length_cons] at hl
    obtain ⟨y, h1, h2⟩ := h x List.mem_cons_self
    obtain ⟨ys, k1, k2, k3⟩ := fold_append (f := f) (P := P) (xs := xs) (acc := acc ++ [y]) (fun z hz => h z (List.mem_cons_of_mem _ hz)) (by rw [List.length_append, List.length_singleton]; omega)
    refine ⟨y :: ys, ?_, congrArg Nat.succ k2, fun z hz => ?_⟩
    · rw [fold_cons, h2, appM_ok (by omega), Option.bind_some, Option.bind_some, k1, List.append_assoc]
      rfl
    · rcases List.mem_cons.mp hz with e | hz
      · exact e ▸ h1
      · exact k3 z hz
theorem neuron_ok (c : Int) : ∃ n, m_u_law_neuron c = some n ∧ WN n := by
  unfold m_u_law_neuron
  simp only [bndv]
  obtain ⟨a, ea, ha⟩ : ∃ a, (if decide (c % 31 = 5) = true then some (1 + c / 31 % 1048576) else some (1 + c % 12)) = some a ∧ 1 ≤ a := by
    split <;> exact ⟨_, rfl, by omega⟩
  rw [ea, Option.bind_some]
  obtain ⟨l, el, hl⟩ : ∃ l, (if decide (c / 48 % 9 = 1) = true then some (c / 432 % 16) else some (c / 12 % 4)) = some l ∧ 0 ≤ l ∧ l < 16 := by
    split <;> exact ⟨_, rfl, by omega, by omega⟩
  rw [el, Option.bind_some]
  unfold m_Neuron__init
  exact ⟨_, rfl, ⟨hl, by show 0 ≤ c / 5000 % 4; omega, by show -(c / 20000 % 20) ≤ 0; omega, ha⟩⟩
theorem rng2_ok {lo hi : Int} (h : 0 ≤ lo ∧ lo ≤ 100 ∧ 0 ≤ hi ∧ hi ≤ 100) : ∃ xs, rng2M lo hi = some xs ∧ xs.length ≤ 100 ∧ ∀ x ∈ xs, lo ≤ x ∧ x < hi := by
  unfold rng2M
  rw [if_pos (by omega)]
  refine ⟨_, rfl, by rw [rangeI_len]; omega, fun x hx => ?_⟩
  unfold rangeI at hx
  obtain ⟨k, h1, h2⟩ := List.mem_map.mp hx
  have := List.mem_range.mp h1
  omega
/-! ### the law's network, stimuli and claims -/
theorem synapse_ok (c so m : Int) (hs : 0 < so) (hm : 0 < m) : ∃ y, m_u_law_synapse c so m false = some y ∧ (((0 ≤ y.target ∧ y.target < m) ∧ 0 ≤ y.source ∧ y.source < so) ∧ 1 ≤ y.delay ∧ y.delay ≤ 15) := by
  unfold m_u_law_synapse
  simp only [bndv]
  obtain ⟨l, el, hl⟩ : ∃ l, (if decide (c % 13 = 7) = true then some (1 + c / 5000 % 15) else some (1 + c / 5000 % 4)) = some l ∧ 1 ≤ l ∧ l ≤ 15 := by
    split <;> exact ⟨_, rfl, by omega⟩
  have q1 : modM c so = some (c % so) := by unfold modM; exact if_pos hs
  have q2 : modM (c / 10) m = some (c / 10 % m) := by unfold modM; exact if_pos hm
  rw [el, Option.bind_some, q1, Option.bind_some, q2, Option.bind_some]
  unfold m_Synapse__init
  exact ⟨_, rfl, ⟨⟨Int.emod_nonneg _ (by omega), Int.emod_lt_of_pos _ hm⟩, Int.emod_nonneg _ (by omega), Int.emod_lt_of_pos _ hs⟩, hl⟩
theorem network_ok (ns : List Int) (hl : ns.length ≤ 63) : ∃ nw, m_u_law_network ns false = some nw ∧ WNet nw ∧ SrcOk nw ∧ Dly15 nw ∧ nw.rule = none ∧ 1 ≤ nw.neurons.length ∧ nw.neurons.length ≤ 5 := by
  obtain ⟨c0, h0⟩ := cell_ok ns 0 (by decide)
  obtain ⟨c1, h1⟩ := cell_ok ns 1 (by decide)
  unfold m_u_law_network
  simp only [bndv_eq, h0, h1, Option.bind_some]
  have hi : 1 ≤ 1 + c0 % 3 ∧ 1 + c0 % 3 ≤ 3 := by omega
  have hm : 1 ≤ 1 + c0 / 3 % 5 ∧ 1 + c0 / 3 % 5 ≤ 5 := by omega
  generalize 1 + c0 % 3 = inp at hi
  generalize 1 + c0 / 3 % 5 = many at hm
  have em : many = ((many.toNat : Nat) : Int) := by omega
  have er : rngM many = some ((List.range many.toNat).map fun k : Nat => (k : Int)) := by
    rw [em]
    exact rngM_ok (by omega)
  obtain ⟨neu, k1, k2, k3⟩ := mapO_ex (f := fun x9 => ((m_u_law_cell ns (2 + x9)).bind fun rv10 => (m_u_law_neuron rv10).bind fun rv12 => some rv12 : Option Neuron)) (P := WN) (xs := (List.range many.toNat).map fun k : Nat => (k : Int)) fun x hx => by
    obtain ⟨k, _, e⟩ := List.mem_map.mp hx
    obtain ⟨c, hc⟩ := cell_ok ns (2 + x) (by omega)
    obtain ⟨n, hn, wn⟩ := neuron_ok c
    exact ⟨n, by simp only [hc, hn, Option.bind_some], wn⟩
  rw [List.length_map, List.length_range] at k2
  obtain ⟨rng, r1, r2, r3⟩ := rng2_ok (lo := 7) (hi := min 23 (ns.length : Int)) (by omega)
  obtain ⟨syn, s1, s2, s3⟩ := fold_append (f := fun (synapses25 : (List Synapse)) (x23 : Int) => (atI ns x23).bind fun v26 => (m_u_law_synapse v26 (inp + many) many false).bind fun rv28 => (appM synapses25 rv28).bind fun synapses30 => some synapses30) (P := fun y => ((0 ≤ y.target ∧ y.target < many) ∧ 0 ≤ y.source ∧ y.source < inp + many) ∧ 1 ≤ y.delay ∧ y.delay ≤ 15) (xs := rng) (acc := []) (fun x hx => by
    have hx := r3 x hx
    obtain ⟨v, hv⟩ : ∃ v, atI ns x = some v := ⟨_, by rw [atI_z (by omega)]; exact List.getElem?_eq_getElem (by omega)⟩
    obtain ⟨y, hy, py⟩ := synapse_ok v (inp + many) many (by omega) (by omega)
    exact ⟨y, py, fun acc => by simp only [hv, hy, Option.bind_some]⟩) (by rw [List.length_nil]; omega)
  rw [er, Option.bind_some, szM_ok (by rw [List.length_map, List.length_range]; omega), Option.bind_some, k1, Option.bind_some, r1, Option.bind_some, s1, Option.bind_some]
  unfold m_Network__init
  refine ⟨_, rfl, ⟨k3, fun y hy => ⟨?_, (s3 y (by simpa using hy)).2.1⟩, by show neu.length ≤ 1000; omega, by show ([] ++ syn).length ≤ 1000; rw [List.nil_append]; omega⟩, ⟨hi, fun y hy => ?_⟩, fun y hy => (s3 y (by simpa using hy)).2.2, rfl, by show 1 ≤ neu.length; omega, by show neu.length ≤ 5; omega⟩
  · have := (s3 y (by simpa using hy)).1.1
    show 0 ≤ y.target ∧ y.target < (neu.length : Int)
    omega
  · have := (s3 y (by simpa using hy)).1.2
    show 0 ≤ y.source ∧ y.source < inp + (neu.length : Int)
    omega
theorem stimuli_ok (ns : List Int) (hl : ns.length ≤ 63) {inp : Int} (hi : 1 ≤ inp ∧ inp ≤ 3) : ∃ st, m_u_law_stimuli ns inp = some st ∧ (∀ x ∈ st, x.length ≤ 1000 ∧ x.Nodup ∧ ∀ j ∈ x, 0 ≤ j ∧ j < inp) ∧ st.length ≤ 100 := by
  unfold m_u_law_stimuli
  simp only [bndv_eq]
  obtain ⟨rng, r1, r2, r3⟩ := rng2_ok (lo := 23) (hi := min 47 (ns.length : Int)) (by omega)
  have er : rngM inp = some ((List.range inp.toNat).map fun k : Nat => (k : Int)) := by
    have := rngM_ok (n := inp.toNat) (by omega)
    rw [show ((inp.toNat : Nat) : Int) = inp by omega] at this
    exact this
  rw [r1, Option.bind_some]
  obtain ⟨st, s1, s2, s3⟩ := fold_append (f := fun (stimuli7 : (List (List Int))) (x5 : Int) => (rngM inp).bind fun rng8 =>
    (szM rng8).bind fun z20 =>
    (lcM (fun x10 => (atI ns x5).bind fun v11 => (shlM 1 x10).bind fun q13 => (fdivM v11 q13).bind fun q15 => some (decide ((q15 % 2) = 1))) (fun x10 => (some x10 : Option Int)) rng8).bind fun lc17 =>
    (appM stimuli7 lc17).bind fun stimuli22 =>
    some stimuli22) (P := fun y : List Int => y.length ≤ 1000 ∧ y.Nodup ∧ ∀ j ∈ y, 0 ≤ j ∧ j < inp) (xs := rng) (acc := []) (fun x hx => by
      have hx := r3 x hx
      obtain ⟨v, hv⟩ : ∃ v, atI ns x = some v := ⟨_, by rw [atI_z (by omega)]; exact List.getElem?_eq_getElem (by omega)⟩
      refine ⟨_, ?_, fun acc => by
        rw [er, Option.bind_some, szM_ok (by rw [List.length_map, List.length_range]; omega), Option.bind_some, lcM_ok (fun j : Int => decide (v / 2 ^ j.toNat % 2 = 1)) (fun j : Int => j) (fun j hj => by
          obtain ⟨k, h1, h2⟩ := List.mem_map.mp hj
          have := List.mem_range.mp h1
          have e1 : shlM 1 j = some (2 ^ j.toNat) := by
            unfold shlM
            rw [if_pos ⟨by omega, by omega, by decide⟩, Int.one_mul]
          have e2 : fdivM v (2 ^ j.toNat) = some (v / 2 ^ j.toNat) := by
            unfold fdivM
            exact if_pos ⟨two_pos _, two_lt ⟨by omega, by omega⟩⟩
          rw [hv, Option.bind_some, e1, Option.bind_some, e2, Option.bind_some]) (fun _ _ => rfl), Option.bind_some]⟩
      refine ⟨?_, ?_, fun j hj => ?_⟩
      · rw [List.length_map]
        have := List.length_filter_le (fun j : Int => decide (v / 2 ^ j.toNat % 2 = 1)) ((List.range inp.toNat).map fun k : Nat => (k : Int))
        rw [List.length_map, List.length_range] at this
        omega
      · rw [List.map_id']
        refine List.Pairwise.filter _ (List.Pairwise.map _ (fun a b h q => h (by omega)) List.nodup_range)
      · rw [List.map_id'] at hj
        obtain ⟨k, h1, h2⟩ := List.mem_map.mp (List.mem_filter.mp hj).1
        have := List.mem_range.mp h1
        omega) (by rw [List.length_nil]; omega)
  rw [s1, Option.bind_some, List.nil_append]
  exact ⟨st, rfl, s3, by omega⟩
theorem claims_ok (ns : List Int) (hl : ns.length ≤ 63) {nw : Network} (hi : 1 ≤ nw.inputs ∧ nw.inputs ≤ 3) (hm : 1 ≤ nw.neurons.length ∧ nw.neurons.length ≤ 5) : ∃ cs : List Cl, m_u_law_claims ns nw = some (cs.map Cl.e) ∧ (∀ c ∈ cs, c.ok) ∧ cs.length ≤ 3 := by
  obtain ⟨c, e3⟩ := cell_ok ns 47 (by decide)
  unfold m_u_law_claims
  have md : ∀ {a b : Int}, 0 < b → modM a b = some (a % b) := fun h => by unfold modM; rw [if_pos h]
  simp only [bndv_eq, e3, Option.bind_some]
  rw [md (by omega), Option.bind_some, md (by omega), Option.bind_some, md (by omega), Option.bind_some]
  by_cases z : (1 : Int) < (nw.neurons.length : Int)
  · rw [if_pos (decide_eq_true z), md (by omega), Option.bind_some, md (by omega), Option.bind_some, md (by omega), Option.bind_some, appM_ok (by show 2 < 16000000; decide), Option.bind_some, Option.bind_some]
    refine ⟨[.never _, .answer _ _ _, .apart _ _], rfl, fun c hc => ?_, by show 3 ≤ 3; decide⟩
    rcases List.mem_cons.mp hc with rfl | hc
    · trivial
    · rcases List.mem_cons.mp hc with rfl | hc
      · show 1 ≤ 1 + _ % 6 ∧ 1 + _ % 6 ≤ 6
        omega
      · rw [List.mem_singleton.mp hc]
        trivial
  · rw [if_neg (by simpa using z), Option.bind_some]
    refine ⟨[.never _, .answer _ _ _], rfl, fun c hc => ?_, by show 2 ≤ 3; decide⟩
    rcases List.mem_cons.mp hc with rfl | hc
    · trivial
    · rw [List.mem_singleton.mp hc]
      show 1 ≤ 1 + _ % 6 ∧ 1 + _ % 6 ≤ 6
      omega
theorem loop_then {β γ ρ : Type} {f : β → Int → Option (Fl β ρ)} {g : Sum β ρ → Option γ} {P : γ → Prop} (J : Nat → β → Prop) {n : Nat} {b : β} (h : ∀ (j : Nat) b, j < n → J j b → ∃ r, f b (j : Int) = some r ∧ ∃ b', r = .go b' ∧ J (j + 1) b') (h0 : J 0 b)
    (hg : ∀ b', J n b' → ∃ r, g (.inl b') = some r ∧ P r) : ∃ r, (loopM f b ((List.range n).map fun k : Nat => (k : Int))).bind g = some r ∧ P r := by
  obtain ⟨b', e, j⟩ := loop_rng (f := f) J (n := n) (b := b) (fun j b hj hb => by
    obtain ⟨r, e1, b', e2, e3⟩ := h j b hj hb
    exact ⟨b', by rw [e1, e2], e3⟩) h0
  rw [e, Option.bind_some]
  exact hg b' j
def AtP (st sp : List (List Int)) (t : Nat) (c : Cl) (b : Bool) (w : Int) : Prop := w = c.w st sp t ∧ (b = false → ∀ u, u < t → c.due st sp u = false)
theorem at_next {st sp : List (List Int)} {t : Nat} {c : Cl} {b : Bool} {w : Int} (h : AtP st sp t c b w) : AtP st sp (t + 1) c (b || c.due st sp t) (c.w st sp (t + 1)) := by
  refine ⟨rfl, fun hb u hu => ?_⟩
  rw [Bool.or_eq_false_iff] at hb
  by_cases z : u = t
  · rw [z]; exact hb.2
  · exact h.2 hb.1 u (by omega)
theorem bit1 {x : Int} (h : 0 ≤ x) : Builtin.bitAnd x 1 = x % 2 := by
  unfold Builtin.bitAnd
  rw [decide_eq_true h]
  show ((x.toNat &&& 1 : Nat) : Int) = x % 2
  rw [Nat.and_one_is_mod]
  omega
section
variable {α γ : Type} {P : γ → Prop}
theorem ex_bind {o : Option α} {a : α} {f : α → Option γ} (h : o = some a) (k : ∃ r, f a = some r ∧ P r) : ∃ r, o.bind f = some r ∧ P r := by
  obtain ⟨r, h1, h2⟩ := k
  exact ⟨r, (bind_eq h).trans h1, h2⟩
theorem ex_bndv {a : α} {f : α → Option γ} (k : ∃ r, f a = some r ∧ P r) : ∃ r, bndv a f = some r ∧ P r := by
  obtain ⟨r, h1, h2⟩ := k
  exact ⟨r, (bndv_eq _ _).trans h1, h2⟩
theorem ex_ff {c : Bool} {x y : Option γ} (h : c = false) (k : ∃ r, y = some r ∧ P r) : ∃ r, (if c = true then x else y) = some r ∧ P r := by
  obtain ⟨r, h1, h2⟩ := k
  exact ⟨r, by rw [if_neg (by rw [h]; exact Bool.false_ne_true)]; exact h1, h2⟩
theorem ex_tt {c : Bool} {x y : Option γ} (h : c = true) (k : ∃ r, x = some r ∧ P r) : ∃ r, (if c = true then x else y) = some r ∧ P r := by
  obtain ⟨r, h1, h2⟩ := k
  exact ⟨r, by rw [if_pos h]; exact h1, h2⟩
end
theorem main (ns : List Int) (h : ns.length ≤ 63) : m_law ns = some true := by
  obtain ⟨nw, e1, wf, so, dl, hr, hm1, hm2⟩ := network_ok ns h
  obtain ⟨st, e2, s1, s2⟩ := stimuli_ok ns h so.1
  obtain ⟨cs, e3, c1, c2⟩ := claims_ok ns h so.1 ⟨hm1, hm2⟩
  obtain ⟨v48, e4⟩ := cell_ok ns 48 (by decide)
  have er := run_ok wf (fun x hx => (s1 x hx).1) (show st.length ≤ 1000 by omega)
  have hi := so.1
  have lsp := run_len wf (stims := st)
  have hz : nw.neurons.map (fun _ => (0 : Int)) = List.replicate nw.neurons.length 0 := List.map_const' ..
  have r15 : rngM 15 = some ((List.range 15).map fun k : Nat => (k : Int)) := rngM_ok (n := 15) (by decide)
  have hw : ∀ t, (atT nw st t).w = nw.synapses.map (·.weight) := fun t => still_w hr
  have lc : (cs.map Cl.e).length = cs.length := List.length_map ..
  have rst : rngM (st.length : Int) = some ((List.range st.length).map fun k : Nat => (k : Int)) := rngM_ok (by omega)
  have rcs : rngM ((cs.map Cl.e).length : Int) = some ((List.range cs.length).map fun k : Nat => (k : Int)) := by rw [lc]; exact rngM_ok (by omega)
  have nl := wf.nl
  suffices hs : ∃ r, m_law ns = some r ∧ r = true by
    obtain ⟨r, q1, q2⟩ := hs
    rw [q1, q2]
  unfold m_law
  refine ex_bind e1 (ex_bind e2 (ex_bind er (ex_bndv ?_)))
  refine ex_bind (szM_ok (by omega)) (ex_bind (mapO_ok (fun _ => (0 : Int)) (fun _ _ => rfl)) (ex_bind (start_enc wf dl) (ex_bind r15 (ex_bind (szM_ok (by rw [List.length_map, List.length_range]; decide)) (ex_bind (mapO_ok (fun _ => nw.neurons.map (fun _ => (0 : Int))) (fun _ _ => rfl)) (ex_ff ?_ ?_))))))
  · rw [hz, List.map_const', List.length_map, List.length_range, decide_eq_true (Eq.refl _)]
    rfl
  refine ex_bind e3 (ex_bind (szM_ok (by omega)) (ex_bind (mapO_ok (fun _ => (0 : Int)) (fun _ _ => rfl)) (ex_bind (szM_ok (by omega)) (ex_bind (mapO_ok (fun _ => false) (fun _ _ => rfl)) (ex_bind rst ?_)))))
  refine loop_then (fun t (b : List Bool × List Int × (List Int × List Int × List (List Int))) => b.2.2 = EncP nw (atT nw st t) t ∧ ∀ (j : Nat) c, cs[j]? = some c → ∃ bj wj, b.1[j]? = some bj ∧ b.2.1[j]? = some wj ∧ AtP st (runP nw st).spikes t c bj wj) (fun t b ht hb => ?_) ⟨enc_start.symm, fun j c hj => ?_⟩ fun b hb => ?_
  · obtain ⟨br, wa, sta⟩ := b
    obtain ⟨b1, b2⟩ := hb
    have b1 : sta = EncP nw (atT nw st t) t := b1
    subst b1
    have a1 : atI st (t : Int) = some st[t] := by rw [atI_n, List.getElem?_eq_getElem ht]
    have q := s1 _ (List.getElem_mem ht)
    have ad := advance_ok wf so dl (atT_inv wf (Nat.le_of_lt ht)) (hw t) (stim := st[t]) q.2 q.1
    rw [← atT_next (List.getElem?_eq_getElem ht)] at ad
    have rs := run_spk wf ht
    have a2 : atI (runP nw st).spikes (t : Int) = some (spkN nw (atT nw st t) t) := by rw [atI_n, rs]
    refine ex_bind a1 (ex_bind ad ?_)
    refine ex_bind (a := false) ?_ (ex_ff rfl ?_)
    · refine (if_neg (by decide)).trans ((bind_eq a2).trans ((bind_eq (a := false) ?_).trans rfl))
      refine (if_neg (by rw [decide_eq_true (Eq.refl _)]; decide)).trans ((bind_eq a1).trans ((bind_eq ad).trans ?_))
      rw [decide_eq_true (Eq.refl _)]
      rfl
    refine ex_bind rcs ?_
    refine loop_then (fun k (b : List Bool × List Int) => ∀ (j : Nat) c, cs[j]? = some c → ∃ bj wj, b.1[j]? = some bj ∧ b.2[j]? = some wj ∧ AtP st (runP nw st).spikes (if j < k then t + 1 else t) c bj wj) (fun k b hk hb => ?_) (fun j c hj => ?_) fun b hb => ?_
    · obtain ⟨br, wa⟩ := b
      have ec : cs[k]? = some cs[k] := List.getElem?_eq_getElem hk
      have ck := c1 _ (List.getElem_mem hk)
      obtain ⟨bk, wk, f1, f2, f3⟩ := hb k cs[k] ec
      rw [if_neg (Nat.lt_irrefl k)] at f3
      have f1 : br[k]? = some bk := f1
      have f2 : wa[k]? = some wk := f2
      have lk1 := (List.getElem?_eq_some_iff.mp f1).1
      have lk2 := (List.getElem?_eq_some_iff.mp f2).1
      have g0 : atI (cs.map Cl.e) (k : Int) = some cs[k].e := by rw [atI_n, List.getElem?_map, ec]; rfl
      have g1 : atI br (k : Int) = some bk := by rw [atI_n, f1]
      have g2 : atI wa (k : Int) = some wk := by rw [atI_n, f2]
      have d1 := breaks_ok (st := st) (sp := (runP nw st).spikes) cs[k] ck ht (by rw [lsp]; exact ht) (by omega)
      obtain ⟨tb, d2, d3⟩ := isb_ok (st := st) (sp := (runP nw st).spikes) cs[k] ck rs
      have d4 := nextw_ok (st := st) (sp := (runP nw st).spikes) cs[k] ck (List.getElem?_eq_getElem ht) rs
      rw [← f3.1] at d2 d4
      refine ex_bind g0 (ex_bind d1 (ex_bind g0 (ex_bind g2 (ex_bind a2 (ex_bind d2 (ex_bind g1 (ex_ff ?_ ?_)))))))
      · cases bk with
        | true => rfl
        | false =>
          rw [d3 (f3.2 rfl)]
          cases cs[k].due st (runP nw st).spikes t <;> rfl
      refine ex_bind g1 (ex_bind (setM_n lk1) (ex_bind g0 (ex_bind g2 (ex_bind a1 (ex_bind a2 (ex_bind d4 (ex_bind (setM_n lk2) (ex_bind g0 (ex_bind (a := false) ?_ (ex_ff rfl ?_))))))))))
      · by_cases z : (!(cs[k].e.1 == ("answer" : Str))) = true
        · refine (if_pos z).trans ((bind_eq (a := cs[k].w st (runP nw st).spikes (t + 1)) ?_).trans ?_)
          · rw [atI_n, List.getElem?_set_self lk2]
          · rw [cl_w0 cs[k] z]
            rfl
        · exact if_neg z
      refine ⟨_, rfl, _, rfl, fun j c hj => ?_⟩
      by_cases z : j = k
      · subst z
        rw [ec] at hj
        cases hj
        refine ⟨_, _, List.getElem?_set_self lk1, List.getElem?_set_self lk2, ?_⟩
        rw [if_pos (Nat.lt_succ_self j)]
        exact at_next f3
      · obtain ⟨bj, wj, r1, r2, r3⟩ := hb j c hj
        refine ⟨bj, wj, (List.getElem?_set_ne (Ne.symm z)).trans r1, (List.getElem?_set_ne (Ne.symm z)).trans r2, ?_⟩
        by_cases y : j < k
        · rw [if_pos y] at r3
          rw [if_pos (by omega)]
          exact r3
        · rw [if_neg y] at r3
          rw [if_neg (by omega)]
          exact r3
    · rw [if_neg (Nat.not_lt_zero j)]
      exact b2 j c hj
    · obtain ⟨br, wa⟩ := b
      refine ex_bndv ⟨_, rfl, _, rfl, rfl, fun j c hj => ?_⟩
      have := hb j c hj
      rw [if_pos (List.getElem?_eq_some_iff.mp hj).1] at this
      exact this
  · refine ⟨false, 0, ?_, ?_, ?_, fun _ u hu => absurd hu (Nat.not_lt_zero u)⟩
    · show (List.map _ (cs.map Cl.e))[j]? = _
      rw [List.getElem?_map, List.getElem?_map, hj]
      rfl
    · show (List.map _ (cs.map Cl.e))[j]? = _
      rw [List.getElem?_map, List.getElem?_map, hj]
      rfl
    · cases c <;> rfl
  · obtain ⟨br, wa, sta⟩ := b
    have ei : nw.inputs = ((nw.inputs.toNat : Nat) : Int) := by omega
    have rin : rngM nw.inputs = some ((List.range nw.inputs.toNat).map fun k : Nat => (k : Int)) := by
      have := rngM_ok (n := nw.inputs.toNat) (by omega)
      rw [← ei] at this
      exact this
    have q1 : shlM 1 nw.inputs = some (2 ^ nw.inputs.toNat) := by
      unfold shlM
      rw [if_pos ⟨by omega, by omega, by decide⟩, Int.one_mul]
    have q2 : modM v48 (2 ^ nw.inputs.toNat) = some (v48 % 2 ^ nw.inputs.toNat) := by
      unfold modM
      rw [if_pos (two_pos _)]
    have hn := Int.emod_nonneg v48 (show (2 : Int) ^ nw.inputs.toNat ≠ 0 from Int.ne_of_gt (two_pos _))
    have zl : szM ((List.range nw.inputs.toNat).map fun k : Nat => (k : Int)) = some ((List.range nw.inputs.toNat).map fun k : Nat => (k : Int)) := szM_ok (by rw [List.length_map, List.length_range]; omega)
    have so1 : m_stimulus_of nw (v48 % 2 ^ nw.inputs.toNat) = some ((((List.range nw.inputs.toNat).map fun k : Nat => (k : Int)).filter fun j => decide ((v48 % 2 ^ nw.inputs.toNat) / 2 ^ j.toNat % 2 = 1)).map fun j => j) := by
      unfold m_stimulus_of
      refine (bind_eq rin).trans ((bind_eq zl).trans ((bind_eq (lcM_ok (fun j : Int => decide ((v48 % 2 ^ nw.inputs.toNat) / 2 ^ j.toNat % 2 = 1)) (fun j : Int => j) (fun j hj => ?_) (fun _ _ => rfl))).trans rfl))
      obtain ⟨k, h1, h2⟩ := List.mem_map.mp hj
      have e1 : shrM (v48 % 2 ^ nw.inputs.toNat) j = some (v48 % 2 ^ nw.inputs.toNat / 2 ^ j.toNat) := by
        unfold shrM
        exact if_pos (by omega)
      refine (bind_eq e1).trans ?_
      rw [bit1 (Int.ediv_nonneg hn (Int.le_of_lt (two_pos _)))]
    refine ex_bind e4 (ex_bind q1 (ex_bind q2 (ex_bind so1 (ex_bind rin (ex_bind zl (ex_bind (lcM_ok (fun j : Int => decide ((v48 % 2 ^ nw.inputs.toNat) / 2 ^ j.toNat % 2 = 1)) (fun j : Int => j) (fun j hj => ?_) (fun _ _ => rfl)) ⟨_, rfl, decide_eq_true rfl⟩))))))
    obtain ⟨k, h1, h2⟩ := List.mem_map.mp hj
    have hk := List.mem_range.mp h1
    have e1 : shlM 1 j = some (2 ^ j.toNat) := by
      unfold shlM
      rw [if_pos ⟨by omega, by omega, by decide⟩, Int.one_mul]
    have e2 : fdivM (v48 % 2 ^ nw.inputs.toNat) (2 ^ j.toNat) = some (v48 % 2 ^ nw.inputs.toNat / 2 ^ j.toNat) := by
      unfold fdivM
      exact if_pos ⟨two_pos _, two_lt ⟨by omega, by omega⟩⟩
    exact (bind_eq e1).trans ((bind_eq e2).trans rfl)
theorem fin {K : PySem.W.Frag} (H : Hp) (a : Addr) (ns : List Int) (hl : ns.length ≤ 63) (hS : SqL K H a (ns.map V.int)) : spR (R_law K) [.ref a] H (fun v _ => v = .bl true) fun _ _ _ => False :=
  ⟨[pScr K ns], pB true, H, ⟨ns, true, rfl, rfl, main ns hl⟩, Gw.refl H, ⟨⟨a, rfl, hS, hl⟩, trivial⟩, fun v G' H' g p => p⟩
end K18
open PySem PySem.W PySem.Calls PyProof.Rows
theorem PySem.Challenge.cw_spikehold_k18_states_of_a_network_holds : PySem.Challenge.rw_spikehold_k18_states_of_a_network.Holds := by
  w_on; o_law
  refine HandSHeadRun.head_any (r := OpenLaw.row PySem.Challenge.rw_spikehold_k18_states_of_a_network) (q := view (OpenLaw.row PySem.Challenge.rw_spikehold_k18_states_of_a_network).prog [43]) (H := K18.hk) (ob := K18.ob) (M := 12000) (loose := (("Neuron" : Str) :: ("step" : Str) :: ("_leaked" : Str) :: ("_left_after_spike" : Str) :: ("Synapse" : Str) :: ("Rule" : Str) :: ("Network" : Str) :: ("Run" : Str) :: ("depressed" : Str) :: ("potentiated" : Str) :: ("run" : Str) :: ("state_at_start" : Str) :: ("state_after" : Str) :: ("after_steps" : Str) :: ("weights_of" : Str) :: ("_arriving" : Str) :: ("_has_fired" : Str) :: ("_incoming_sums" : Str) :: ("_after_losses" : Str) :: ("_after_gains" : Str) :: ("_is_recent" : Str) :: ("_noted" : Str) :: ("_spiking_sources" : Str) :: ("initial_state" : Str) :: ("advance" : Str) :: ("stimulus_of" : Str) :: ("next_watch" : Str) :: ("is_broken" : Str) :: ("_effects" : Str) :: ("_before_stimulus" : Str) :: ("_with_sources" : Str) :: ("_law_cell" : Str) :: ("_law_neuron" : Str) :: ("_law_synapse" : Str) :: ("_law_network" : Str) :: ("_law_stimuli" : Str) :: ("_law_breaks" : Str) :: ("_law_claims" : Str) :: ("TICKS_AHEAD" : Str) :: [])) (d := HandSHeadRun.topDef (OpenLaw.row PySem.Challenge.rw_spikehold_k18_states_of_a_network).prog 43) (kwd := []) K18.ob_eq
    (by kernel_rfl) (fun s => by kernel_rfl) K18.run (by kernel_rfl) (by kernel_rfl) (by kernel_rfl) (by rfl) (by first | assumption | decide +kernel) (by decide +kernel) ⟨rfl, rfl, rfl, rfl, rfl, by decide +kernel⟩ ?hw ?hc
  case hw => w_witness2
  case hc =>
    refine L2.walk_ofE (l := PySem.Challenge.rw_spikehold_k18_states_of_a_network) (n := 63) (k := 26) (x := "script") (CX := L2.CX0) rfl (by decide) (by kernel_rfl) ⟨rfl, by decide, by decide⟩ ?F (fun _ _ _ _ z => z)
    intro w mg fa h Y G hmg0
    obtain ⟨K, KX, c⟩ := Y
    have hmg : mg ("law" : PySem.Str) = some (.ref fa) := by
      have e : (HandSHeadRun.topDef (OpenLaw.row PySem.Challenge.rw_spikehold_k18_states_of_a_network).prog 43).name = ("law" : PySem.Str) := by kernel_rfl
      rw [← e]
      exact hmg0
    obtain ⟨fd, hb, hF⟩ := K18.facts (P := (PySem.Challenge.rw_spikehold_k18_states_of_a_network).prog) (w := w) KX G hmg c
    exact ⟨K, fd, Y.spR (K18.R_law K), KX, hb, fun H a ns hl _ hS => K18.fin H a ns hl hS, hF⟩

